import PyProof.Rows.All
import Wide.All
import OpenK.AllK
import Wide.FinOn
import HandS.ForMost
import HandS.TupSets
import HandS.SetFor
import KE.SortData
import HandS.SetKeys
import HandS.ForExc
import HandS.Walk
import HandS.DictComp
import HandS.DictTup
import HandS.ExcInit
import KE.KExcSuper
import KE.KExcMake
import HandS.ExcField
import HandS.ExcIs
import HandS.WordsExc
import KE.KExcIs
import KE.DataEq
import HandS.OwnEq
import HandS.IsInst
import KE.KOpsOwn
import OpenK.KMeth
import OpenK.KOps
import HandS.OwnIter
import HandS.IterNext
import HandS.ExcValue
import PyProof.CollectWalk
import HandS.Lambda
import PyProof.DictFindH
import HandS.Defaults
import HandS.Wide
import HandS.StrMore
import HandS.Style
import HandS.Deep
import HandS.HeadWalk
import KE.KNestM
import HandS.EndTab
import PySem.Challenge.RW_handedkeys_k01_whole_states
set_option Elab.async false
set_option linter.all false
set_option maxRecDepth 100000
set_option maxHeartbeats 4000000
/-! Sets made of a list or a tuple, whatever the items: one theorem over a step. -/
namespace Hk
open PySem PySem.Spec PyProof.Rows L2

theorem sub_tuple_set : isSubtype (.type "tuple") (.type "set") = pure false := by
  rw [isSubtype_type]
  kernel_rfl
theorem sub_tuple_frozenset : isSubtype (.type "tuple") (.type "frozenset") = pure false := by
  rw [isSubtype_type]
  kernel_rfl

/-- the new set's object -/
def freshSet (w : World) : Obj := { cls := .type "set", dict := none, data := .set #[] 0 (.fresh 0 0 (!w.params.followText "set-order")) }

section
variable {P : Program} {w : World} {A : Around} {E : Value → Shared → Prop} {s : Shared}

/-- one item more: what has to be shown of set.add, J i told of the heap behind i items -/
def AddStep (P : Program) (w : World) (h0 : Heap) (S : Addr) (vs : List Value) (J : Nat → Heap → Prop) (room : Nat) : Prop :=
  ∀ (A' : Around) (E' : Value → Shared → Prop) (Q : Bool → Shared → Prop) (i : Nat) (v : Value) (s1 : Shared), A'.units + room < cLine → vs[i]? = some v → J i s1.heap →
    (∀ b o, h0.get? b = some o → s1.heap.get? b = some o) →
    (∀ (c : Bool) (h' : Heap) (tk : Nat), Heap.SameBut S s1.heap h' → J (i + 1) h' → s1.toks ≤ tk → Q c { s1 with heap := h', toks := tk }) →
    wpAny (model P w) A' (setAdd S v) Q E' s1

/-- set.update's loop, for any items -/
theorem update_loop_any {I : Addr} {fp wr : List Addr} {G : Array GenState → Array GenState → Prop} {n : Nat} {Pv : Nat → Value → Prop} {St : Nat → Shared → Prop} {R : Result → Shared → Prop} {J : Nat → Heap → Prop} {room : Nat}
    (W : WalksS P w A.in1 I fp wr G n Pv St) (S : Addr) (hSf : S ∉ fp) (vs : List Value) (hn : n = vs.length) (hval : ∀ i v, Pv i v → vs[i]? = some v)
    (h0 : Heap) (hS0 : h0.get? S = none) (hw0 : ∀ b ∈ wr, h0.get? b = none) (hu : A.in1.units + room < cLine)
    (hstep : AddStep P w h0 S vs J room) (hJ : ∀ i h h', J i h → (∀ o, h.get? S = some o → h'.get? S = some o) → (∀ b o, h0.get? b = some o → h'.get? b = some o) → J i h') :
    ∀ (k i : Nat) (s : Shared), n - i = k → i ≤ n → St i s → (∀ b o, h0.get? b = some o → s.heap.get? b = some o) → J i s.heap →
      (∀ s', Moved (S :: wr) G s s' → J n s'.heap → (∀ b o, h0.get? b = some o → s'.heap.get? b = some o) → R (.ok (.ret .none)) s') →
      codeAny (model P w) A (.builtin "set.update.loop" ⟨[.ref S, .ref I], []⟩) R s := by
  have nSw : S ∉ wr := fun q => hSf (W.sub _ q)
  have wider : ∀ b ∈ wr, b ∈ S :: wr := fun b q => List.mem_cons_of_mem _ q
  have stays : ∀ {a b : Shared}, Moved wr G a b → (∀ c o, h0.get? c = some o → a.heap.get? c = some o) → ∀ c o, h0.get? c = some o → b.heap.get? c = some o := fun m k c o e =>
    m.heap c o (fun q => by rw [hw0 c q] at e; cases e) (k c o e)
  intro k
  induction k with
  | zero =>
    intro i s ek hi st kp j fin
    have ei : i = n := by omega
    subst ei
    refine codeAny_builtin F.entry_set_update_loop ?_
    rw [Around.under_plainId F.plain_set_update_loop _]
    show wpAny _ A.in1 (pyNext (.ref I) >>= _) _ _ s
    refine wpAny_bind (W.done s _ _ st fun b m => ?_)
    show wpAny _ A.in1 (ret Value.none) _ _ b
    have kp2 := stays m kp
    exact wpAny_pure (fin b (m.mono wider) (hJ _ _ _ j (fun o e => m.heap S o nSw e) kp2) kp2)
  | succ k ih =>
    intro i s ek hi st kp j fin
    have lt : i < n := by omega
    refine codeAny_builtin F.entry_set_update_loop ?_
    rw [Around.under_plainId F.plain_set_update_loop _]
    show wpAny _ A.in1 (pyNext (.ref I) >>= _) _ _ s
    refine wpAny_bind (W.item i s _ _ lt st fun v b pv st2 m => ?_)
    have kp2 := stays m kp
    have j2 := hJ _ _ _ j (fun o e => m.heap S o nSw e) kp2
    show wpAny _ A.in1 (holding [v] (setAdd S v) >>= _) _ _ b
    refine wpAny_bind (wpAny_holding ?_)
    refine hstep A.in1 _ _ i v b hu (hval i v pv) j2 kp2 fun c h2 tk same j3 le => ?_
    have kp3 : ∀ a o, h0.get? a = some o → h2.get? a = some o := fun a o e => (same.2 a (fun q => by rw [q, hS0] at e; cases e)).trans (kp2 a o e)
    refine wpAny_pure ⟨plainId_quiet F.plain_set_update_loop _, ih (i + 1) { b with heap := h2, toks := tk } (by omega) lt (W.frame _ b _ _ st2 le fun a ha o e => ?_) kp3 j3 fun z mz jz kz => ?_⟩
    · rw [same.2 a (fun q : a = S => hSf (by rw [← q]; exact ha))]
      exact e
    · refine fin z (Moved.trans W.gtrans ((m.mono wider).then_heap le fun a o ha e => ?_) mz) jz kz
      rw [same.2 a (fun q : a = S => ha (by rw [q]; exact List.mem_cons_self))]
      exact e
end
end Hk
set_option Elab.async false
set_option linter.all false
set_option maxRecDepth 100000
set_option maxHeartbeats 4000000
namespace Hk
open PySem PySem.Spec PyProof.Rows L2
section
variable {P : Program} {w : World} {A : Around} {E : Value → Shared → Prop} {s : Shared}

/-- what a walk over the object at l is made of: a list's or a tuple's -/
structure Seqs (P : Program) (w : World) (T : String) (l : Addr) (items : Array Value) (s : Shared) : Prop where
  cls : ∃ o, s.heap.get? l = some o ∧ o.cls = .type T
  s1 : isSubtype (.type T) (.type "set") = pure false
  s2 : isSubtype (.type T) (.type "frozenset") = pure false
  nd : (Value.type T == Value.type "dict") = false
  it : ∀ (A1 : Around) (E1 : Value → Shared → Prop) (Q1 : Value → Shared → Prop) (x : Obj), A1.handled = none →
    (∀ (It : Addr) (h2 : Heap) (fp wr : List Addr) (G : Array GenState → Array GenState → Prop) (St : Nat → Shared → Prop),
      (∀ g g' : Array GenState, G g g' → g' = g) →
      (∀ b ∈ fp, b = l ∨ s.heap.objs.size < b) → (∀ b ∈ wr, s.heap.objs.size < b) → (∀ b o, (s.heap.push x).get? b = some o → h2.get? b = some o) → St 0 { s with heap := h2 } →
      (∀ A2 : Around, A2.handled = none → WalksS P w A2 It fp wr G items.size (fun i v => items[i]? = some v) St) → Q1 (.ref It) { s with heap := h2 }) →
    wpAny (model P w) A1 (pyIter (.ref l)) Q1 E1 { s with heap := s.heap.push x }

theorem Seqs.list {l : Addr} {items : Array Value} (h : s.heap.IsList l items) : Seqs P w "list" l items s where
  cls := let ⟨o, ho, hc, _⟩ := h; ⟨o, ho, hc⟩
  s1 := F.sub_list_set
  s2 := F.sub_list_frozenset
  nd := by decide
  it := fun A1 E1 Q1 x hh go => by
    have lt : l < s.heap.objs.size := let ⟨o, ho, _⟩ := h; Heap.lt_size ho
    have sz : (s.heap.push x).objs.size = s.heap.objs.size + 1 := Heap.size_push ..
    have ne : l ≠ (s.heap.push x).objs.size := by rw [sz]; exact Nat.ne_of_lt (Nat.lt_succ_of_lt lt)
    refine wpAny_pyIter_list (h.push _) ?_
    refine go _ _ _ _ _ _ (fun _ _ g => g) (fun b hb => ?_) (fun b hb => ?_) (fun b o e => Heap.get?_push_of_some _ e) ?_ fun A2 h2 => (Walks.list h2 _ l ne items).toS
    · rcases List.mem_cons.mp hb with e | hb
      · right; rw [e, sz]; exact Nat.lt_succ_self _
      · left; exact List.mem_singleton.mp hb
    · rw [List.mem_singleton.mp hb, sz]; exact Nat.lt_succ_self _
    · exact ⟨⟨_, Heap.get?_push_size _ rfl, rfl, rfl⟩, (h.push _).push _⟩
theorem Seqs.tuple {l : Addr} {items : Array Value} (h : s.heap.IsTuple l items) : Seqs P w "tuple" l items s where
  cls := let ⟨o, ho, hc, _⟩ := h; ⟨o, ho, hc⟩
  s1 := sub_tuple_set
  s2 := sub_tuple_frozenset
  nd := by decide
  it := fun A1 E1 Q1 x hh go => by
    have lt : l < s.heap.objs.size := let ⟨o, ho, _⟩ := h; Heap.lt_size ho
    have sz : (s.heap.push x).objs.size = s.heap.objs.size + 1 := Heap.size_push ..
    have ne : l ≠ (s.heap.push x).objs.size := by rw [sz]; exact Nat.ne_of_lt (Nat.lt_succ_of_lt lt)
    have h1 : (s.heap.push x).IsTuple l items := let ⟨o, ho, r⟩ := h; ⟨o, Heap.get?_push_of_some _ ho, r⟩
    refine wpAny_pyIter_tuple h1 ?_
    refine go _ _ _ _ _ _ (fun _ _ g => g) (fun b hb => ?_) (fun b hb => ?_) (fun b o e => Heap.get?_push_of_some _ e) ?_ fun A2 h2 => (Walks.tuple h2 _ l ne items).toS
    · rcases List.mem_cons.mp hb with e | hb
      · right; rw [e, sz]; exact Nat.lt_succ_self _
      · left; exact List.mem_singleton.mp hb
    · rw [List.mem_singleton.mp hb, sz]; exact Nat.lt_succ_self _
    · exact ⟨⟨_, Heap.get?_push_size _ rfl, rfl, rfl⟩, let ⟨o, ho, r⟩ := h1; ⟨o, Heap.get?_push_of_some _ ho, r⟩⟩
end
end Hk
set_option Elab.async false
set_option linter.all false
set_option maxRecDepth 100000
set_option maxHeartbeats 4000000
namespace Hk
open PySem PySem.Spec PyProof.Rows L2
section
variable {P : Program} {w : World} {A : Around} {E : Value → Shared → Prop} {s : Shared}
theorem get_end {h : Heap} {b : Addr} (hb : h.objs.size ≤ b) : h.get? b = none := by
  cases q : h.get? b with
  | none => rfl
  | some o => exact absurd (Nat.lt_of_lt_of_le (Heap.lt_size q) hb) (Nat.lt_irrefl _)

set_option maxHeartbeats 8000000 in
/-- set(x), x a list or a tuple, by one step -/
theorem call_set_any {T : String} {l : Addr} {items : Array Value} {J : Nat → Heap → Prop} {room : Nat} {Q : Value → Shared → Prop} (hh : A.handled = none) (W : Seqs P w T l items s)
    (hu : A.units + 3 + room < cLine) (hstep : AddStep P w s.heap s.heap.objs.size items.toList J room)
    (hJ : ∀ i h h', J i h → (∀ o, h.get? s.heap.objs.size = some o → h'.get? s.heap.objs.size = some o) → (∀ b o, s.heap.get? b = some o → h'.get? b = some o) → J i h')
    (h0 : ∀ h', h'.get? s.heap.objs.size = some (freshSet w) → (∀ b o, s.heap.get? b = some o → h'.get? b = some o) → J 0 h')
    (h : ∀ (h' : Heap) (tk : Nat), J items.size h' → (∀ b o, s.heap.get? b = some o → h'.get? b = some o) → Q (.ref s.heap.objs.size) { s with heap := h', toks := tk }) :
    wpAny (model P w) A (call (.type "set") [.ref l]) Q E s := by
  obtain ⟨c, tl, hmro⟩ := F.called_set.mro
  have made := F.called_set.made
  have sub := F.called_set.sub
  refine wpAny_call (codeAny_of_tree ?_)
  show wpAny _ _ (callAny (.type "set") _) _ _ _
  refine wpAny_pure ⟨Code.quiet_builtin _ (by decide +kernel), codeAny_builtin F.entry_type_call ?_⟩
  rw [Around.under_plain (weight_type_call_type "set" [.ref l] []) rfl]
  have q1 := F.called_set.notType
  have q2 := F.called_set.canCreate
  have q3 := F.typeCall_set_1 (.ref l)
  repeat (any_goals (first | assumption | wp_step))
  refine codeAny_mono (code_set_led1 (.ref l) (E := E) (Q₁ := fun obj s₁ => obj = .ref s.heap.objs.size ∧ s₁ = { s with heap := s.heap.push (freshSet w) }) ⟨rfl, rfl⟩) fun r s₁ hr => ?_
  cases r with
  | error e => exact hr
  | ok fl =>
    cases fl with
    | ret obj =>
      obtain ⟨rfl, rfl⟩ := hr
      have hS : (s.heap.push (freshSet w)).get? s.heap.objs.size = some (freshSet w) := Heap.get?_push_size _ rfl
      have hT : Shared.TypeIs { s with heap := s.heap.push (freshSet w) } (.ref s.heap.objs.size) "set" := ⟨_, hS, rfl⟩
      have li := F.called_set.init.lookup
      have bi := F.called_set.init.bind (.ref s.heap.objs.size)
      repeat (any_goals (first | assumption | wp_step))
      refine codeAny_mono (codeAny_call_builtin (R := wants (fun r s₂ => r = .none ∧ ∃ h' tk, s₂ = { s with heap := h', toks := tk } ∧ J items.size h' ∧
          (∀ b o, s.heap.get? b = some o → h'.get? b = some o)) E) F.called_set.init.plain F.entry_set_init (check_set_init_1 hT ?_)) fun r₂ s₂ hr₂ => ?_
      · obtain ⟨⟨ol, hol, hcl⟩, ws1, ws2, wnd, wit⟩ := W
        obtain ⟨ocls, odict, odata, oslots⟩ := ol
        simp only at hcl
        subst hcl
        have hol' : (s.heap.push (freshSet w)).get? l = some { cls := .type T, dict := odict, data := odata, slots := oslots } := Heap.get?_push_of_some _ hol
        have z1 := ws1
        have z2 := ws2
        have z3 := wnd
        unfold Builtin.«set.__init__» noKeywords Builtin.Frozenset.updateFrom
        generalize hPI : pyIter = PI
        wp_walk
        subst hPI
        refine wit _ _ _ (freshSet w) (by simp [hh]) fun It h2 fp wr G St geq hfp hwr hk2 st0 wk => ?_
        refine wpAny_bind (wpAny_runValue ?_)
        have nf : s.heap.objs.size ∉ fp := fun m => by
          rcases hfp _ m with e | e
          · have lt := Heap.lt_size hol
            rw [← e] at lt
            exact absurd lt (Nat.lt_irrefl _)
          · exact absurd e (Nat.lt_irrefl _)
        have hS2 := hk2 _ _ hS
        have hk3 : ∀ b o, s.heap.get? b = some o → h2.get? b = some o := fun b o e => hk2 b o (Heap.get?_push_of_some _ e)
        have hh3 : A.in1.in1.in1.handled = none := by simp [hh]
        refine update_loop_any (J := J) (room := room) (wk _ hh3) s.heap.objs.size nf items.toList (by simp) (fun i v e => by rw [Array.getElem?_toList]; exact e) s.heap (get_end (Nat.le_refl _))
          (fun b hb => get_end (Nat.le_of_lt (hwr b hb))) hu hstep hJ (items.size - 0) 0 _ rfl (Nat.zero_le _) st0 hk3 (h0 _ hS2 hk3) fun s' m jn kp => ?_
        obtain ⟨h', g2, d', tk', os'⟩ := s'
        have eg : g2 = s.gens := geq _ _ m.gens
        have ed : d' = s.drawn := m.drawn
        have eo : os' = s.os := m.os
        subst eg
        subst ed
        subst eo
        show wpAny _ _ _ _ _ _
        refine wpAny_pure ?_
        show wpAny _ _ (ret Value.none) _ _ _
        exact wpAny_pure ⟨rfl, h', tk', rfl, jn, kp⟩
      · cases r₂ with
        | error e => exact hr₂
        | ok fl₂ =>
          cases fl₂ with
          | ret r =>
            obtain ⟨rfl, h', tk, rfl, jn, kp⟩ := hr₂
            repeat (any_goals (first | assumption | wp_step))
            exact h _ _ jn kp
          | _ => exact hr₂.elim
    | _ => exact hr.elim
end
end Hk
set_option Elab.async false
set_option linter.all false
set_option maxRecDepth 100000
set_option maxHeartbeats 4000000
/-! Sets of tuples of keys (ints and texts): fewer than 64 of them. -/
namespace Hk
open PySem PySem.Spec PyProof.Rows L2
abbrev khash (P : Program) (w : World) (k : List Key) : Int := tupleKeyHash (mixKind P w) k
/-- the tuple at a has the keys k -/
abbrev IsK (P : Program) (w : World) (h : Heap) (k : List Key) (a : Addr) : Prop := IsTupleKey (mixKind P w) h k a
def Leaf (v : Value) : Prop := (∃ i t, v = Value.int i t) ∨ ∃ x t, v = Value.str x t
section
variable {P : Program} {w : World} {A : Around} {E : Value → Shared → Prop} {s : Shared}
theorem leafs {k : List Key} {vs : List Value} (h : ItemsAre (mixKind P w) k vs) : ∀ v ∈ vs, Leaf v := by
  induction h with
  | nil => intro v m; cases m
  | @cons k0 u ks us h1 _ ih =>
    intro v m
    rcases List.mem_cons.mp m with e | m
    · subst e
      rcases keyIs_shape (k := k0) h1 with ⟨i, t, _, e⟩ | ⟨x, t, _, e⟩
      · exact .inl ⟨i, t, e⟩
      · exact .inr ⟨x, t, e⟩
    · exact ih v m
theorem class_leaf {v : Value} (h : Leaf v) (n : Nat) : ofAClassStatement n v = pure false := by
  rcases h with ⟨i, t, rfl⟩ | ⟨x, t, rfl⟩ <;> cases n <;> rfl
theorem hash_leaf {v : Value} (h : Leaf v) (n : Nat) : ∃ c, hashByValue n v = pure c := by
  rcases h with ⟨i, t, rfl⟩ | ⟨x, t, rfl⟩
  · exact ⟨true, by cases n <;> rfl⟩
  · exact ⟨false, by cases n <;> rfl⟩
theorem class_keys {k : List Key} {b : Addr} {Q : Bool → Shared → Prop} (hk : IsK P w s.heap k b) (h : Q false s) : wpAny (model P w) A (ofAClassStatement 8 (.ref b)) Q E s := by
  have ty := hk.typeIs
  obtain ⟨o, items, n, ho, _, hd, hi⟩ := hk
  unfold ofAClassStatement
  refine wpAny_bind (wpAny_typeOf ty ?_)
  dsimp only
  have e : (("tuple" : String) == "tuple") = true := by decide
  simp only [e, if_true, Bool.not_true, Bool.false_eq_true, if_false]
  try refine wpAny_bind (wpAny_pure ?_)
  try simp only [Bool.not_true, Bool.false_eq_true, if_false]
  show wpAny _ _ (seqItems? (.ref b) >>= _) _ _ s
  refine wpAny_bind (wpAny_seqItems ho hd ?_)
  dsimp only
  refine wpAny_bind ?_
  show wpAny _ _ (forIn items _ _) _ _ s
  rw [← Array.forIn_toList]
  refine wpAny_forIn_list _ (fun left r z => r.1 = none ∧ z = s ∧ ∀ v ∈ left, Leaf v) _ ?_ ?_ _ _ ⟨rfl, rfl, leafs hi⟩
  · rintro v left r z ⟨hr, rfl, all⟩
    rw [class_leaf (all v List.mem_cons_self)]
    refine wpAny_bind (wpAny_pure ?_)
    simp only [Bool.false_eq_true, if_false]
    exact wpAny_pure ⟨rfl, rfl, fun u m => all u (List.mem_cons_of_mem _ m)⟩
  · rintro ⟨r1, r2⟩ z ⟨hr, rfl, _⟩
    simp only at hr
    subst hr
    exact wpAny_pure h
theorem hash_keys {k : List Key} {b : Addr} {Q : Bool → Shared → Prop} (hk : IsK P w s.heap k b) (h : ∀ c, Q c s) : wpAny (model P w) A (hashByValue 8 (.ref b)) Q E s := by
  have ty := hk.typeIs
  obtain ⟨o, items, n, ho, _, hd, hi⟩ := hk
  unfold hashByValue
  refine wpAny_bind (wpAny_specialOf ty F.slot_tuple_hash.lookup ?_)
  show wpAny _ _ (seqItems? (.ref b) >>= _) _ _ s
  refine wpAny_bind (wpAny_seqItems ho hd ?_)
  refine wpAny_bind ?_
  show wpAny _ _ (forIn items _ _) _ _ s
  rw [← Array.forIn_toList]
  refine wpAny_forIn_list _ (fun left r z => z = s ∧ ∀ v ∈ left, Leaf v) _ ?_ ?_ _ _ ⟨rfl, leafs hi⟩
  · rintro v left r z ⟨rfl, all⟩
    obtain ⟨c, ec⟩ := hash_leaf (all v List.mem_cons_self) 7
    rw [ec]
    refine wpAny_bind (wpAny_pure ?_)
    cases c with
    | true =>
      simp only [Bool.not_true, Bool.false_eq_true, if_false]
      exact wpAny_pure ⟨rfl, fun u m => all u (List.mem_cons_of_mem _ m)⟩
    | false =>
      simp only [Bool.not_false, if_true]
      refine wpAny_pure ?_
      exact wpAny_pure (h false)
  · rintro ⟨r1, r2⟩ z ⟨rfl, _⟩
    cases r1 with
    | none => exact wpAny_pure (h true)
    | some c => exact wpAny_pure (h c)
end
end Hk
set_option Elab.async false
set_option linter.all false
set_option maxRecDepth 100000
set_option maxHeartbeats 4000000
namespace Hk
open PySem PySem.Spec PyProof.Rows L2
section
variable {P : Program} {w : World} {A : Around} {E : Value → Shared → Prop} {s : Shared}
/-- a search among tuples of keys shows nothing -/
theorem seen_keys {k : List Key} {b : Addr} {Q : Bool → Shared → Prop} (hk : IsK P w s.heap k b) {ys : List Value} (hy : ∀ y ∈ ys, ∃ k' c, y = Value.ref c ∧ IsK P w s.heap k' c) (h : Q false s) :
    wpAny (model P w) A (searchCouldBeSeen (.ref b) ys) Q E s := by
  unfold searchCouldBeSeen
  refine wpAny_bind ?_
  refine wpAny_forIn_list _ (fun left r z => r.1 = none ∧ z = s ∧ ∀ y ∈ left, ∃ k' c, y = Value.ref c ∧ IsK P w s.heap k' c) _ ?_ ?_ _ _ ⟨rfl, rfl, hy⟩
  · rintro v left r z ⟨hr, rfl, all⟩
    obtain ⟨k', c, rfl, hc⟩ := all v List.mem_cons_self
    have more : ∀ y ∈ left, ∃ k' c, y = Value.ref c ∧ IsK P w z.heap k' c := fun u m => all u (List.mem_cons_of_mem _ m)
    dsimp only
    by_cases hv : (b == c || (carriedByValue (.ref b) && carriedByValue (.ref c))) = true
    · exact wp_if_pos hv (wpAny_pure ⟨rfl, rfl, more⟩)
    · refine wp_if_neg hv (wpAny_bind (wpAny_eqIsQuiet_tuple hk ?_))
      simp only [Bool.not_true, Bool.false_eq_true, if_false]
      refine wpAny_bind (wpAny_eqIsQuiet_tuple hc ?_)
      simp only [Bool.not_true, Bool.false_eq_true, if_false]
      refine wpAny_bind (class_keys hk ?_)
      simp only [Bool.false_eq_true, if_false]
      refine wpAny_bind (class_keys hc ?_)
      simp only [Bool.false_eq_true, if_false]
      exact wpAny_pure ⟨rfl, rfl, more⟩
  · rintro ⟨r1, r2⟩ z ⟨hr, rfl, _⟩
    simp only at hr
    subst hr
    exact wpAny_pure h

def keyRows (P : Program) (w : World) (L : List (Addr × List Key)) : List (Int × Value) := L.map fun p => (khash P w p.2, Value.ref p.1)
theorem keyRows_len (L : List (Addr × List Key)) : (keyRows P w L).length = L.length := List.length_map ..
/-- a set of tuples of keys: its rows, its table -/
structure SetKR (P : Program) (w : World) (h : Heap) (a : Addr) (L : List (Addr × List Key)) (es : Array (Int × Value)) (ep : Nat) (t : SetTable) : Prop where
  ob : ∃ o, h.get? a = some o ∧ o.ExactSet ∧ o.data = .set es ep t
  rows : es.toList = keyRows P w L
  tab : L2.TabOk t (L.map fun p => khash P w p.2)
  nd : (L.map (·.2)).Nodup
  tup : ∀ p ∈ L, IsK P w h p.2 p.1
  led : w.params.followText "set-order" = true ∨ t.led = true
  room : L.length * 5 < t.mask * 3
  few : L.length < 64
variable {a : Addr} {L : List (Addr × List Key)} {es : Array (Int × Value)} {ep : Nat} {t : SetTable}
theorem SetKR.size (R : SetKR P w s.heap a L es ep t) : es.size = L.length := by
  rw [← Array.length_toList, R.rows, keyRows_len]
theorem SetKR.psz (R : SetKR P w s.heap a L es ep t) : t.place.size = L.length := by
  have q := R.tab.sz
  rw [List.length_map] at q
  exact q
theorem SetKR.fits (R : SetKR P w s.heap a L es ep t) : t.fits es.size = true := by
  have h1 := R.psz
  have h2 := R.size
  have h3 := R.room
  unfold SetTable.fits SetTable.fill
  rw [R.tab.dm, Bool.and_eq_true, beq_iff_eq, decide_eq_true_eq]
  show t.place.size = es.size ∧ t.place.size + 0 ≤ t.mask
  omega
theorem SetKR.entry (R : SetKR P w s.heap a L es ep t) {i : Nat} {p : Addr × List Key} (h : L[i]? = some p) : es[i]? = some (khash P w p.2, Value.ref p.1) := by
  rw [← Array.getElem?_toList, R.rows]
  unfold keyRows
  rw [List.getElem?_map, h]
  all_goals rfl
theorem SetKR.whole (R : SetKR P w s.heap a L es ep t) : ¬ t.gaveWay = true := by
  unfold SetTable.gaveWay
  rw [mask_odd R.tab.mok]
  decide
theorem no_dummy (m : Nat) : ∀ (n : Nat) (p : SetTable.Probe), p.dummy = none → (L2.nth m p n).dummy = none
  | 0, _, h => h
  | n + 1, p, h => no_dummy m n (L2.adv m p) (by
    unfold L2.adv
    split <;> exact h)

/-- the probe's start, and its c-th step -/
abbrev go0 (m : Nat) (H : Int) : SetTable.Probe := L2.runAt m (SetTable.bits H % (m + 1)) (SetTable.bits H)

theorem find_from (R : SetKR P w s.heap a L es ep t) {x : Addr} {k : List Key} (hx : IsK P w s.heap k x) (hu : A.units < cLine) {K : Nat}
    (hfree : L2.way t.mask (khash P w k) K ∉ t.place.toList) (hfull : ∀ c, c < K → L2.way t.mask (khash P w k) c ∈ t.place.toList) (hlim : K < 10 * SetTable.turns t.mask) {Q : SetFound → Shared → Prop}
    (yes : k ∈ L.map (·.2) → Q (.there none) s) (no : k ∉ L.map (·.2) → Q (.free (L2.way t.mask (khash P w k) K) false) s) :
    ∀ (f c : Nat) (stand : Option SetTable.Probe), stand.getD (t.probeStart (khash P w k)) = L2.nth t.mask (go0 t.mask (khash P w k)) c → c ≤ K → K - c < f →
      (∀ (i : Nat) p, L[i]? = some p → p.2 = k → ∃ d, c ≤ d ∧ d < K ∧ t.place.toList[i]? = some (L2.way t.mask (khash P w k) d)) →
      wpAny (model P w) A (setSearchFrom a (.ref x) (khash P w k) true f stand) Q E s
  | 0, c, stand, _, _, hf, _ => absurd hf (Nat.not_lt_zero _)
  | f + 1, c, stand, hst, hc, hf, hre => by
    obtain ⟨o, ho, hex, hd⟩ := R.ob
    rw [setSearchFrom_succ]
    refine wpAny_bind (wpAny_setState_of ho hd R.fits ?_)
    dsimp only
    refine wp_if_neg R.whole ?_
    try refine wpAny_bind (wpAny_pure ?_)
    have dn : (L2.nth t.mask (go0 t.mask (khash P w k)) c).dummy = none := no_dummy _ c _ rfl
    have shift : ∀ q, L2.nth t.mask (L2.nth t.mask (go0 t.mask (khash P w k)) c) q = L2.nth t.mask (go0 t.mask (khash P w k)) (c + q) := fun q => (nth_add t.mask c _ q).symm
    have slotq : ∀ q, (L2.nth t.mask (L2.nth t.mask (go0 t.mask (khash P w k)) c) q).j = L2.way t.mask (khash P w k) (c + q) := fun q => congrArg SetTable.Probe.j (shift q)
    have told := go_spec t R.tab.ris R.tab.dm (fun i => (es[i]?.map (·.1)).getD 0) (khash P w k) (10 * SetTable.turns t.mask) (K - c) _ dn (by omega)
      (fun q hq => by rw [slotq]; exact hfull (c + q) (by omega)) (by rw [slotq, show c + (K - c) = K by omega]; exact hfree)
    have hashes : ∀ (i : Nat) p, L[i]? = some p → (fun i => (es[i]?.map (·.1)).getD 0) i = khash P w p.2 := fun i p hp => by
      show (es[i]?.map (·.1)).getD 0 = _
      rw [R.entry hp]
      all_goals rfl
    rcases told with ⟨q, i, hq, hi, hh, fresh, hpr⟩ | ⟨fresh, hpr⟩
    · have hpr2 : t.probe (fun i => (es[i]?.map (·.1)).getD 0) (khash P w k) (stand.getD (t.probeStart (khash P w k))) = some (.candidate (L2.way t.mask (khash P w k) (c + q)) i (L2.nth t.mask (go0 t.mask (khash P w k)) (c + (q + 1)))) := by
        rw [hst, ← slotq, ← shift]
        exact hpr
      rw [hpr2]
      dsimp only
      rw [slotq] at hi
      have il : i < L.length := by
        have h1 : i < t.place.toList.length := (List.getElem?_eq_some_iff.mp hi).1
        rw [Array.length_toList, R.psz] at h1
        exact h1
      have hp : L[i]? = some L[i] := List.getElem?_eq_getElem il
      generalize hpe : L[i] = p at hp
      have pm : p ∈ L := List.mem_of_getElem? hp
      have pt := R.tup p pm
      have behind : wpAny (model P w) A (searchRest a (.ref x) (khash P w k) true f es t (L2.way t.mask (khash P w k) (c + q)) i (L2.nth t.mask (go0 t.mask (khash P w k)) (c + (q + 1)))) Q E s := by
        unfold searchRest
        rw [R.entry hp]
        dsimp only
        refine wpAny_bind (wpAny_holding (wpAny_eqBool_tuple hu pt hx ?_))
        refine wpAny_bind (wpAny_setState_of ho hd R.fits ?_)
        dsimp only
        by_cases same : p.2 = k
        · refine wp_if_pos (by simp [same]) (wpAny_pure (yes ?_))
          exact List.mem_map.mpr ⟨p, pm, same⟩
        · refine wp_if_neg (by simp [same]) ?_
          try refine wpAny_bind (wpAny_pure ?_)
          rw [sameMem]
          dsimp only
          have live : t.slot (L2.way t.mask (khash P w k) (c + q)) = .live i := slot_live R.tab.ris hi
          simp only [if_true, live, R.entry hp]
          refine wpAny_bind (wpAny_isSame_ref_self (wpAny_bind (wpAny_pure ?_)))
          simp only [if_true]
          refine wp_if_neg (by simp [same]) ?_
          refine find_from R hx hu hfree hfull hlim yes no f (c + (q + 1)) _ rfl (by omega) (by omega) fun i0 p0 h0 k0 => ?_
          obtain ⟨d, d1, d2, d3⟩ := hre i0 p0 h0 k0
          refine ⟨d, ?_, d2, d3⟩
          rcases Nat.lt_trichotomy d (c + q) with z | z | z
          · exfalso
            refine fresh (d - c) i0 (by omega) (by rw [slotq, show c + (d - c) = d by omega]; exact d3) ?_
            exact (hashes i0 p0 h0).trans (congrArg (khash P w) k0)
          · exfalso
            rw [z] at d3
            have l2 := slot_live R.tab.ris d3
            rw [live] at l2
            injection l2 with l2
            rw [← l2, hp] at h0
            exact same ((congrArg Prod.snd (Option.some.inj h0)).trans k0)
          · omega
      by_cases ledc : t.led = true
      · refine wp_if_neg (by simp [ledc]) ?_
        try refine wpAny_bind (wpAny_pure ?_)
        exact behind
      · refine wp_if_pos (by simp [ledc]) ?_
        refine wpAny_bind (seen_keys hx (fun y hy => ?_) ?_)
        · obtain ⟨e, he, ee⟩ := List.mem_map.mp hy
          have in1 : e ∈ es ∧ e.1 = khash P w k := by simpa using he
          have in2 : e ∈ es.toList := by simpa using in1.1
          rw [R.rows] at in2
          obtain ⟨p2, m2, e2⟩ := List.mem_map.mp in2
          exact ⟨p2.2, p2.1, by rw [← ee, ← e2], R.tup p2 m2⟩
        · refine wp_if_neg (by decide) ?_
          try refine wpAny_bind (wpAny_pure ?_)
          exact behind
    · have hpr2 : t.probe (fun i => (es[i]?.map (·.1)).getD 0) (khash P w k) (stand.getD (t.probeStart (khash P w k))) = some (.empty (L2.way t.mask (khash P w k) K) none) := by
        have e2 : L2.way t.mask (khash P w k) K = (L2.nth t.mask (L2.nth t.mask (go0 t.mask (khash P w k)) c) (K - c)).j := by
          rw [slotq, show c + (K - c) = K by omega]
        rw [hst, e2]
        exact hpr
      rw [hpr2]
      dsimp only
      refine wpAny_pure (no fun hm => ?_)
      obtain ⟨p0, h0, k0⟩ := List.mem_map.mp hm
      obtain ⟨i0, hi0, e0⟩ := List.getElem_of_mem h0
      have h00 : L[i0]? = some p0 := by rw [List.getElem?_eq_getElem hi0, e0]
      obtain ⟨d, d1, d2, d3⟩ := hre i0 p0 h00 k0
      refine fresh (d - c) i0 (by omega) (by rw [slotq, show c + (d - c) = d by omega]; exact d3) ?_
      exact (hashes i0 p0 h00).trans (congrArg (khash P w) k0)
theorem find_at (R : SetKR P w s.heap a L es ep t) {x : Addr} {k : List Key} (hx : IsK P w s.heap k x) (hu : A.units < cLine) {Q : SetFound → Shared → Prop}
    (yes : k ∈ L.map (·.2) → Q (.there none) s)
    (no : ∀ K, k ∉ L.map (·.2) → L2.way t.mask (khash P w k) K ∉ t.place.toList → (∀ c, c < K → L2.way t.mask (khash P w k) c ∈ t.place.toList) → Q (.free (L2.way t.mask (khash P w k) K) false) s) :
    wpAny (model P w) A (setSearch a (.ref x) (khash P w k) true) Q E s := by
  have rm := R.room
  obtain ⟨K, lim, fre, ful⟩ := R.tab.first (by rw [List.length_map]; omega) (khash P w k)
  have small : K < 100000 := by
    have : 10 * SetTable.turns t.mask ≤ 1420 := by
      unfold SetTable.turns
      rcases R.tab.mok with e | e | e <;> omega
    omega
  unfold setSearch
  refine find_from R hx hu fre ful lim yes (fun hn => no K hn fre ful) 100000 0 none rfl (Nat.zero_le _) (by omega) fun i p hp hk => ?_
  have hi : (L.map fun p => khash P w p.2)[i]? = some (khash P w k) := by
    rw [List.getElem?_map, hp, ← hk]
    all_goals rfl
  have il : i < t.place.toList.length := by
    rw [Array.length_toList, R.psz]
    exact (List.getElem?_eq_some_iff.mp hp).1
  have hj := List.getElem?_eq_getElem il
  obtain ⟨c, hc, e⟩ := R.tab.before fre hi hj
  exact ⟨c, Nat.zero_le _, hc, by rw [hj, e]⟩
end
end Hk
set_option Elab.async false
set_option linter.all false
set_option maxRecDepth 100000
set_option maxHeartbeats 4000000
namespace Hk
open PySem PySem.Spec PyProof.Rows L2
theorem range_pick {α : Type} (L : List α) : (List.range L.length).filterMap (fun i => L[i]?) = L := by
  induction L with
  | nil => rfl
  | cons x L ih =>
    rw [List.length_cons, List.range_succ_eq_map]
    show List.filterMap _ (0 :: (List.range L.length).map Nat.succ) = _
    rw [List.filterMap_cons_some (f := fun i => (x :: L)[i]?) (a := 0) (b := x) rfl, List.filterMap_map]
    refine congrArg (x :: ·) ?_
    exact ih
section
variable {P : Program} {w : World} {A : Around} {E : Value → Shared → Prop} {s : Shared}
theorem isK_but {h h' : Heap} {k : List Key} {a b : Addr} {o : Obj} {es : Array (Int × Value)} {ep : Nat} {t : SetTable} (hb : IsK P w h k b) (ho : h.get? a = some o) (hd : o.data = .set es ep t) (hs : Heap.SameBut a h h') : IsK P w h' k b := by
  obtain ⟨q, items, n, hq, hc, hd2, hi⟩ := hb
  refine ⟨q, items, n, (hs.2 b ?_).trans hq, hc, hd2, hi⟩
  rintro rfl
  rw [ho] at hq
  cases hq
  rw [hd] at hd2
  exact nomatch hd2
theorem rows_at (L : List (Addr × List Key)) (p : Nat) (x : Addr) (k : List Key) : keyRows P w (L.take p ++ (x, k) :: L.drop p) = (keyRows P w L).take p ++ (khash P w k, Value.ref x) :: (keyRows P w L).drop p := by
  unfold keyRows
  rw [List.map_append, List.map_cons, List.map_take, List.map_drop]
theorem keys_order (L : List (Addr × List Key)) (es : Array (Int × Value)) (order : Array Nat) (hr : es.toList = keyRows P w L) (hp : order.toList.Perm (List.range L.length)) :
    ∃ M, (order.filterMap (es[·]?)).toList = keyRows P w M ∧ M.Perm L ∧ (M.map fun p => khash P w p.2) = order.toList.map fun i => (es.map (·.1)).getD i 0 := by
  have at_ : ∀ i : Nat, es[i]? = (L[i]?).map fun p => (khash P w p.2, Value.ref p.1) := fun i => by
    rw [← Array.getElem?_toList, hr]
    unfold keyRows
    rw [List.getElem?_map]
  refine ⟨order.toList.filterMap (fun i => L[i]?), ?_, ?_, ?_⟩
  · rw [Array.toList_filterMap]
    unfold keyRows
    rw [List.map_filterMap]
    refine congrArg (fun f => List.filterMap f order.toList) ?_
    funext i
    exact at_ i
  · have q := hp.filterMap (fun i => L[i]?)
    rw [range_pick] at q
    exact q
  · have all : ∀ l : List Nat, (∀ i ∈ l, i < L.length) → (l.filterMap fun i => L[i]?).map (fun p => khash P w p.2) = l.map fun i => (es.map (·.1)).getD i 0 := by
      intro l
      induction l with
      | nil => intro _; rfl
      | cons i l ih =>
        intro hl
        have hi := hl i List.mem_cons_self
        have e : (es.map (·.1)).getD i 0 = khash P w (L[i]).2 := by
          have e5 : (es.map (·.1))[i]? = some (khash P w (L[i]).2) := by
            rw [Array.getElem?_map, at_ i, List.getElem?_eq_getElem hi]
            all_goals rfl
          simp [Array.getD_eq_getD_getElem?, e5]
        rw [List.filterMap_cons_some (List.getElem?_eq_getElem hi), List.map_cons, List.map_cons, ih fun j hj => hl j (List.mem_cons_of_mem _ hj), e]
    exact all _ fun i hi => List.mem_range.mp (hp.mem_iff.mp hi)
variable {a : Addr} {L : List (Addr × List Key)} {es : Array (Int × Value)} {ep : Nat} {t : SetTable}
theorem relay_keys {o : Obj} (ho : s.heap.get? a = some o) (hex : o.ExactSet) (hd : o.data = .set es ep t) (hrows : es.toList = keyRows P w L) (hsz : t.place.size = es.size) (hdm : t.dummies = #[]) (hfl : es.size ≤ t.mask)
    (nd : (L.map (·.2)).Nodup) (tup : ∀ p ∈ L, IsK P w s.heap p.2 p.1) (ld : w.params.followText "set-order" = true ∨ t.led = true) (few : L.length < 64) {wanted M : Nat}
    (hw : SetTable.sizeAbove wanted - 1 = M) (hM : MaskOk M) (hw2 : SetTable.sizeAbove wanted ≤ 128) (hn : L.length * 5 < M * 3) {Q : Unit → Shared → Prop}
    (hQ : ∀ h' L' es' ep' t', Heap.SameBut a s.heap h' → SetKR P w h' a L' es' ep' t' → L'.Perm L → Q () { s with heap := h' }) : wpAny (model P w) A (setRelay a wanted) Q E s := by
  have esl : es.size = L.length := by rw [← Array.length_toList, hrows, keyRows_len]
  have fits : t.fits es.size = true := by
    unfold SetTable.fits SetTable.fill
    rw [hdm, Bool.and_eq_true, beq_iff_eq, decide_eq_true_eq]
    show t.place.size = es.size ∧ t.place.size + 0 ≤ t.mask
    omega
  obtain ⟨t', order, e, hp, T, em, el, _, ed⟩ := relaid_ok t (hs := es.map (·.1)) (wanted := wanted) hw hM (by rw [Array.size_map, esl]; omega)
  rw [Array.size_map, esl] at hp
  obtain ⟨N, r1, r2, r3⟩ := keys_order L es order hrows hp
  rw [← r3] at T
  have sz2 : (order.filterMap (es[·]?)).size = es.size := by
    rw [← Array.length_toList, r1, keyRows_len, r2.length_eq, esl]
  rw [setRelay_eq]
  refine wpAny_bind (wpAny_setState_of ho hd fits ?_)
  dsimp only
  refine wp_if_neg (by rw [sizeLine_eq]; omega) ?_
  try refine wpAny_bind (wpAny_pure ?_)
  rw [e]
  dsimp only
  refine wpAny_bind ?_
  refine wp_if_neg (by rw [sz2]; simp) ?_
  try refine wpAny_bind (wpAny_pure ?_)
  refine wpAny_pure ?_
  dsimp only
  refine wpAny_storeSet_of ho hd ?_ (by rw [sz2, esl, sizeLine_eq]; omega)
  have sb : Heap.SameBut a s.heap (s.heap.update a (Obj.putSet (order.filterMap (es[·]?)) t')) := Heap.SameBut.update ..
  refine hQ _ N (order.filterMap (es[·]?)) (ep + 1) t' sb ?_ r2
  refine { ob := ⟨_, store_at ho hd, ⟨hex.1, hex.2.1, hex.2.2⟩, rfl⟩, rows := r1, tab := T, nd := (r2.map (·.2)).nodup_iff.mpr nd, tup := fun p m => isK_but (tup p (r2.mem_iff.mp m)) ho hd sb, led := by rw [el]; exact ld, room := ?_, few := by rw [r2.length_eq]; exact few }
  rw [r2.length_eq, em]
  exact hn

/-- a table's word does not speak of plain -/
theorem tab_plain {hs : List Int} (T : L2.TabOk t hs) (c : Bool) : L2.TabOk (if c = true then t else { t with plain := false }) hs := by
  cases c
  · exact ⟨T.ris, T.dm, T.sz, T.mok, T.bd, T.reach⟩
  · exact T
/-- set.add of a tuple of keys -/
theorem add_keys (R : SetKR P w s.heap a L es ep t) {x : Addr} {k : List Key} (hx : IsK P w s.heap k x) (hu : A.units < cLine) (hfew : L.length + 1 < 64) {Q : Bool → Shared → Prop}
    (hQ : ∀ b h' L' es' ep' t', Heap.SameBut a s.heap h' → SetKR P w h' a L' es' ep' t' → (k ∈ L.map (·.2) → L' = L) → (k ∉ L.map (·.2) → L'.Perm ((x, k) :: L)) → Q b { s with heap := h' }) :
    wpAny (model P w) A (setAddHashed a (.ref x) (khash P w k)) Q E s := by
  obtain ⟨o, ho, hex, hd⟩ := R.ob
  have esl := R.size
  have rm := R.room
  unfold setAddHashed
  refine wpAny_holding ?_
  rw [show (100000 : Nat) = 99999 + 1 from rfl, setAddHashedIn_succ]
  refine wpAny_bind (wpAny_setState_of ho hd R.fits ?_)
  dsimp only
  refine wp_if_neg (by simp [byScan, Value.scannable]) ?_
  try refine wpAny_bind (wpAny_pure ?_)
  refine wpAny_bind (find_at R hx hu (fun hm => ?_) fun K hm hfree hfull => ?_)
  · dsimp only
    exact wpAny_pure (hQ false s.heap L es ep t (Heap.SameBut.refl a s.heap) R (fun _ => rfl) fun z => absurd hm z)
  · dsimp only
    refine wpAny_bind (wpAny_setState_of ho hd R.fits ?_)
    dsimp only
    obtain ⟨q1, q2, q3, q4, q5, _, _, _, q9⟩ := R.tab.put hfree hfull
    generalize hpt : t.put (L2.way t.mask (khash P w k) K) = pt at q1 q3 q4 q5 q9 ⊢
    obtain ⟨t1, p⟩ := pt
    dsimp only at q1 q3 q4 q5 q9 ⊢
    subst q1
    have rest : ∀ c : Bool, wpAny (model P w) A (do
        storeSet a (SetTable.insertAt es (SetTable.below t.place (L2.way t.mask (khash P w k) K)) (khash P w k, Value.ref x)) (if c = true then t1 else { t1 with plain := false })
        if (!false && (if c = true then t1 else { t1 with plain := false }).tooFull) = true then setRelay a (SetTable.grown (es.size + 1))
        return true) Q E s := fun c => by
      have mk : (if c = true then t1 else { t1 with plain := false }).mask = t.mask := by cases c <;> exact q4
      have ld : (if c = true then t1 else { t1 with plain := false }).led = t.led := by cases c <;> exact q5
      have fl : (if c = true then t1 else { t1 with plain := false }).fill = (L.map fun p => khash P w p.2).length + 1 := by cases c <;> exact q9
      have T := tab_plain q3 c
      generalize (if c = true then t1 else { t1 with plain := false }) = t2 at mk ld fl T ⊢
      have rows1 : (SetTable.insertAt es (SetTable.below t.place (L2.way t.mask (khash P w k) K)) (khash P w k, Value.ref x)).toList = keyRows P w (L.take (SetTable.below t.place (L2.way t.mask (khash P w k) K)) ++ (x, k) :: L.drop (SetTable.below t.place (L2.way t.mask (khash P w k) K))) := by
        rw [SetTable.toList_insertAt, rows_at, R.rows]
      generalize SetTable.below t.place (L2.way t.mask (khash P w k) K) = p at q2 T rows1 ⊢
      have pm := put_perm L p (x, k)
      have len1 : (L.take p ++ (x, k) :: L.drop p).length = L.length + 1 := pm.length_eq
      have hs1 : (L.take p ++ (x, k) :: L.drop p).map (fun p => khash P w p.2) = (L.map fun p => khash P w p.2).take p ++ khash P w k :: (L.map fun p => khash P w p.2).drop p := by
        rw [List.map_append, List.map_cons, List.map_take, List.map_drop]
      rw [← hs1] at T
      have nd1 : ((L.take p ++ (x, k) :: L.drop p).map (·.2)).Nodup := (pm.map (·.2)).nodup_iff.mpr (List.nodup_cons.mpr ⟨hm, R.nd⟩)
      have es1 : (SetTable.insertAt es p (khash P w k, Value.ref x)).size = L.length + 1 := by rw [← Array.length_toList, rows1, keyRows_len, len1]
      generalize SetTable.insertAt es p (khash P w k, Value.ref x) = en at rows1 es1 ⊢
      generalize L.take p ++ (x, k) :: L.drop p = N at pm len1 T nd1 rows1
      refine wpAny_bind (wpAny_storeSet_of ho hd ?_ (by rw [es1, sizeLine_eq]; omega))
      have sb : Heap.SameBut a s.heap (s.heap.update a (Obj.putSet en t2)) := Heap.SameBut.update ..
      have ho1 := store_at (es' := en) (t' := t2) ho hd
      generalize s.heap.update a (Obj.putSet en t2) = h1 at sb ho1 ⊢
      have tup1 : ∀ p ∈ N, IsK P w h1 p.2 p.1 := fun p hp => by
        rcases List.mem_cons.mp (pm.mem_iff.mp hp) with e | hp
        · rw [e]
          exact isK_but hx ho hd sb
        · exact isK_but (R.tup p hp) ho hd sb
      have led1 : w.params.followText "set-order" = true ∨ t2.led = true := by rw [ld]; exact R.led
      have psz : t2.place.size = en.size := by
        have q := T.sz
        rw [List.length_map, len1] at q
        rw [q, es1]
      rw [List.length_map] at fl
      by_cases full : t2.tooFull = true
      · have much : (L.length + 1) * 5 ≥ t.mask * 3 := by
          have q := full
          unfold SetTable.tooFull at q
          rw [decide_eq_true_eq, fl, mk] at q
          exact q
        have two : (t.mask = 7 ∧ L.length = 4) ∨ (t.mask = 31 ∧ L.length = 18) := by
          rcases R.tab.mok with e | e | e
          · left; rw [e] at much rm; exact ⟨e, by omega⟩
          · right; rw [e] at much rm; exact ⟨e, by omega⟩
          · exfalso; rw [e] at much; omega
        rw [esl]
        have go : ∀ M, SetTable.sizeAbove (SetTable.grown (L.length + 1)) - 1 = M → MaskOk M → SetTable.sizeAbove (SetTable.grown (L.length + 1)) ≤ 128 → (L.length + 1) * 5 < M * 3 →
            wpAny (model P w) A (setRelay a (SetTable.grown (L.length + 1))) (fun _ z => wpAny (model P w) A (pure true) Q E z) E { s with heap := h1 } := fun M g1 g2 g3 g4 => by
          refine relay_keys (s := { s with heap := h1 }) ho1 ⟨hex.1, hex.2.1, hex.2.2⟩ rfl rows1 psz T.dm (by rw [es1, mk]; rcases two with ⟨e, e2⟩ | ⟨e, e2⟩ <;> omega) nd1 tup1 led1 (by rw [len1]; exact hfew) g1 g2 g3 (by rw [len1]; exact g4) ?_
          intro h2 L2' es2 ep2 t3 sb2 R2 pm2
          exact wpAny_pure (hQ true h2 L2' es2 ep2 t3 (sb.trans sb2) R2 (fun z => absurd z hm) fun _ => pm2.trans pm)
        first
          | (refine wpAny_bind ?_; refine wp_if_pos (by simp [full]) ?_)
          | (refine wp_if_pos (by simp [full]) ?_; refine wpAny_bind ?_)
        rcases two with ⟨_, e2⟩ | ⟨_, e2⟩
        · exact go 31 (by rw [e2, size_20]) (.inr (.inl rfl)) (by rw [e2, size_20]; decide) (by omega)
        · exact go 127 (by rw [e2, size_76]) (.inr (.inr rfl)) (by rw [e2, size_76]; decide) (by omega)
      · first
          | refine wp_if_neg (by simp [full]) ?_
          | (refine wpAny_bind ?_; refine wp_if_neg (by simp [full]) ?_; refine wpAny_pure ?_)
        refine wpAny_pure (hQ true h1 N en (ep + 1) t2 sb { ob := ⟨_, ho1, ⟨hex.1, hex.2.1, hex.2.2⟩, rfl⟩, rows := rows1, tab := T, nd := nd1, tup := tup1, led := led1, room := ?_, few := by rw [len1]; exact hfew } (fun z => absurd z hm) fun _ => pm)
        have q := full
        unfold SetTable.tooFull at q
        rw [decide_eq_true_eq, fl] at q
        rw [len1]
        omega
    by_cases pl : t1.plain = true
    · first
        | (refine wpAny_bind ?_; refine wp_if_pos pl ?_; exact hash_keys hx fun c => rest c)
        | exact wp_if_pos pl (wpAny_bind (hash_keys hx fun c => rest c))
    · first
        | (refine wpAny_bind ?_; refine wp_if_neg pl ?_; exact wpAny_pure (rest true))
        | exact wp_if_neg pl (wpAny_bind (wpAny_pure (rest true)))
end
end Hk
set_option Elab.async false
set_option linter.all false
set_option maxRecDepth 100000
set_option maxHeartbeats 4000000
/-! sorted(x) for x a list, a tuple, a set: what it gives is the one sorted list, by data. -/
namespace Hk
open PySem PySem.Spec PyProof.Rows L2
open PySem.W (EachIs AllAlike Sortable dataLe list_sort_data)
section
variable {P : Program} {w : World} {A : Around} {E : Value → Shared → Prop} {s : Shared} {β : Type}
/-- what the items of the sorted thing are -/
structure Items (R : Value → β → Prop) (enc : β → PyData) (A : Around) (s : Shared) (vs : List Value) (bs : List β) (s1 : Shared) : Prop where
  each : EachIs R vs bs
  reads : EachIs (fun v b => Reads s1.heap v (enc b) []) vs bs
  alike : AllAlike (bs.map enc)
  sortable : Sortable (bs.map enc)
  room : ∀ b, b ∈ bs → A.units + 4 + (enc b).depth < cLine
  len : bs.length ≤ sizeLine
  keep : ∀ b o, s.heap.get? b = some o → s1.heap.get? b = some o
  gens : s1.gens = s.gens
  os : s1.os = s.os
theorem Items.vlen {R : Value → β → Prop} {enc : β → PyData} {vs : List Value} {bs : List β} {s1 : Shared} (I : Items R enc A s vs bs s1) : vs.length ≤ sizeLine := by
  rw [I.each.length]
  exact I.len
theorem each_map2 {α γ : Type} {R R2 : α → γ → Prop} (h : ∀ a c, R a c → R2 a c) {xs : List α} {ys : List γ} (e : EachIs R xs ys) : EachIs R2 xs ys := e.mono h
theorem sorted_via {v : Value} {R : Value → β → Prop} {enc : β → PyData} {C : List Value → List β → Shared → Prop} {Q : Value → Shared → Prop}
    (hc : ∀ (Q1 : List Value → Shared → Prop), (∀ vs bs s1, C vs bs s1 → Items R enc A s vs bs s1 → Q1 vs s1) → wpAny (model P w) A.in1 (collect v) Q1 E s)
    (h : ∀ vs bs s1 (out : List Value) (c : Nat) (s' : Shared), C vs bs s1 → Items R enc A s vs bs s1 → EachIs R out (bs.mergeSort (dataLe false enc)) → (∀ b o, s1.heap.get? b = some o → s'.heap.get? b = some o) → s'.gens = s.gens → s'.os = s.os →
      s'.heap.get? s1.heap.objs.size = some (seqObj "list" out.toArray c) → Q (.ref s1.heap.objs.size) s') :
    wpAny (model P w) A (call (.builtin "sorted") [v]) Q E s := by
  refine Calls.call_function_entry kind_sorted plain_sorted entry_sorted (args_sorted1 _) ?_
  unfold Builtin.«sorted»
  refine wpAny_bind (m := checkCount "sorted" 1 1 _) (wpAny_pure ?_)
  refine wpAny_bind (hc _ fun vs bs s1 cc I => ?_)
  have vl := I.vlen
  refine wpAny_bind (wpAny_newList ?_ vl)
  have hoL : (s1.heap.push (seqObj "list" vs.toArray 0)).get? s1.heap.objs.size = some (seqObj "list" vs.toArray 0) := Heap.get?_push_size _ rfl
  have er : EachIs (fun v b => ∃ as, Reads (s1.heap.push (seqObj "list" vs.toArray 0)) v (enc b) as ∧ s1.heap.objs.size ∉ as) vs bs :=
    I.reads.mono fun v b r => ⟨[], PyProof.Rows.Reads.keeps (fun _ _ e => Heap.get?_push_of_some _ e) r, by simp⟩
  refine wpAny_bind (wpAny_holding (list_sort_data (A := A.in1) (s := { s1 with heap := s1.heap.push (seqObj "list" vs.toArray 0) }) hoL I.each er I.alike I.sortable I.len (fun b hb => by
    have q := I.room b hb
    show A.units + 1 + 1 + (enc b).depth < cLine
    omega) fun out ol eo => ?_))
  obtain ⟨c, hc2⟩ := sortedHeap_at (vs := vs) (out := out.toArray) hoL
  refine wpAny_pure ⟨_, rfl, h vs bs s1 out c _ cc I eo (fun b u e => ?_) I.gens I.os hc2⟩
  have lt := Heap.lt_size e
  show (sortedHeap (s1.heap.push (seqObj "list" vs.toArray 0)) s1.heap.objs.size vs out.toArray).get? b = some u
  rw [sortedHeap_old (Nat.ne_of_lt lt) (by rw [size_push']; exact Nat.lt_succ_of_lt lt)]
  exact Heap.get?_push_of_some _ e
end

/-! ### texts and tuples of texts as data -/
def encS (l : List Str) : PyData := .tuple (l.map PyData.str)
theorem alike_strs : ∀ {l m : List Str}, l.length = m.length → PySem.W.alikeAll (l.map PyData.str) (m.map PyData.str) = true
  | [], [], _ => by simp [PySem.W.alikeAll]
  | [], _ :: _, h => by simp at h
  | _ :: _, [], h => by simp at h
  | x :: l, y :: m, h => by
    show PySem.W.alikeAll (.str x :: l.map .str) (.str y :: m.map .str) = true
    rw [PySem.W.alikeAll, alike_strs (by simpa using h)]
    simp [PySem.W.alike]
theorem alike_encS {l m : List Str} (h : l.length = m.length) : PySem.W.alike (encS l) (encS m) = true := by
  unfold encS
  rw [PySem.W.alike]
  exact alike_strs h
theorem depth_strs : ∀ l : List Str, PyData.depthAll (l.map .str) = 0
  | [] => by simp [PyData.depthAll]
  | x :: l => by
    show PyData.depthAll (.str x :: l.map .str) = 0
    rw [PyData.depthAll, depth_strs l]
    simp [PyData.depth]
theorem depth_encS (l : List Str) : (encS l).depth = 1 := by
  unfold encS
  rw [PyData.depth, depth_strs]
theorem toks_strs : ∀ {l m : List Str}, PySem.W.keyToksAll (l.map PyData.str) = PySem.W.keyToksAll (m.map PyData.str) → l = m
  | [], [], _ => rfl
  | [], y :: m, h => by
    have h' : [Sum.inl 0] = (Sum.inl 1 :: (PySem.W.keyToks (.str y) ++ PySem.W.keyToksAll (m.map PyData.str)) : List (Int ⊕ List Nat)) := h
    simp at h'
  | x :: l, [], h => by
    have h' : (Sum.inl 1 :: (PySem.W.keyToks (.str x) ++ PySem.W.keyToksAll (l.map PyData.str)) : List (Int ⊕ List Nat)) = [Sum.inl 0] := h
    simp at h'
  | x :: l, y :: m, h => by
    have h' : (Sum.inl 1 :: (PySem.W.keyToks (.str x) ++ PySem.W.keyToksAll (l.map PyData.str)) : List (Int ⊕ List Nat)) = Sum.inl 1 :: (PySem.W.keyToks (.str y) ++ PySem.W.keyToksAll (m.map PyData.str)) := h
    have h1 := (List.cons.inj h').2
    have h2 : (Sum.inr x.cps.toList :: PySem.W.keyToksAll (l.map PyData.str) : List (Int ⊕ List Nat)) = Sum.inr y.cps.toList :: PySem.W.keyToksAll (m.map PyData.str) := h1
    obtain ⟨e1, e2⟩ := List.cons.inj h2
    rw [PySem.W.str_of_cps (Sum.inr.inj e1), toks_strs e2]
/-- the order of tuples of texts -/
def leS (l m : List Str) : Bool := dataLe false encS l m
theorem leS_total : PySem.W.TotalLe leS := PySem.W.sortLe_total (listOrd itemOrd) false fun b => PySem.W.keyToks (encS b)
theorem leS_anti {l m : List Str} (h1 : leS l m = true) (h2 : leS m l = true) : l = m := by
  have e1 : PySem.W.dataLt (encS m) (encS l) = false := by
    have q : (!PySem.W.dataLt (encS m) (encS l)) = true := h1
    simpa using q
  have e2 : PySem.W.dataLt (encS l) (encS m) = false := by
    have q : (!PySem.W.dataLt (encS l) (encS m)) = true := h2
    simpa using q
  have e3 : PySem.W.keyToks (encS l) = PySem.W.keyToks (encS m) := (listOrd itemOrd).total _ _ e2 e1
  exact toks_strs e3
/-- the order of texts -/
def leT (x y : Str) : Bool := dataLe false PyData.str x y
theorem leT_total : PySem.W.TotalLe leT := PySem.W.sortLe_total (listOrd itemOrd) false fun b => PySem.W.keyToks (.str b)
theorem leT_anti {x y : Str} (h1 : leT x y = true) (h2 : leT y x = true) : x = y := by
  have e1 : PySem.W.dataLt (.str y) (.str x) = false := by
    have q : (!PySem.W.dataLt (.str y) (.str x)) = true := h1
    simpa using q
  have e2 : PySem.W.dataLt (.str x) (.str y) = false := by
    have q : (!PySem.W.dataLt (.str x) (.str y)) = true := h2
    simpa using q
  have e3 : PySem.W.keyToks (.str x) = PySem.W.keyToks (.str y) := (listOrd itemOrd).total _ _ e2 e1
  have e4 : ([Sum.inr x.cps.toList] : List (Int ⊕ List Nat)) = [Sum.inr y.cps.toList] := e3
  exact PySem.W.str_of_cps (Sum.inr.inj (List.cons.inj e4).1)
/-- two sorted lists with the same members, each once, are one -/
theorem sorted_one {α : Type} {le : α → α → Bool} (anti : ∀ {a b : α}, le a b = true → le b a = true → a = b) {m n : List α} (hm : m.Pairwise fun a b => le a b = true) (hn : n.Pairwise fun a b => le a b = true) (p : m.Perm n) : m = n := by
  exact List.Perm.eq_of_pairwise (le := fun a b => le a b = true) (fun a b _ _ h1 h2 => anti h1 h2) hm hn p
end Hk
set_option Elab.async false
set_option linter.all false
set_option maxRecDepth 100000
set_option maxHeartbeats 4000000
/-! Rules over the hand layer: set(x) of tuples of keys, of keys; len of these; sorted(x). -/
namespace Hk
open PySem PySem.Spec PyProof.Rows L2
open PySem.W (EachIs AllAlike Sortable dataLe)
abbrev KT := Addr × List Key
/-! ### set(x), x a list or a tuple of tuples of keys -/
/-- what the set has behind i items -/
structure Gets (ks : List KT) (i : Nat) (L : List KT) : Prop where
  sub : ∀ p ∈ L, p ∈ ks.take i
  all : ∀ p ∈ ks.take i, p.2 ∈ L.map (·.2)
  len : L.length ≤ i
theorem take_up {α : Type} {l : List α} {i : Nat} {x : α} (h : l[i]? = some x) : l.take (i + 1) = l.take i ++ [x] := by
  rw [List.take_add_one, h]
  all_goals rfl
theorem Gets.none (ks : List KT) : Gets ks 0 [] := ⟨by simp, by simp, Nat.le_refl _⟩
theorem Gets.old {ks L : List KT} {i : Nat} {x : KT} (g : Gets ks i L) (h : ks[i]? = some x) (m : x.2 ∈ L.map (·.2)) : Gets ks (i + 1) L := by
  have e := take_up h
  refine ⟨fun p hp => by rw [e]; exact List.mem_append_left _ (g.sub p hp), fun p hp => ?_, Nat.le_succ_of_le g.len⟩
  rw [e] at hp
  rcases List.mem_append.mp hp with z | z
  · exact g.all p z
  · rw [List.mem_singleton.mp z]
    exact m
theorem Gets.new {ks L M : List KT} {i : Nat} {x : KT} (g : Gets ks i L) (h : ks[i]? = some x) (pm : M.Perm (x :: L)) : Gets ks (i + 1) M := by
  have e := take_up h
  refine ⟨fun p hp => ?_, fun p hp => ?_, ?_⟩
  · rw [e]
    rcases List.mem_cons.mp (pm.mem_iff.mp hp) with z | z
    · exact List.mem_append_right _ (List.mem_singleton.mpr z)
    · exact List.mem_append_left _ (g.sub p z)
  · rw [e] at hp
    rw [(pm.map (·.2)).mem_iff, List.map_cons]
    rcases List.mem_append.mp hp with z | z
    · exact List.mem_cons_of_mem _ (g.all p z)
    · rw [List.mem_singleton.mp z]
      exact List.mem_cons_self
  · rw [pm.length_eq]
    exact Nat.succ_le_succ g.len
section
variable {P : Program} {w : World} {A : Around} {E : Value → Shared → Prop} {s : Shared}
theorem IsK.kept {h h' : Heap} {k : List Key} {b : Addr} (x : IsK P w h k b) (hk : ∀ c o, h.get? c = some o → h'.get? c = some o) : IsK P w h' k b := by
  obtain ⟨o, items, n, ho, r⟩ := x
  exact ⟨o, items, n, hk b o ho, r⟩
theorem setKR_fresh {h : Heap} {a : Addr} (ho : h.get? a = some (freshSet w)) : SetKR P w h a [] #[] 0 (.fresh 0 0 (!w.params.followText "set-order")) where
  ob := ⟨_, ho, ⟨rfl, rfl, rfl⟩, rfl⟩
  rows := rfl
  tab := ⟨List.Pairwise.nil, rfl, rfl, .inl rfl, fun x hx => (by cases hx), fun i h j hi => (by simp at hi)⟩
  nd := List.nodup_nil
  tup := fun p hp => (by cases hp)
  led := by
    show _ ∨ (!w.params.followText "set-order") = true
    cases w.params.followText "set-order"
    · exact .inr rfl
    · exact .inl rfl
  room := by
    show 0 * 5 < 7 * 3
    decide
  few := by
    show 0 < 64
    decide
/-- the invariant of set(x), x of tuples of keys -/
def JT (P : Program) (w : World) (S : Addr) (ks : List KT) (i : Nat) (h : Heap) : Prop := (∀ p ∈ ks, IsK P w h p.2 p.1) ∧ ∃ L es ep t, SetKR P w h S L es ep t ∧ Gets ks i L
theorem step_keys {S : Addr} {ks : List KT} (hk : ∀ p ∈ ks, IsK P w s.heap p.2 p.1) (few : ks.length < 64) (hS : s.heap.get? S = none) : AddStep P w s.heap S (ks.map fun p => Value.ref p.1) (JT P w S ks) 0 := by
  intro A' E' Q i v s1 hu hv ⟨tk, L, es, ep, t, R, g⟩ kp fin
  rw [List.getElem?_map] at hv
  obtain ⟨p, hp, ev⟩ := Option.map_eq_some_iff.mp hv
  subst ev
  have hx : IsK P w s1.heap p.2 p.1 := tk p (List.mem_of_getElem? hp)
  have il : i < ks.length := (List.getElem?_eq_some_iff.mp hp).1
  unfold setAdd
  refine wpAny_holding ?_
  refine wpAny_bind (wpAny_pyHash_tuple hu hx ?_)
  refine add_keys (s := { s1 with toks := s1.toks + (p.2.length + 1) }) R hx hu (by have := g.len; omega) fun b h' M es' ep' t' sb R' c1 c2 => ?_
  have g' : Gets ks (i + 1) M := by
    rcases Classical.em (p.2 ∈ L.map (·.2)) with c | c
    · rw [c1 c]
      exact g.old hp c
    · exact g.new hp (c2 c)
  obtain ⟨o, ho, _, hd⟩ := R.ob
  exact fin b h' _ sb ⟨fun q hq => isK_but (tk q hq) ho hd sb, M, es', ep', t', R', g'⟩ (Nat.le_add_right _ _)
theorem JT.stays {S : Addr} {ks : List KT} (hk : ∀ p ∈ ks, IsK P w s.heap p.2 p.1) (i : Nat) (h h' : Heap) (j : JT P w S ks i h) (hS : ∀ o, h.get? S = some o → h'.get? S = some o) (kp : ∀ b o, s.heap.get? b = some o → h'.get? b = some o) : JT P w S ks i h' := by
  obtain ⟨_, L, es, ep, t, R, g⟩ := j
  have tk : ∀ p ∈ ks, IsK P w h' p.2 p.1 := fun p hp => (hk p hp).kept kp
  obtain ⟨o, ho, r⟩ := R.ob
  exact ⟨tk, L, es, ep, t, ⟨⟨o, hS o ho, r⟩, R.rows, R.tab, R.nd, fun p hp => tk p (List.mem_of_mem_take (g.sub p hp)), R.led, R.room, R.few⟩, g⟩
/-- set(x) -/
theorem call_set_keys {T : String} {l : Addr} {items : Array Value} (ks : List KT) {Q : Value → Shared → Prop} (hh : A.handled = none) (W : Seqs P w T l items s) (hit : items.toList = ks.map fun p => Value.ref p.1)
    (hk : ∀ p ∈ ks, IsK P w s.heap p.2 p.1) (few : ks.length < 64) (hu : A.units + 3 < cLine)
    (h : ∀ (h' : Heap) (tk : Nat) L es ep t, SetKR P w h' s.heap.objs.size L es ep t → Gets ks ks.length L → (∀ b o, s.heap.get? b = some o → h'.get? b = some o) → Q (.ref s.heap.objs.size) { s with heap := h', toks := tk }) :
    wpAny (model P w) A (call (.type "set") [.ref l]) Q E s := by
  have sz : items.size = ks.length := by rw [← Array.length_toList, hit, List.length_map]
  refine call_set_any (J := JT P w s.heap.objs.size ks) (room := 0) hh W hu (by rw [hit]; exact step_keys hk few (get_end (Nat.le_refl _))) (JT.stays hk) (fun h' fr kp => ?_) fun h' tk j kp => ?_
  · exact ⟨fun p hp => (hk p hp).kept kp, [], #[], 0, _, setKR_fresh fr, Gets.none ks⟩
  · obtain ⟨_, L, es, ep, t, R, g⟩ := j
    rw [sz] at g
    exact h h' tk L es ep t R g kp
end
/-! ### over the layer -/
structure SetK0 (P : Program) (w : World) (h : Heap) (a : Addr) (L : List KT) : Prop where
  ex : ∃ (es : Array (Int × Value)) (ep : Nat) (t : SetTable), (∃ o, h.get? a = some o ∧ o.ExactSet ∧ o.data = .set es ep t) ∧ es.toList = keyRows P w L ∧ L2.TabOk t (L.map fun p => khash P w p.2) ∧ (L.map (·.2)).Nodup ∧
    (w.params.followText "set-order" = true ∨ t.led = true) ∧ L.length * 5 < t.mask * 3 ∧ L.length < 64
/-- the set at a, its members the tuples in L -/
def SetKO (P : Program) (w : World) (a : Addr) (L : List KT) : HO := .ext fun h => SetK0 P w h a L
theorem SetKR.less {P : Program} {w : World} {h : Heap} {a : Addr} {L : List KT} {es : Array (Int × Value)} {ep : Nat} {t : SetTable} (R : SetKR P w h a L es ep t) : SetK0 P w h a L :=
  ⟨es, ep, t, R.ob, R.rows, R.tab, R.nd, R.led, R.room, R.few⟩
theorem SetK0.full {P : Program} {w : World} {h : Heap} {a : Addr} {L : List KT} (R : SetK0 P w h a L) (ht : ∀ p ∈ L, IsK P w h p.2 p.1) : ∃ es ep t, SetKR P w h a L es ep t := by
  obtain ⟨es, ep, t, h1, h2, h3, h4, h6, h7, h8⟩ := R.ex
  exact ⟨es, ep, t, h1, h2, h3, h4, ht, h6, h7, h8⟩
theorem setKO_new {P : Program} {w : World} {H : Hp} {h : Heap} {a : Addr} {L : List KT} (R : SetK0 P w h a L) : ObjOk P w H h a (SetKO P w a L) := by
  have ⟨es, ep, t, ⟨o, ho, r⟩, q⟩ := R.ex
  refine ⟨R, ⟨o, ho⟩, fun h1 h2 p k => ?_⟩
  have ⟨es', ep', t', ⟨o', ho', r'⟩, q'⟩ := SetK0.ex p
  exact ⟨es', ep', t', ⟨o', k o' ho', r'⟩, q'⟩
theorem keys_vals {P : Program} {w : World} : ∀ {k : List Key} {us : List Value}, Vals (k.map kV) us → ItemsAre (mixKind P w) k us
  | [], _, .nil => .nil
  | .inl i :: k, _, .cons r t => by
    obtain ⟨tk, rfl⟩ := r
    exact .cons (mixKind_int P w i tk) (keys_vals t)
  | .inr x :: k, _, .cons r t => by
    obtain ⟨tk, rfl⟩ := r
    exact .cons (mixKind_str P w x tk) (keys_vals t)
theorem vals_refs : ∀ {ks : List KT} {us : List Value}, Vals (ks.map fun p => V.ref p.1) us → us = ks.map fun p => Value.ref p.1
  | [], _, .nil => rfl
  | p :: ks, _, .cons r t => by
    cases r
    rw [vals_refs t]
    all_goals rfl
theorem refs_vals : ∀ (ks : List KT), Vals (ks.map fun p => V.ref p.1) (ks.map fun p => Value.ref p.1)
  | [] => .nil
  | p :: ks => .cons rfl (refs_vals ks)
section
variable {X : Cx}
theorem inv_isK {pins : List (Addr × Obj)} {σ : L2.St} {H : Hp} {s : Shared} {b : Addr} {k : List Key} (I : Inv X pins σ H s) (h : SqT X.K H b (k.map kV)) : IsK X.prog X.w s.heap k b := by
  obtain ⟨its, r, ⟨o, ho, hc, n, hd⟩, _⟩ := I.tuple h
  exact ⟨o, its.toArray, n, ho, hc, hd, by simpa using keys_vals r⟩
/-- set(x), x a list or a tuple of tuples of keys -/
def rSetT (K : PySem.W.Frag) (P : Program) (w : World) : List V → Hp → VK → Prop := fun xs H Q => ∃ (l : Addr) (ks : List KT), xs = [V.ref l] ∧ (SqL K H l (ks.map fun p => V.ref p.1) ∨ SqT K H l (ks.map fun p => V.ref p.1)) ∧
  (∀ p ∈ ks, SqT K H p.1 (p.2.map kV)) ∧ ks.length < 64 ∧
  ∀ a L, H a = none → (∀ p ∈ L, p ∈ ks) → (∀ p ∈ ks, p.2 ∈ L.map (·.2)) → (L.map (·.2)).Nodup → Q (.ref a) (upd H a (SetKO P w a L))
theorem cr_setT (hc : X.calm = true) (hu : X.A.units + 64 < cLine) : CallR X (.type "set") (rSetT X.K X.prog X.w) := by
  intro pins s σ H xs us Q I r h
  obtain ⟨l, ks, rfl, hl, hk, hf, q⟩ := h
  rw [Vals.ref1 r]
  have hn : H s.heap.objs.size = none := I.hok.fresh (Nat.le_refl _)
  have fin : ∀ (h' : Heap) (tk : Nat) L es ep t, SetKR X.prog X.w h' s.heap.objs.size L es ep t → Gets ks ks.length L → (∀ b o, s.heap.get? b = some o → h'.get? b = some o) →
      ∃ v H', Inv X pins σ H' { s with heap := h', toks := tk } ∧ RelV v (.ref s.heap.objs.size) ∧ Q v H' := fun h' tk L es ep t R g k => by
    refine ⟨.ref s.heap.objs.size, upd H s.heap.objs.size (SetKO X.prog X.w s.heap.objs.size L), I.laid (t' := tk) k (Nat.le_refl _) (setKO_new R.less), rfl, q _ L hn (fun p hp => ?_) (fun p hp => ?_) R.nd⟩
    · exact List.mem_of_mem_take (g.sub p hp)
    · exact g.all p (by rw [List.take_length]; exact hp)
  rcases hl with hl | hl
  · obtain ⟨its, rv, pl, hz⟩ := I.list hl
    exact call_set_keys (P := X.prog) (w := X.w) ks (I.ok.hd hc) (Seqs.list pl.isList) (by simpa using vals_refs rv) (fun p hp => inv_isK I (hk p hp)) hf (by omega) fin
  · obtain ⟨its, rv, pl, hz⟩ := I.tuple hl
    exact call_set_keys (P := X.prog) (w := X.w) ks (I.ok.hd hc) (Seqs.tuple pl) (by simpa using vals_refs rv) (fun p hp => inv_isK I (hk p hp)) hf (by omega) fin
end
end Hk
set_option Elab.async false
set_option linter.all false
set_option maxRecDepth 100000
set_option maxHeartbeats 4000000
namespace Hk
open PySem PySem.Spec PyProof.Rows L2
open PySem.W (EachIs AllAlike Sortable dataLe)
def unK (k : List Key) : List Str := k.filterMap fun x => match x with
  | .inr t => some t
  | .inl _ => none
theorem unK_inr (l : List Str) : unK (l.map Sum.inr) = l := by
  unfold unK
  rw [List.filterMap_map]
  induction l with
  | nil => rfl
  | cons x l ih =>
    rw [List.filterMap_cons_some (f := (fun x => match x with
      | Sum.inr t => some t
      | Sum.inl _ => none : Key → Option Str) ∘ Sum.inr) (a := x) (b := x) rfl]
    exact congrArg (x :: ·) ih
/-- the invariant where all objects are kept -/
theorem inv_kept {X : Cx} {pins : List (Addr × Obj)} {σ : L2.St} {H : Hp} {s z : Shared} (I : L2.Inv X pins σ H s) (k : ∀ b o, s.heap.get? b = some o → z.heap.get? b = some o) (g : z.gens = s.gens) (os : z.os = s.os) : L2.Inv X pins σ H z := by
  have J : L2.Inv X pins σ H { s with heap := z.heap, gens := z.gens, drawn := z.drawn, toks := z.toks } := I.call (ch := []) (Un.kept k) (I.hok.kept k) (by rw [g]; exact I.bare) (fun _ y => nomatch y)
  have e : z = { s with heap := z.heap, gens := z.gens, drawn := z.drawn, toks := z.toks } := by
    cases z
    cases s
    cases os
    rfl
  rw [e]
  exact J
/-- .. and one more is laid at the end -/
theorem inv_laid {X : Cx} {pins : List (Addr × Obj)} {σ : L2.St} {H : Hp} {s z : Shared} {o : HO} (I : L2.Inv X pins σ H s) (k : ∀ b o, s.heap.get? b = some o → z.heap.get? b = some o) (g : z.gens = s.gens) (os : z.os = s.os)
    (new : ObjOk X.prog X.w (upd H s.heap.objs.size o) z.heap s.heap.objs.size o) : L2.Inv X pins σ (upd H s.heap.objs.size o) z := by
  have hn : H s.heap.objs.size = none := I.hok.fresh (Nat.le_refl _)
  have J : L2.Inv X pins σ (upd H s.heap.objs.size o) { s with heap := z.heap, gens := z.gens, drawn := z.drawn, toks := z.toks } :=
    I.call (ch := []) (Un.laid k (Nat.le_refl _) hn) (I.hok.laid k (Nat.le_refl _) new) (by rw [g]; exact I.bare) (fun _ y => nomatch y)
  have e : z = { s with heap := z.heap, gens := z.gens, drawn := z.drawn, toks := z.toks } := by
    cases z
    cases s
    cases os
    rfl
  rw [e]
  exact J
section
variable {P : Program} {w : World}
theorem reads_strs {h : Heap} : ∀ {l : List Str} {vs : List Value}, ItemsAre (mixKind P w) (l.map Sum.inr) vs → ReadsAll h vs (l.map PyData.str) []
  | [], _, x => by
    cases x
    exact .nil
  | t :: l, _, x => by
    cases x with
    | cons h1 h2 =>
      rcases keyIs_shape (k := (Sum.inr t : Key)) h1 with ⟨i, u, e, _⟩ | ⟨y, u, e, rfl⟩
      · cases e
      · cases e
        exact .cons (.str _ _) (reads_strs h2)
theorem reads_isK {h : Heap} {l : List Str} {a : Addr} (x : IsK P w h (l.map Sum.inr) a) : Reads h (.ref a) (encS l) [] := by
  obtain ⟨o, items, n, ho, hc, hd, hi⟩ := x
  exact .tuple ho hc hd (reads_strs hi)
theorem nodup_map {α γ : Type} {f : α → γ} {l : List α} (h : (l.map f).Nodup) : l.Nodup := List.Pairwise.of_map f (fun _ _ hne e => hne (congrArg f e)) h
theorem each_self {α γ : Type} {R : α → γ → Prop} (f : γ → α) (h : ∀ c, R (f c) c) : ∀ l : List γ, EachIs R (l.map f) l
  | [] => .nil
  | c :: l => .cons (h c) (each_self f h l)
theorem each_mem2 {α γ : Type} {R : α → γ → Prop} (f : γ → α) : ∀ l : List γ, (∀ c ∈ l, R (f c) c) → EachIs R (l.map f) l
  | [], _ => .nil
  | c :: l, h => .cons (h c List.mem_cons_self) (each_mem2 f l fun d m => h d (List.mem_cons_of_mem _ m))
theorem each_eq {α γ : Type} {f : γ → α} : ∀ {xs : List α} {l : List γ}, EachIs (fun a c => a = f c) xs l → xs = l.map f
  | _, _, .nil => rfl
  | _, _, .cons h t => by rw [h, each_eq t]; rfl
end
section
variable {X : Cx}
/-- sorted(set), its members tuples of d texts -/
def rSortKO (K : PySem.W.Frag) (P : Program) (w : World) : List V → Hp → VK → Prop := fun vs H Q => ∃ (a : Addr) (L : List KT) (d : Nat), vs = [V.ref a] ∧ H a = some (SetKO P w a L) ∧ (∀ p ∈ L, SqT K H p.1 (p.2.map kV)) ∧
  (∀ p ∈ L, ∃ t : List Str, p.2 = t.map Sum.inr ∧ t.length = d + 1) ∧
  ∀ (M : List KT) (p : Addr), M.Perm L → (M.map (·.2)).Nodup → M.Pairwise (fun q r => leS (unK q.2) (unK r.2) = true) → H p = none → Q (.ref p) (upd H p (.lst (M.map fun q => V.ref q.1)))
theorem cr_sortKO (hc : X.calm = true) (hu : X.A.units + 64 < cLine) : CallR X (.builtin "sorted") (rSortKO X.K X.prog X.w) := by
  intro pins s σ H vs us Q I r h
  obtain ⟨a, L, d, rfl, ha, hk, ht, q⟩ := h
  have R0 : SetK0 X.prog X.w s.heap a L := (I.hok a _ ha).1
  obtain ⟨es, ep, t, R⟩ := R0.full fun p hp => inv_isK I (hk p hp)
  rw [Vals.ref1 r]
  obtain ⟨o, ho, hex, hd⟩ := R.ob
  have esl := R.size
  have few := R.few
  have evs : es.toList.map (·.2) = L.map fun q => Value.ref q.1 := by
    rw [R.rows]
    unfold keyRows
    rw [List.map_map]
    all_goals rfl
  -- an address has one key
  have one : ∀ q ∈ L, ∀ r ∈ L, q.1 = r.1 → q = r := fun q hq r hr e => by
    have a1 := R.tup q hq
    have a2 := R.tup r hr
    rw [e] at a1
    exact Prod.ext e (a1.inj a2)
  have back : ∀ vs : List Value, (∀ v ∈ vs, ∃ q ∈ L, v = Value.ref q.1) → ∃ M : List KT, vs = M.map (fun q => Value.ref q.1) ∧ ∀ q ∈ M, q ∈ L := by
    intro vs
    induction vs with
    | nil => intro _; exact ⟨[], rfl, by simp⟩
    | cons v vs ih =>
      intro hv
      obtain ⟨q, hq, e⟩ := hv v List.mem_cons_self
      obtain ⟨M, e1, hs⟩ := ih fun u hu => hv u (List.mem_cons_of_mem _ hu)
      refine ⟨q :: M, by rw [List.map_cons, e, e1], fun r hr => ?_⟩
      rcases List.mem_cons.mp hr with z | z
      · rw [z]; exact hq
      · exact hs r z
  have permL : ∀ M : List KT, (∀ q ∈ M, q ∈ L) → (M.map (fun q => Value.ref q.1)).Perm (L.map fun q => Value.ref q.1) → M.Perm L := by
    intro M hs pm
    have nL : L.Nodup := nodup_map R.nd
    have nref : (L.map fun q => Value.ref q.1).Nodup := by
      refine List.pairwise_map.mpr (List.Pairwise.imp_of_mem (fun {q r} hq hr hne e => ?_) nL)
      injection e with e
      exact hne (one q hq r hr e)
    refine (List.perm_ext_iff_of_nodup (nodup_map (pm.nodup_iff.mpr nref)) nL).mpr fun q => ⟨hs q, fun hq => ?_⟩
    obtain ⟨r, hr, e⟩ := List.mem_map.mp (pm.mem_iff.mpr (List.mem_map.mpr ⟨q, hq, rfl⟩))
    injection e with e
    rw [← one r (hs r hr) q hq e]
    exact hr
  refine sorted_via (β := KT) (R := fun v p => v = Value.ref p.1) (enc := fun p => encS (unK p.2)) (C := fun vs M s1 => M.Perm L ∧ vs = M.map fun q => Value.ref q.1) (fun Q1 go => ?_) fun vs M s1 out c z cc it eo kz g os hz => ?_
  · refine collect_set (A := X.A.in1) (I.ok.hd hc) ⟨o, ho, hex.1, hd⟩ R.fits (by unfold scanBound; omega) R.tab.ris R.led fun s1 vs k1 hz g1 o1 pm => ?_
    rw [evs] at pm
    obtain ⟨M, e1, hs⟩ := back vs fun v hv => by
      obtain ⟨q, hq, e⟩ := List.mem_map.mp (pm.mem_iff.mp hv)
      exact ⟨q, hq, e.symm⟩
    have pM : M.Perm L := permL M hs (by rw [← e1]; exact pm)
    have lenM : M.length < 64 := by rw [pM.length_eq]; exact few
    subst e1
    refine go _ M s1 ⟨pM, rfl⟩ { each := each_mem2 _ M fun _ _ => rfl, reads := each_mem2 _ M fun p hp => ?_, alike := fun x hx y hy => ?_, sortable := .inl fun x hx => ?_, room := fun p hp => ?_, len := by rw [sizeLine_eq]; omega, keep := k1, gens := g1, os := o1 }
    · obtain ⟨t, et, _⟩ := ht p (hs p hp)
      have x : IsK X.prog X.w s1.heap (t.map Sum.inr) p.1 := by
        rw [← et]
        exact (R.tup p (hs p hp)).kept k1
      show Reads s1.heap (.ref p.1) (encS (unK p.2)) []
      rw [et, unK_inr]
      exact reads_isK x
    · obtain ⟨p, hp, rfl⟩ := List.mem_map.mp hx
      obtain ⟨p', hp', rfl⟩ := List.mem_map.mp hy
      obtain ⟨t, et, lt⟩ := ht p (hs p hp)
      obtain ⟨t', et', lt'⟩ := ht p' (hs p' hp')
      show PySem.W.alike (encS (unK p.2)) (encS (unK p'.2)) = true
      rw [et, et', unK_inr, unK_inr]
      exact alike_encS (lt.trans lt'.symm)
    · obtain ⟨p, hp, rfl⟩ := List.mem_map.mp hx
      obtain ⟨t, et, lt⟩ := ht p (hs p hp)
      show ∃ y r, encS (unK p.2) = .tuple (y :: r)
      rw [et, unK_inr]
      cases t with
      | nil => simp at lt
      | cons y t => exact ⟨_, _, rfl⟩
    · show X.A.units + 4 + (encS (unK p.2)).depth < cLine
      rw [depth_encS]
      omega
  · obtain ⟨pM, _⟩ := cc
    have eo2 : out = (M.mergeSort (dataLe false fun p => encS (unK p.2))).map fun q => Value.ref q.1 := each_eq eo
    have I1 := inv_kept I it.keep it.gens it.os
    have hn : H s1.heap.objs.size = none := I1.hok.fresh (Nat.le_refl _)
    have pm2 : (M.mergeSort (dataLe false fun p => encS (unK p.2))).Perm L := (List.mergeSort_perm _ _).trans pM
    have pw : (M.mergeSort (dataLe false fun p => encS (unK p.2))).Pairwise (fun q r => leS (unK q.2) (unK r.2) = true) :=
      PySem.W.sort_pairwise (le := dataLe false fun p : KT => encS (unK p.2)) (PySem.W.sortLe_total (listOrd itemOrd) false fun p : KT => PySem.W.keyToks (encS (unK p.2))) M
    generalize M.mergeSort (dataLe false fun p => encS (unK p.2)) = N at eo2 pm2 pw
    have len : (N.map fun q => V.ref q.1).length ≤ sizeLine := by rw [List.length_map, pm2.length_eq, sizeLine_eq]; omega
    have J := inv_laid (o := .lst (N.map fun q => V.ref q.1)) I1 kz (g.trans it.gens.symm) (os.trans it.os.symm) ⟨len, out, c, by rw [eo2]; exact refs_vals N, hz⟩
    exact ⟨.ref s1.heap.objs.size, _, J, rfl, q N _ pm2 ((pm2.map (·.2)).nodup_iff.mpr R.nd) pw hn⟩

/-- sorted(x), x a list or a tuple of texts -/
def rSortX (K : PySem.W.Frag) : List V → Hp → VK → Prop := fun vs H Q => ∃ (a : Addr) (xs : List Str), vs = [V.ref a] ∧ (SqL K H a (xs.map V.str) ∨ SqT K H a (xs.map V.str)) ∧ 
  ∀ p : Addr, H p = none → Q (.ref p) (upd H p (.lst ((xs.mergeSort leT).map V.str)))
theorem vals_strs : ∀ {xs : List Str} {us : List Value}, Vals (xs.map V.str) us → EachIs (fun v x => ∃ t, v = Value.str x t) us xs
  | [], _, .nil => .nil
  | x :: xs, _, .cons r t => by
    obtain ⟨k, rfl⟩ := r
    exact .cons ⟨k, rfl⟩ (vals_strs t)
theorem strs_vals : ∀ {xs : List Str} {us : List Value}, EachIs (fun v x => ∃ t, v = Value.str x t) us xs → Vals (xs.map V.str) us
  | [], _, .nil => .nil
  | x :: xs, _, .cons ⟨k, e⟩ t => by
    subst e
    exact .cons ⟨k, rfl⟩ (strs_vals t)
theorem cr_sortX (hu : X.A.units + 64 < cLine) : CallR X (.builtin "sorted") (rSortX X.K) := by
  intro pins s σ H vs us Q I r h
  obtain ⟨a, xs, rfl, ha, q⟩ := h
  rw [Vals.ref1 r]
  have seq : ∃ (T : String) (o : Obj) (its : List Value) (n : Nat), (T = "list" ∨ T = "tuple") ∧ s.heap.get? a = some o ∧ o.cls = .type T ∧ o.data = .seq its.toArray n ∧ Vals (xs.map V.str) its ∧ xs.length ≤ sizeLine := by
    rcases ha with ha | ha
    · obtain ⟨its, rv, ⟨o, n, ho, hc, _, hd⟩, hz⟩ := I.list ha
      exact ⟨"list", o, its, n, .inl rfl, ho, hc, hd, rv, by simpa using hz⟩
    · obtain ⟨its, rv, ⟨o, ho, hc, n, hd⟩, hz⟩ := I.tuple ha
      exact ⟨"tuple", o, its, n, .inr rfl, ho, hc, hd, rv, by simpa using hz⟩
  obtain ⟨T, o, its, n, hT, ho, hc, hd, rv, hz⟩ := seq
  have ev := vals_strs rv
  refine sorted_via (β := Str) (R := fun v x => ∃ t, v = Value.str x t) (enc := PyData.str) (C := fun vs bs s1 => bs = xs) (fun Q1 go => ?_) fun vs bs s1 out c z cc it eo kz g os hzz => ?_
  · refine wpAny_collect_seq a hT ho hc hd (fun h' k => go _ xs _ rfl ?_) (by rw [List.size_toArray, ← rv.length, List.length_map]; exact hz)
    have ev2 : EachIs (fun v x => ∃ t, v = Value.str x t) its.toArray.toList xs := by simpa using ev
    refine { each := ev2, reads := ev2.mono fun v x ⟨t, e⟩ => by rw [e]; exact .str x t, alike := fun x hx y hy => ?_, sortable := .inr fun x hx => ?_, room := fun x hx => ?_, len := hz, keep := k, gens := rfl, os := rfl }
    · obtain ⟨p, hp, rfl⟩ := List.mem_map.mp hx
      obtain ⟨p', hp', rfl⟩ := List.mem_map.mp hy
      simp [PySem.W.alike]
    · obtain ⟨p, hp, rfl⟩ := List.mem_map.mp hx
      exact ⟨by simp, by simp⟩
    · simp only [PyData.depth]
      omega
  · have ebs : bs = xs := cc
    rw [ebs] at eo
    have I1 := inv_kept I it.keep it.gens it.os
    have hn : H s1.heap.objs.size = none := I1.hok.fresh (Nat.le_refl _)
    have len : ((xs.mergeSort leT).map V.str).length ≤ sizeLine := by rw [List.length_map, (List.mergeSort_perm _ _).length_eq]; exact hz
    have J := inv_laid (o := .lst ((xs.mergeSort leT).map V.str)) I1 kz (g.trans it.gens.symm) (os.trans it.os.symm) ⟨len, out, c, strs_vals eo, hzz⟩
    exact ⟨.ref s1.heap.objs.size, _, J, rfl, q _ hn⟩
end
end Hk
set_option Elab.async false
set_option linter.all false
set_option maxRecDepth 100000
set_option maxHeartbeats 4000000
namespace Hk
open PySem PySem.Spec PyProof.Rows L2
def memK (k : Key) (l : List Key) : Bool := l.any fun x => decide (x = k)
theorem memK_iff {k : Key} {l : List Key} : memK k l = true ↔ k ∈ l := by
  unfold memK
  rw [List.any_eq_true]
  constructor
  · rintro ⟨x, hx, e⟩
    rw [← of_decide_eq_true e]
    exact hx
  · exact fun h => ⟨k, h, decide_eq_true rfl⟩
section
variable {P : Program} {w : World} {A : Around} {E : Value → Shared → Prop} {s : Shared}
/-- the invariant of set(x), x of keys: what is in, how many -/
def JW (P : Program) (w : World) (S : Addr) (ks : List Key) (i : Nat) (h : Heap) : Prop := ∃ n, h.SetOf (mixKind P w) S (fun k => memK k (ks.take i)) n ∧ n ≤ i ∧ (n = i ↔ (ks.take i).Nodup)
theorem setOf_eq {h : Heap} {a : Addr} {S T : Key → Bool} {n : Nat} (x : h.SetOf (mixKind P w) a S n) (e : ∀ k, S k = T k) : h.SetOf (mixKind P w) a T n := by
  have q : S = T := funext e
  rw [← q]
  exact x
theorem step_words {S : Addr} {ks : List Key} {vs : List Value} (hv : Vals (ks.map kV) vs) (few : ks.length < 4000) : AddStep P w s.heap S vs (JW P w S ks) 0 := by
  intro A' E' Q i v s1 hu hi ⟨n, R, hn, hd⟩ kp fin
  have il : i < ks.length := by
    have q := (List.getElem?_eq_some_iff.mp hi).1
    rw [← hv.length, List.length_map] at q
    exact q
  have hk : ks[i]? = some ks[i] := List.getElem?_eq_getElem il
  have rk : RelV (kV ks[i]) v := by
    obtain ⟨u, e, r⟩ := hv.get (i := i) (x := kV ks[i]) (by rw [List.getElem?_map, hk]; rfl)
    rw [hi] at e
    cases e
    exact r
  have up := take_up hk
  generalize ks[i] = k at hk rk up
  unfold setAdd
  refine wpAny_holding ?_
  refine wpAny_bind ((mixKind P w).pyHash (kV_is rk) ?_)
  refine wpAny_setAddHashed_of (knd := mixKind P w) (s := { s1 with toks := s1.toks + 1 }) (kV_is rk) (key_scan rk) R (by unfold scanBound; omega) fun h' sb R' => ?_
  refine fin _ h' _ sb ⟨_, setOf_eq R' fun j => ?_, ?_, ?_⟩ (Nat.le_succ _)
  · rw [up]
    rw [Bool.eq_iff_iff, Bool.or_eq_true, memK_iff, memK_iff, decide_eq_true_eq, List.mem_append, List.mem_singleton]
  · split <;> omega
  · rw [up]
    by_cases m : k ∈ ks.take i
    · rw [if_pos (memK_iff.mpr m)]
      refine ⟨fun e => by omega, fun nd => ?_⟩
      have q := (List.nodup_append.mp nd).2.2 k m k (by simp)
      exact absurd rfl q
    · rw [if_neg (fun e => m (memK_iff.mp e))]
      constructor
      · intro e
        refine List.nodup_append.mpr ⟨hd.mp (by omega), by simp, fun a ha b hb z => ?_⟩
        rw [List.mem_singleton.mp hb] at z
        exact m (z ▸ ha)
      · intro nd
        have := hd.mpr (List.nodup_append.mp nd).1
        omega
end
section
variable {X : Cx}
/-- set(x), x a list or a tuple of keys: the set's size tells whether all differ -/
def rSetW (K : PySem.W.Frag) (P : Program) (w : World) : List V → Hp → VK → Prop := fun xs H Q => ∃ (l : Addr) (ks : List Key), xs = [V.ref l] ∧ (SqL K H l (ks.map kV) ∨ SqT K H l (ks.map kV)) ∧ ks.length < 4000 ∧
  ∀ a n, H a = none → (n = ks.length ↔ ks.Nodup) → Q (.ref a) (upd H a (SetK P w a (fun k => memK k ks) n))
theorem cr_setW (hc : X.calm = true) (hu : X.A.units + 64 < cLine) : CallR X (.type "set") (rSetW X.K X.prog X.w) := by
  intro pins s σ H xs us Q I r h
  obtain ⟨l, ks, rfl, hl, hf, q⟩ := h
  rw [Vals.ref1 r]
  have hn : H s.heap.objs.size = none := I.hok.fresh (Nat.le_refl _)
  have go : ∀ (T : String) (its : List Value), Seqs X.prog X.w T l its.toArray s → Vals (ks.map kV) its →
      wpAny (model X.prog X.w) X.A (call (.type "set") [.ref l]) (fun u s' => ∃ v H', Inv X pins σ H' s' ∧ RelV v u ∧ Q v H') X.xe s := fun T its W rv => by
    have ln : its.length = ks.length := by rw [← rv.length, List.length_map]
    refine call_set_any (J := JW X.prog X.w s.heap.objs.size ks) (room := 0) (I.ok.hd hc) W (by omega) (by simpa using step_words rv hf) (fun i h h' ⟨n, R, m⟩ kS _ => ⟨n, setOf_at R kS, m⟩) (fun h' fr kp => ?_) fun h' tk j kp => ?_
    · exact ⟨0, ⟨_, #[], 0, _, fr, ⟨rfl, rfl, rfl⟩, rfl, (fun e he => by simp at he), (fun k => by simp [memK]), (by decide), (by rfl), rfl⟩, Nat.le_refl _, by simp⟩
    · obtain ⟨n, R, hle, hd⟩ := j
      have esz : its.toArray.size = ks.length := by simp [ln]
      rw [esz, List.take_length] at R hd
      exact ⟨.ref s.heap.objs.size, upd H s.heap.objs.size (SetK X.prog X.w s.heap.objs.size (fun k => memK k ks) n), I.laid (t' := tk) kp (Nat.le_refl _) (setK_new R), rfl, q _ n hn hd⟩
  rcases hl with hl | hl
  · obtain ⟨its, rv, pl, hz⟩ := I.list hl
    exact go "list" its (Seqs.list pl.isList) rv
  · obtain ⟨its, rv, pl, hz⟩ := I.tuple hl
    exact go "tuple" its (Seqs.tuple pl) rv
/-- len of such a set -/
def rLenK (P : Program) (w : World) : List V → Hp → VK → Prop := fun xs H Q => ∃ (a : Addr) (S : Key → Bool) (n : Nat), xs = [V.ref a] ∧ H a = some (SetK P w a S n) ∧ Q (.int n) H
theorem cr_lenK : CallR X (.builtin "len") (rLenK X.prog X.w) := by
  intro pins s σ H xs us Q I r h
  obtain ⟨a, S, n, rfl, ha, q⟩ := h
  rw [Vals.ref1 r]
  obtain ⟨o, es, ep, t, ho, hex, hd, _, _, hb, hf, hn⟩ := setK_get I ha
  refine call_len_set ho hex hd hf (by have : scanBound = 4096 := rfl; omega) ⟨.int n, H, I.tok _, ⟨_, by rw [hn]⟩, q⟩
/-- len of a set of tuples -/
def rLenT (P : Program) (w : World) : List V → Hp → VK → Prop := fun xs H Q => ∃ (a : Addr) (L : List KT), xs = [V.ref a] ∧ H a = some (SetKO P w a L) ∧ Q (.int L.length) H
theorem cr_lenT : CallR X (.builtin "len") (rLenT X.prog X.w) := by
  intro pins s σ H xs us Q I r h
  obtain ⟨a, L, rfl, ha, q⟩ := h
  rw [Vals.ref1 r]
  have R0 : SetK0 X.prog X.w s.heap a L := (I.hok a _ ha).1
  obtain ⟨es, ep, t, ⟨o, ho, hex, hd⟩, hr, T, nd, led, rm, few⟩ := R0.ex
  have esl : es.size = L.length := by rw [← Array.length_toList, hr, keyRows_len]
  have fits : t.fits es.size = true := by
    have h1 := T.sz
    rw [List.length_map] at h1
    unfold SetTable.fits SetTable.fill
    rw [T.dm, Bool.and_eq_true, beq_iff_eq, decide_eq_true_eq]
    show t.place.size = es.size ∧ t.place.size + 0 ≤ t.mask
    omega
  refine call_len_set ho hex hd fits (by omega) ⟨.int L.length, H, I.tok _, ⟨_, by rw [esl]⟩, q⟩
end
end Hk
set_option Elab.async false
set_option linter.all false
set_option maxRecDepth 100000
set_option maxHeartbeats 4000000
/-! Walks of lists and tuples alike; comprehensions that leave what stood. -/
namespace Hk
open PySem PySem.Spec PyProof.Rows L2
/-- a list (b) or a tuple (not b) -/
def SqX (K : PySem.W.Frag) (H : Hp) (b : Bool) (a : Addr) (xs : List V) : Prop := if b = true then SqL K H a xs else SqT K H a xs
theorem SqX.list {K : PySem.W.Frag} {H : Hp} {a : Addr} {xs : List V} (h : SqL K H a xs) : SqX K H true a xs := h
theorem SqX.tup {K : PySem.W.Frag} {H : Hp} {a : Addr} {xs : List V} (h : SqT K H a xs) : SqX K H false a xs := h
theorem SqX.either {K : PySem.W.Frag} {H : Hp} {b : Bool} {a : Addr} {xs : List V} (h : SqX K H b a xs) : SqL K H a xs ∨ SqT K H a xs := by
  cases b
  · exact .inr h
  · exact .inl h
theorem seqT_same {K : PySem.W.Frag} {H H' : Hp} {a : Addr} {xs : List V} (s : Same H H') (h : SqT K H a xs) : SqT K H' a xs := by
  rcases h with (h | ⟨o, h⟩) | h
  · exact .inl (.inl (s _ _ h))
  · exact .inl (.inr ⟨o, s _ _ h⟩)
  · exact .inr h
theorem SqX.same {K : PySem.W.Frag} {H H' : Hp} {b : Bool} {a : Addr} {xs : List V} (h : SqX K H b a xs) (s : Same H H') : SqX K H' b a xs := by
  cases b
  · exact seqT_same s h
  · exact s.seq h
def iSeq (K : PySem.W.Frag) (tl : TE) : TI := fun σ H R => tl σ H fun x H1 => ∃ b a xs, x = .ref a ∧ SqX K H1 b a xs ∧ ∀ J, Walk J xs.length (fun H => SqX K H b a xs) (YAt xs) → R J H1
section
variable {X : Cx} {tg : Expr}
theorem pi_seq {l : Expr} {tl : TE} (hl : PE X l tl) : PI X tg l (iSeq X.K tl) := by
  refine ⟨fun pins s σ H R I h => ?_⟩
  refine thn (hl.run pins s σ H _ I h) fun v s1 ⟨x, H1, I1, r1, b, a, xs, e, hq, q⟩ => ?_
  subst e
  cases r1
  have fresh : ∀ c ∈ [s1.heap.objs.size], FpOk X pins H1 c := fun c hc => by
    rw [List.mem_singleton.mp hc]
    exact I1.fpOk (Nat.le_refl _) (I1.hok.fresh (Nat.le_refl _))
  cases b with
  | true =>
    obtain ⟨its, rv, p, hz⟩ := I1.list (xs := xs) hq
    refine wpAny_pyIter_list p.isList ?_
    exact ⟨s1.heap.objs.size, [s1.heap.objs.size], _, _, H1, rfl, I1.kept (t' := s1.toks) fun c o e => Heap.get?_push_of_some _ e, turn_list a _, ⟨_, Heap.get?_push_size _ rfl, rfl, rfl⟩, fresh, q _ walk_list⟩
  | false =>
    obtain ⟨its, rv, p, hz⟩ := I1.tuple (xs := xs) hq
    refine wpAny_pyIter_tuple (show s1.heap.IsTuple a its.toArray from p) ?_
    exact ⟨s1.heap.objs.size, [s1.heap.objs.size], _, _, H1, rfl, I1.kept (t' := s1.toks) fun c o e => Heap.get?_push_of_some _ e, turn_tuple a _, ⟨_, Heap.get?_push_size _ rfl, rfl, rfl⟩, fresh, q _ walk_tup⟩
end
theorem Same.fresh {H H1 : Hp} {p : Addr} {o : HO} (a : Same H H1) (hp : H1 p = none) : Same H (L2.upd H1 p o) := fun b u e => by
  have q := a b u e
  rw [upd_ne (ne_of_none q hp)]
  exact q
/-- an object that was new where the walk began is written -/
theorem Same.put {H H1 : Hp} {p : Addr} {o : HO} (a : Same H H1) (hp : H p = none) : Same H (L2.upd H1 p o) := fun b u e => by
  have q := a b u e
  rw [upd_ne (ne_of_none e hp)]
  exact q
/-- no test stands in a comprehension -/
theorem tYes_ok {σ : L2.St} {H : Hp} {te : TE} {k : VK} {no : Hp → Prop} (h : te σ H k) : tYes σ H fun b H3 => if b = true then te σ H3 k else no H3 := by
  show if (true : Bool) = true then te σ H k else no H
  exact iteT h
/-- all but d stands as it stood -/
def But (d : Addr) (H H' : Hp) : Prop := ∀ b o, b ≠ d → H b = some o → H' b = some o
theorem But.rfl' {d : Addr} {H : Hp} : But d H H := fun _ _ _ e => e
theorem But.trans {d : Addr} {H H1 H2 : Hp} (a : But d H H1) (b : But d H1 H2) : But d H H2 := fun c o n e => b c o n (a c o n e)
theorem But.of {d : Addr} {H H' : Hp} (s : Same H H') : But d H H' := fun b o _ e => s b o e
theorem But.upd {d : Addr} {H H1 : Hp} {o : HO} (a : But d H H1) : But d H (L2.upd H1 d o) := fun b u n e => by
  rw [upd_ne n]
  exact a b u n e
theorem But.new {d : Addr} {H H1 : Hp} {p : Addr} {o : HO} (a : But d H H1) (hp : H1 p = none) : But d H (L2.upd H1 p o) := fun b u n e => by
  have q := a b u n e
  rw [upd_ne (ne_of_none q hp)]
  exact q
theorem But.same {d : Addr} {H H' : Hp} (b : But d H H') (h : H d = none) : Same H H' := fun c o e => b c o (ne_of_none e h) e
theorem SqX.but {K : PySem.W.Frag} {H H' : Hp} {b : Bool} {d a : Addr} {xs : List V} (h : SqX K H b a xs) (n : a ≠ d) (s : But d H H') : SqX K H' b a xs := by
  cases b
  · rcases (h : SqT K H a xs) with (h | ⟨o, h⟩) | h
    · exact (.inl (.inl (s _ _ n h)) : SqT K H' a xs)
    · exact (.inl (.inr ⟨o, s _ _ n h⟩) : SqT K H' a xs)
    · exact (.inr h : SqT K H' a xs)
  · rcases (h : SqL K H a xs) with (h | ⟨o, h⟩) | h
    · exact (.inl (.inl (s _ _ n h)) : SqL K H' a xs)
    · exact (.inl (.inr ⟨o, s _ _ n h⟩) : SqL K H' a xs)
    · exact (.inr h : SqL K H' a xs)
/-- a comprehension each of whose turns only makes objects; R i acc H: what its list holds behind i turns (nothing of the list's own place D) -/
theorem lcX {J : It} {n : Nat} {G : Hp → Prop} {xs : List V} (w : Walk J n G (YAt xs)) {g : TG} {tt : TT} {te : TE} {vs : List Nat} {σ : L2.St} {H1 : Hp} {D : Addr} {Qd : Hp → Prop} (hD : H1 D = none) (R : Nat → List V → Hp → Prop) (big : n < sizeLine)
    (hR : ∀ i l H H', R i l H → But D H H' → R i l H') (h0 : R 0 [] H1) (hG : ∀ H, Same H1 H → G H)
    (turn : ∀ i x H acc, i < n → xs[i]? = some x → Same H1 H → H D = some (.lst acc) → R i acc H → ∀ Nx : Hp → Prop,
      (∀ y H4, Same H H4 → R (i + 1) (acc ++ [y]) H4 → ∃ acc, H4 D = some (.lst acc) ∧ acc.length < sizeLine ∧ Nx (L2.upd H4 D (.lst (acc ++ [y])))) → (∀ H3, Same H H3 → R (i + 1) acc H3 → Nx H3) →
      g x (wipe σ vs) H fun σ2 H2 => wipe σ2 vs = wipe σ vs ∧ tt σ2 H2 fun b H3 =>
        if b = true then te σ2 H3 fun y H4 => ∃ acc, H4 D = some (.lst acc) ∧ acc.length < sizeLine ∧ Nx (L2.upd H4 D (.lst (acc ++ [y]))) else Nx H3)
    (fin : ∀ H acc, Same H1 H → H D = some (.lst acc) → R n acc H → Qd H) :
    ∃ W : Nat → Nat → Hp → Prop, (∃ m, W 0 m (L2.upd H1 D (.lst []))) ∧ ∀ i m H, W i m H →
      (J.stop i H ∧ Qd H) ∨ (J.go i H ∧ ∃ Nx : Hp → Prop, (∀ H', Nx H' → ∃ m', m' < m ∧ W (i + 1) m' H') ∧ ∀ x H', J.yld i H x H' → g x (wipe σ vs) H' fun σ2 H2 => wipe σ2 vs = wipe σ vs ∧ tt σ2 H2 fun b H3 =>
        if b = true then te σ2 H3 fun y H4 => ∃ acc, H4 D = some (.lst acc) ∧ acc.length < sizeLine ∧ Nx (L2.upd H4 D (.lst (acc ++ [y]))) else Nx H3) := by
  refine lc_it w (fun i H => Same H1 H ∧ ∃ acc, H D = some (.lst acc) ∧ acc.length ≤ i ∧ R i acc H) ⟨Same.fresh (Same.refl H1) hD, [], upd_same, Nat.le_refl _, hR _ _ _ _ h0 (But.upd But.rfl')⟩ (fun i H _ p => hG H p.1) (fun i x H H' hi p y => ?_) fun H ⟨s, acc, e, _, r⟩ => fin H acc s e r
  obtain ⟨s, acc, e, l, r⟩ := p
  obtain ⟨rfl, ex⟩ := y
  refine turn i x H' acc hi ex s e r _ (fun y H4 s4 r4 => ⟨acc, s4 _ _ e, by omega, ?_, acc ++ [y], upd_same, by rw [List.length_append]; exact Nat.succ_le_succ l, hR _ _ _ _ r4 (But.upd But.rfl')⟩) fun H3 s3 r3 => ⟨s.trans s3, acc, s3 _ _ e, Nat.le_succ_of_le l, r3⟩
  exact Same.put (s.trans s4) hD
/-- the keys of a locked dict -/
theorem walk_keysX {d : Addr} {o : Obj} {kvs : List (Key × V)} : Walk (Itk d o kvs) kvs.length (fun H => H d = some (.frz o (.dK kvs))) (YAt (kvs.map fun kv => kV kv.1)) :=
  walk_keys.mono (fun _ h => h) fun i H x H' _ _ ⟨e, k, v, ek, ex⟩ => ⟨e, by rw [List.getElem?_map, ek, ex]; rfl⟩
/-- {k: v for ..} over it, in the same way -/
theorem dc_it {J : It} {n : Nat} {G : Hp → Prop} {Y : Nat → Hp → V → Hp → Prop} (w : Walk J n G Y) {g : TG} {tt : TT} {tk tv : TE} {vs : List Nat} {σ : L2.St} {H1 : Hp} {D : Addr} {Qd : Hp → Prop} (Pv : Nat → Hp → Prop) (h0 : Pv 0 (L2.upd H1 D (.dK []))) (hG : ∀ i H, i ≤ n → Pv i H → G H)
    (hs : ∀ i x H H', i < n → Pv i H → Y i H x H' → g x (wipe σ vs) H' fun σ2 H2 => wipe σ2 vs = wipe σ vs ∧ tt σ2 H2 fun b H3 =>
      if b = true then tk σ2 H3 fun y H4 => tv σ2 H4 fun z H5 => ∃ kvs k, y = kV k ∧ H5 D = some (.dK kvs) ∧ kvs.length < sizeLine ∧ Pv (i + 1) (L2.upd H5 D (.dK (putK kvs k z))) else Pv (i + 1) H3) (hd : ∀ H, Pv n H → Qd H) :
    ∃ W : Nat → Nat → Hp → Prop, (∃ m, W 0 m (L2.upd H1 D (.dK []))) ∧ ∀ i m H, W i m H →
      (J.stop i H ∧ Qd H) ∨ (J.go i H ∧ ∃ Nx : Hp → Prop, (∀ H', Nx H' → ∃ m', m' < m ∧ W (i + 1) m' H') ∧ ∀ x H', J.yld i H x H' → g x (wipe σ vs) H' fun σ2 H2 => wipe σ2 vs = wipe σ vs ∧ tt σ2 H2 fun b H3 =>
        if b = true then tk σ2 H3 fun y H4 => tv σ2 H4 fun z H5 => ∃ kvs k, y = kV k ∧ H5 D = some (.dK kvs) ∧ kvs.length < sizeLine ∧ Nx (L2.upd H5 D (.dK (putK kvs k z))) else Nx H3) := by
  refine ⟨fun i m H => m = n - i ∧ i ≤ n ∧ Pv i H, ⟨n, by simp, Nat.zero_le _, h0⟩, ?_⟩
  rintro i m H ⟨rfl, hi, p⟩
  have q := hG i H hi p
  by_cases lt : i < n
  · refine .inr ⟨w.goes i H lt q, Pv (i + 1), fun H' p' => ⟨n - (i + 1), by omega, rfl, lt, p'⟩, fun x H' y => hs i x H H' lt p (w.yields i H x H' lt q y)⟩
  · have e : i = n := by omega
    subst e
    exact .inl ⟨w.stops H q, hd H p⟩
theorem tYes_ok2 {σ : L2.St} {H : Hp} {tk tv : TE} {k : V → VK} {no : Hp → Prop} (h : tk σ H fun y H4 => tv σ H4 (k y)) : tYes σ H fun b H3 => if b = true then tk σ H3 fun y H4 => tv σ H4 (k y) else no H3 := by
  show if (true : Bool) = true then _ else no H
  exact iteT h
/-- a dict comprehension whose turns only make objects -/
theorem dcX {J : It} {n : Nat} {G : Hp → Prop} {xs : List V} (w : Walk J n G (YAt xs)) {g : TG} {tt : TT} {tk tv : TE} {vs : List Nat} {σ : L2.St} {H1 : Hp} {D : Addr} {Qd : Hp → Prop} (hD : H1 D = none) (R : Nat → List (Key × V) → Hp → Prop) (big : n < sizeLine)
    (hR : ∀ i l H H', R i l H → But D H H' → R i l H') (h0 : R 0 [] H1) (hG : ∀ H, Same H1 H → G H)
    (turn : ∀ i x H kvs, i < n → xs[i]? = some x → Same H1 H → H D = some (.dK kvs) → R i kvs H → ∀ Nx : Hp → Prop,
      (∀ k z H5, Same H H5 → R (i + 1) (putK kvs k z) H5 → ∃ kvs k', kV k = kV k' ∧ H5 D = some (.dK kvs) ∧ kvs.length < sizeLine ∧ Nx (L2.upd H5 D (.dK (putK kvs k' z)))) → (∀ H3, Same H H3 → R (i + 1) kvs H3 → Nx H3) →
      g x (wipe σ vs) H fun σ2 H2 => wipe σ2 vs = wipe σ vs ∧ tt σ2 H2 fun b H3 =>
        if b = true then tk σ2 H3 fun y H4 => tv σ2 H4 fun z H5 => ∃ kvs k, y = kV k ∧ H5 D = some (.dK kvs) ∧ kvs.length < sizeLine ∧ Nx (L2.upd H5 D (.dK (putK kvs k z))) else Nx H3)
    (fin : ∀ H kvs, Same H1 H → H D = some (.dK kvs) → R n kvs H → Qd H) :
    ∃ W : Nat → Nat → Hp → Prop, (∃ m, W 0 m (L2.upd H1 D (.dK []))) ∧ ∀ i m H, W i m H →
      (J.stop i H ∧ Qd H) ∨ (J.go i H ∧ ∃ Nx : Hp → Prop, (∀ H', Nx H' → ∃ m', m' < m ∧ W (i + 1) m' H') ∧ ∀ x H', J.yld i H x H' → g x (wipe σ vs) H' fun σ2 H2 => wipe σ2 vs = wipe σ vs ∧ tt σ2 H2 fun b H3 =>
        if b = true then tk σ2 H3 fun y H4 => tv σ2 H4 fun z H5 => ∃ kvs k, y = kV k ∧ H5 D = some (.dK kvs) ∧ kvs.length < sizeLine ∧ Nx (L2.upd H5 D (.dK (putK kvs k z))) else Nx H3) := by
  refine dc_it w (fun i H => Same H1 H ∧ ∃ kvs, H D = some (.dK kvs) ∧ kvs.length ≤ i ∧ R i kvs H) ⟨Same.fresh (Same.refl H1) hD, [], upd_same, Nat.le_refl _, hR _ _ _ _ h0 (But.upd But.rfl')⟩ (fun i H _ p => hG H p.1) (fun i x H H' hi p y => ?_) fun H ⟨s, kvs, e, _, r⟩ => fin H kvs s e r
  obtain ⟨s, kvs, e, l, r⟩ := p
  obtain ⟨rfl, ex⟩ := y
  refine turn i x H' kvs hi ex s e r _ (fun k z H5 s5 r5 => ⟨kvs, k, rfl, s5 _ _ e, by omega, ?_, putK kvs k z, upd_same, ?_, hR _ _ _ _ r5 (But.upd But.rfl')⟩) fun H3 s3 r3 => ⟨s.trans s3, kvs, s3 _ _ e, Nat.le_succ_of_le l, r3⟩
  · exact Same.put (s.trans s5) hD
  · have := length_putK kvs k z
    omega
end Hk
set_option Elab.async false
set_option linter.all false
set_option maxRecDepth 100000
set_option maxHeartbeats 4000000
namespace Hk
open PySem PySem.Spec PyProof.Rows L2
section
variable {X : Cx}
theorem sw_dict {kx vx : Expr} {gs : List Comprehension} {scope : Scope} {pos py : Pos} {y : Str} {l : Nat} {env : Env} (hk : env.scope.kind = .function) (hy : env.scope.names.lookup y = some .local) (hl : (py.line == pos.line) = true)
    (ha : (scope.names.any fun (n, k) => n == y && (k == .local || k == .cell)) = false) : swapsWith (.DictComp kx vx gs scope pos) (some (.Name y py)) l env = pure true := by
  have q1 : env.kindOf y = some .local := hy
  have q2 : env.blockKind = .function := by unfold Env.blockKind; rw [hk]; rfl
  unfold swapsWith
  simp only [q2, q1, ha, Expr.pos, hl]
  rfl
/-- name = {k: v for ..} on one line, the name a local -/
theorem ps_setDc {i : Nat} {y : Str} {py : Pos} {kx vx tg iter : Expr} {ifs : List Expr} {scope : Scope} {own : List (Str × Nat)} {pos spos : Pos} {wi : TI} {g : TG} {tt : TT} {tk tv : TE} (hc : X.calm = true) (hN : X.N.Nodup) (hy : X.N[i]? = some y) (hyl : X.env.scope.names.lookup y = some .local)
    (hsw : swapsWith (.DictComp kx vx [⟨tg, iter, ifs, 0⟩] scope pos) (some (.Name y py)) spos.line X.env = pure true) (hi : PI X tg iter wi) (ok : BlkOk X.N X.env.scope scope own)
    (hg : ∀ (s : Shared) (H : Hp) (C : Addr) (cl : List (Str × Addr)) (fp : List Addr), PG (X.blk s H scope (compEnvC scope cl C X.env) fp) tg g)
    (ht : ∀ (s : Shared) (H : Hp) (C : Addr) (cl : List (Str × Addr)) (fp : List Addr), PTs (X.blk s H scope (compEnvC scope cl C X.env) fp) ifs tt)
    (hk : ∀ (s : Shared) (H : Hp) (C : Addr) (cl : List (Str × Addr)) (fp : List Addr), PE (X.blk s H scope (compEnvC scope cl C X.env) fp) kx tk)
    (he : ∀ (s : Shared) (H : Hp) (C : Addr) (cl : List (Str × Addr)) (fp : List Addr), PE (X.blk s H scope (compEnvC scope cl C X.env) fp) vx tv) (hs : ∀ x, foldedSetIterable iter X.env x = pure x := by intro _; rfl) :
    PS X (.Assign [.Name y py] (.DictComp kx vx [⟨tg, iter, ifs, 0⟩] scope pos) spos) (tAsg (tDc wi g tt tk tv (own.map (·.2))) (gName i)) := by
  refine ⟨fun pins s σ H D I h => ?_⟩
  rw [exec_Assign_Name_used _ _ _ _ hsw]
  refine wpAny_bind (wpAny_standAt (wpAny_bind ?_))
  show wpAny _ X.A (do let _ ← comprehension (.DictComp kx vx [⟨tg, iter, ifs, 0⟩] scope pos) scope X.env (firstIterPos [⟨tg, iter, ifs, 0⟩] pos) newDict false (eval iter X.env) (some (assign (.Name y py) X.env))) _ _ s
  have h2 : tDc wi g tt tk tv (own.map (·.2)) σ H (fun x H1 => gName i x σ H1 D.nx) := h
  refine wpAny_bind (thn (dc_core (Qf := fun _ s' => SP X pins D .next s') hc hN I hi ok hg ht hk he hs h2 fun L C s' m H' I' q hn f => ?_) fun _ s' hq => wpAny_pure (wpAny_pure hq))
  show wpAny _ _ (assign (.Name y py) X.env (.ref L)) _ _ _
  refine wpAny_assign_Name (store_ok2 (v := V.ref L) I' hN hy (.inl hyl) rfl (fun s2 I2 ⟨a, sb, ha⟩ => ?_) (.inr hyl))
  obtain ⟨f0, f1, f2, f3, f4, f5⟩ := f
  have ne : C ≠ a := by
    rcases ha with z | z
    · rw [z]; exact f1
    · exact fun e => f4 y a z e.symm
  refine ⟨m, hn.sameBut sb ne, fun h3 sb3 => ?_⟩
  exact ⟨_, H', I2.turned (t' := s2.toks) (fun b o hb e => (sb3.2 b hb).trans e) f0 f1 f3 f4 f5, q⟩
end
end Hk
set_option Elab.async false
set_option linter.all false
set_option maxRecDepth 100000
set_option maxHeartbeats 4000000
/-! An own error over ValueError (by own classes between) whose __init__ says super().__init__(a text) and then self.f = f. -/
namespace Hk
open PySem PySem.Spec PyProof.Rows L2 PySem.Calls
open PySem.W (ksFn ksEnv ks_superObj ks_superIn kxs_mw)
/-- the parameters: self, f -/
def bA (f : Str) (p1 p2 : Pos) : Arguments := { posonlyargs := [], args := [{ arg := "self", annotation := none, pos := p1 }, { arg := f, annotation := none, pos := p2 }], vararg := none, kwonlyargs := [], kw_defaults := [], kwarg := none, defaults := [] }
def bB (f text : Str) (k : Nat) (p0 p1 p2 p3 p4 p5 q1 q2 q3 q4 : Pos) : List Stmt :=
  [.Expr (.Call (.Attribute (.Call (.Name "super" p0) [] [] p1) "__init__" p2) [.Constant (.str text) k p3] [] p4) p5, .Assign [.Attribute (.Name "self" q1) f q2] (.Name f q3) q4]
def bS (f : Str) : Scope := { kind := .function, names := [(PySem.Str.ofString "self", .local), (f, .local), (PySem.Str.ofString "__class__", .free), (PySem.Str.ofString "super", .globalImplicit)], isGenerator := false, isCoroutine := false, more := [] }
/-- what the written part says of the class at C, its __init__ at fI, its cell at cc -/
structure BadTxt (P : Program) (K : PySem.W.Frag) (mg : Str → Option Value) (C fI cc cda : Addr) (f text qual : Str) (fd : FuncData) : Prop where
  oex : OexC K C
  noN : PySem.W.findIn K (.ref C) f = some none
  iC : PySem.W.findIn K (.ref C) "__init__" = some (some (.ref fI))
  tI : PySem.W.typeIn K (.ref fI) = some (.type "function")
  ho : PySem.W.nsIn K cStatics "thirdparty.any" = some none
  sup : ks_superIn K C C "__init__" = some (some (.builtin "ValueError.__init__"))
  subV : PySem.W.subIn K (.ref C) (.type "ValueError") = some true
  mro : PySem.W.mroIn K C (.ref C) = some true
  noSuper : mg "super" = none
  top : (P.main.scope.names.lookup ("super" : Str)).isSome = false
  cell : ∃ ccl cdd ccs, K.lookup cc = some ⟨ccl, cdd, .cell (some (.ref C)), ccs⟩
  code : ∃ cl cd cs vs file tf, K.lookup cda = some ⟨cl, cd, .fields vs, cs⟩ ∧ vs[2]? = some (.str file tf) ∧ (P.main.file == file) = true
  fn : ∃ (oc : Value) (od : Option Addr) (dV kV doc pm : Value) (an : Option Addr) (ct : Value) (osl : Array (Option Value)) (k : Nat) (a1 a2 p0 p1 p2 p3 p4 p5 q1 q2 q3 q4 : Pos),
    fd = ksFn "__init__" qual (bA f a1 a2) (bB f text k p0 p1 p2 p3 p4 p5 q1 q2 q3 q4) (bS f) dV kV doc pm an (.ref cda) ct cc ∧ K.lookup fI = some ⟨oc, od, .func fd, osl⟩ ∧ PySem.W.codeIn K (.ref cda) qual = true ∧
    ∀ env : Env, env.scope = bS f → ∃ pl : Sem Bool, eval (.Call (.Attribute (.Call (.Name "super" p0) [] [] p1) "__init__" p2) [.Constant (.str text) k p3] [] p4) env = (do
      let ov ← attributeBase (.Call (.Name "super" p0) [] [] p1) "__init__" env (eval (.Call (.Name "super" p0) [] [] p1) env)
      standAt p2.atName
      let (f, first) ← holding [ov] (getMethod ov "__init__" pl)
      callWith p4 f first (backTo p4 (starEach [.Constant (.str text) k p3] env)) [])
/-- the body's context -/
def cxB (CX : CXT) (P : Program) (w : World) (K : PySem.W.Frag) (mg : Str → Option Value) (base : Heap) (N : List Str) (qual : Str) (scope : Scope) (f : Addr) (cd : Value) (cc : Addr) (A : Around) (outer : List Env) (s : Shared) (H : Hp) (E : XK) : Cx where
  prog := P
  w := w
  K := K
  mg := mg
  base := base
  A := A.deeper (ksEnv qual scope s.heap.objs.size f cd cc)
  N := N
  s_0 := s
  H_0 := H
  env := ksEnv qual scope s.heap.objs.size f cd cc
  outer := outer
  stack := ksEnv qual scope s.heap.objs.size f cd cc :: outer
  ex := []
  calm := true
  fn := fun x => x != ("__class__" : Str)
  pn := []
  xe := fun e s' => wpAny (model P w) (A.deeper (ksEnv qual scope s.heap.objs.size f cd cc)) (leaving (ksEnv qual scope s.heap.objs.size f cd cc) e) (fun _ s'' => CX outer H s E e s'') (fun e' s'' => CX outer H s E e' s'') s'
theorem cls_cell {cc c : Addr} {x : Str} (h : ([(("__class__" : Str), cc)] : List (Str × Addr)).lookup x = some c) : x = "__class__" ∧ c = cc := by
  have m := PySem.mem_of_lookup h
  simp at m
  exact ⟨m.1, m.2⟩
/-- the exception whose field f is v: at a with its dict at dx -/
def spBad (C : Addr) (f : Str) : Sp := fun vs H Q _ => ∃ (a : Addr) (v : V), vs = [.ref a, v] ∧ H a = some (exo a C none) ∧ ∀ dx, H dx = none → dx ≠ a → Q .non (upd (upd H dx (exd dx [(f, v)])) a (exo a C (some dx)))
section
variable {P : Program} {w : World} {K : PySem.W.Frag} {mg : Str → Option Value} {base : Heap} {C fI cc cda : Addr} {f text qual : Str} {fd : FuncData}
theorem scope_of {f x : Str} {k : NameKind} (h : (bS f).names.lookup x = some k) : (x = "self" ∧ k = .local) ∨ (x = f ∧ k = .local) ∨ (x = "__class__" ∧ k = .free) ∨ (x = "super" ∧ k = .globalImplicit) := by
  have m := PySem.mem_of_lookup h
  simp [bS] at m
  exact m
theorem inv_bad {CX : CXT} {A : Around} {outer : List Env} {s : Shared} {h1 : Heap} {t1 : Nat} {H : Hp} {E : XK} {a : Addr} {v : V} {u : Value} {cd : Value} {ccl : Value} {cdd : Option Addr} {ccs : Array (Option Value)}
    (hf : f ≠ "self") (hd : A.handled = none) (e0 : Env0 P w K mg base A outer s H) (lc : K.lookup cc = some ⟨ccl, cdd, .cell (some (.ref C)), ccs⟩) (r : RelV v u)
    (hn : h1.Ns s.heap.objs.size (fun x => ([("self", Value.ref a), (f, u)] : List (Str × Value)).reverse.lookup x)) (hk : ∀ b o, s.heap.get? b = some o → h1.get? b = some o) (kl : (bS f).names.lookup ("self" : Str) = some .local) (kf : (bS f).names.lookup f = some .local) :
    Inv (cxB CX P w K mg base ["self", f] qual (bS f) fI cd cc A outer s H E) [] [some (.ref a), some v] H { s with heap := h1, toks := t1 } := by
  have noA : ∀ b : Addr, b ∉ (cxB CX P w K mg base ["self", f] qual (bS f) fI cd cc A outer s H E).ex := fun b z => absurd (show b ∈ ([] : List Addr) from z) (by simp)
  have bcc : base.get? cc = some ⟨ccl, cdd, .cell (some (.ref C)), ccs⟩ := e0.mod.kin _ _ lc
  refine ⟨⟨e0.mod, rfl, rfl, rfl, Nat.le_refl _, fun y z c h1 h2 => ?_, fun y hy => ?_, fun y c hfn h => ?_, fun _ => hd, Around.frames_deeper e0.frames, .inr ⟨rfl, rfl⟩, fun b z => absurd z (noA b), e0.bs, e0.bsz, fun b _ _ => noA b, fun b z => absurd z (noA b), e0.funs, e0.frf⟩,
    rfl, e0.bare, Un.kept hk, ⟨_, hn, fun i y v h1 h2 h3 => ?_⟩, fun y c h => ?_, e0.hok.fresh (Nat.le_refl _), fun y c h => ?_, fun p hp => absurd (show p ∈ ([] : List (Addr × Obj)) from hp) (by simp), e0.hok.kept hk, ?_⟩
  · exact (cls_cell h1).1.trans (cls_cell h2).1.symm
  · have hy : (bS f).names.lookup y = some .cell ∨ (bS f).names.lookup y = some .free := hy
    have q : y = "__class__" := by
      rcases hy with hy | hy
      · rcases scope_of hy with ⟨_, z⟩ | ⟨_, z⟩ | ⟨_, z⟩ | ⟨_, z⟩ <;> cases z
      · rcases scope_of hy with ⟨_, z⟩ | ⟨_, z⟩ | ⟨z, _⟩ | ⟨_, z⟩
        · cases z
        · cases z
        · exact z
        · cases z
    subst q
    exact ⟨cc, rfl⟩
  · have q := (cls_cell h).1
    subst q
    exact absurd (show ((("__class__" : Str) != ("__class__" : Str)) = true) from hfn) (by decide)
  · match i, h1, h2 with
    | 0, h1, h2 =>
      cases h1
      cases h2
      refine ⟨.ref a, rfl, .inl ⟨kl, ?_⟩⟩
      show ([("self", Value.ref a), (f, u)] : List (Str × Value)).reverse.lookup ("self" : Str) = _
      have z : (("self" : Str) == f) = false := by simpa using fun e : ("self" : Str) = f => hf e.symm
      simp [List.lookup, z]
    | 1, h1, h2 =>
      cases h1
      cases h2
      refine ⟨u, r, .inl ⟨kf, ?_⟩⟩
      show ([("self", Value.ref a), (f, u)] : List (Str × Value)).reverse.lookup f = _
      simp [List.lookup]
    | i + 2, h1, h2 => simp at h2
  · obtain ⟨_, rfl⟩ := cls_cell h
    exact ⟨_, _, hk _ _ (e0.bs _ _ bcc).1, rfl⟩
  · obtain ⟨_, rfl⟩ := cls_cell h
    exact (e0.bs _ _ bcc).2
  · rfl
section
variable {M : Model} {A : Around} {E : Value → Shared → Prop} {h : Heap} {g : Array GenState} {d : Drawn} {t : Nat} {os : OsState}
/-- the bound ValueError.__init__ is called -/
theorem call_mwV {nm q : Str} {C N e t0 u : Addr} {bs bm : List Value} {hdct : Bool} {sn : List Str} {sub : List Value} {ab : Bool} {col : Option Bool} {dd : Option Addr} {k0 k1 k2 k3 k5 : Option Value} {rest : List Value} {Q : Value → Shared → Prop}
    (hbm : PySem.HandSPX.refsVE bm = true) (hC : h.get? C = some (excClassObj nm q C N bs bm hdct sn sub ab col dd k0 k1 k2 k3 k5 "ValueError.__new__")) (he : h.get? e = some (PySem.HandSPX.excO C t0)) (hu : h.get? u = some (kxs_mw "ValueError.__init__" e)) (hz : rest.length ≤ sizeLine)
    (hq : ∀ h' t1, (∀ b o, b ≠ e → h.get? b = some o → h'.get? b = some o) → h'.get? e = some (PySem.HandSPX.excO C t1) → Q .none ⟨h', g, d, t, os⟩) :
    wpAny (model P w) A (call (.ref u) rest) Q E ⟨h, g, d, t, os⟩ := by
  refine wpAny_call (codeAny_of_tree ?_)
  show wpAny _ A.in1 (callAny (.ref u) ⟨rest, []⟩) _ _ _
  simp only [callAny]
  refine wpAny_bind (wpAny_load hu ?_)
  simp only [kxs_mw, show (Value.type "method-wrapper" == Value.type "method" || Value.type "method-wrapper" == Value.type "builtin_function_or_method" || Value.type "method-wrapper" == Value.type "method-wrapper") = true by decide, if_true]
  refine PySem.W.KFB.if_so (by decide) ?_
  refine wpAny_bind (PySem.W.check_bound_init F.excBase_ValueError.toExcCallFacts hC he rfl ?_)
  refine wpAny_bind (wpAny_pure (wpAny_pure ?_))
  refine ⟨plainId_quiet F.excBase_ValueError.init.plain _, codeAny_builtin F.excBase_ValueError.initEntry ?_⟩
  exact PySem.W.exc_init_tree (cls := .ref C) (t0 := t0) (dv := none) (c2 := .none) (c3 := .none) (b4 := .bool false) he hz fun h' k e' _ => hq h' _ k e'
end
theorem callWith_mw {M : Model} {A : Around} {E : Value → Shared → Prop} {s : Shared} {i : String} {u x : Addr} {pos : Pos} {env : Env} {e : Expr} {rest : List Expr} {Q : Value → Shared → Prop}
    (h : wpAny M A (spliced (backTo pos (starEach (e :: rest) env))) (fun vs s₁ => PySem.W.KxsAt i u x s₁.heap ∧ wpAny M A (call (.ref u) vs) Q E s₁) E s)
    (he : starEach (e :: rest) env = (false, eval e env) :: starEach rest env := by rfl) (hplain : (backTo pos (starEach rest env)).any (·.1) = false := by rfl) :
    wpAny M A (callWith pos (.ref u) [] (backTo pos (starEach (e :: rest) env)) []) Q E s := by
  rw [he] at h ⊢
  refine PySem.W.kxs_callWith (i := i) (x := x) (by show (false || (backTo pos (starEach rest env)).any (·.1)) = false; rw [hplain]; rfl) ?_
  exact evalArgs_plain h
theorem fn_bad (T : BadTxt P K mg C fI cc cda f text qual fd) (hf : f ≠ "self") (hfC : f ≠ "__class__") (hfS : f ≠ "super") (hdb : (f == ("__debug__" : Str)) = false) (hcdd : (f == ("__classdict__" : Str)) = false) :
    FnOk P w K mg base CX0 1 fI fd ["self", f] (spBad C f) := by
  obtain ⟨oc, od, dV, kV, doc, pm, an, ct, osl, k, a1, a2, p0, p1, p2, p3, p4, p5, q1, q2, q3, q4, rfl, lk, hcd, hev⟩ := T.fn
  obtain ⟨ccl, cdd, ccs, lcc⟩ := T.cell
  obtain ⟨cl, cd0, cs, vs0, file, tf, lcd, hvs, hfile⟩ := T.code
  obtain ⟨nm, q, N, bs, bm, sn, sub, ab, col, dd, k0, k1, k2, k3, k5, hC, hbm⟩ := T.oex.cls
  have kl : (bS f).names.lookup ("self" : Str) = some .local := rfl
  have kf : (bS f).names.lookup f = some .local := by
    have z : (f == ("self" : Str)) = false := by simpa using hf
    show List.lookup f ((PySem.Str.ofString "self", NameKind.local) :: _) = _
    rw [List.lookup, show (f == PySem.Str.ofString "self") = false from z]
    simp [List.lookup]
  have kS : (bS f).names.lookup ("super" : Str) = some .globalImplicit := by
    have z : (("super" : Str) == f) = false := by simpa using fun e : ("super" : Str) = f => hfS e.symm
    show List.lookup ("super" : Str) ((PySem.Str.ofString "self", NameKind.local) :: (f, NameKind.local) :: _) = _
    rw [List.lookup, show (("super" : Str) == PySem.Str.ofString "self") = false by decide, List.lookup, z]
    rfl
  have kC : (bS f).names.lookup ("__class__" : Str) = some .free := by
    have z : (("__class__" : Str) == f) = false := by simpa using fun e : ("__class__" : Str) = f => hfC e.symm
    show List.lookup ("__class__" : Str) ((PySem.Str.ofString "self", NameKind.local) :: (f, NameKind.local) :: _) = _
    rw [List.lookup, show (("__class__" : Str) == PySem.Str.ofString "self") = false by decide, List.lookup, z]
    rfl
  refine ⟨fun vs H Q E ⟨a, v, e, _⟩ => by rw [e]; rfl, fun A outer s H args us vs Q E hr e0 hb r hsp => ?_⟩
  obtain ⟨a, v, rfl, ea, hq⟩ := hsp
  cases r with
  | @cons _ u0 _ ur ra rr =>
  obtain rfl : u0 = Value.ref a := ra
  cases rr with
  | @cons _ u _ ur2 ru rn =>
  cases rn
  have KX : K.In s.heap := e0.mod.kin.keeps fun b o e => (e0.bs b o e).1
  have lim : s.heap.NoLimit := e0.mod.nolimit.keeps fun b o e => (e0.bs b o e).1
  refine ks_codeAny_call_defAt (binds := [("self", Value.ref a), (f, u)]) hr.depth (KX _ _ lk) rfl lim (PySem.W.codeRec_of KX hcd) rfl hb (fun x hx => ?_) (fun x hx => ?_) (fun h₀ hns hk => ?_) rfl rfl rfl
  · rcases List.mem_cons.mp hx with rfl | hx
    · decide
    rcases List.mem_cons.mp hx with rfl | hx
    · show NameKind.local ≠ NameKind.cell
      decide
    rcases List.mem_cons.mp hx with rfl | hx
    · decide
    rcases List.mem_cons.mp hx with rfl | hx
    · decide
    · exact absurd hx (by simp)
  · rcases List.mem_cons.mp hx with rfl | hx
    · exact kl
    rcases List.mem_cons.mp hx with rfl | hx
    · exact kf
    · exact absurd hx (by simp)
  have I := inv_bad (CX := CX0) (w := w) (fI := fI) (cd := .ref cda) (E := E) (qual := qual) (t1 := s.toks + 2) hf hr.hd e0 lcc ru hns hk kl kf
  have K0 : K.In h₀ := KX.keeps hk
  obtain ⟨t0, hx⟩ := exo_at e0.hok ea
  have hx0 := hk _ _ hx
  show _root_.PySem.wpAt (model P w) (A.deeper (ksEnv qual (bS f) s.heap.objs.size fI (.ref cda) cc)) (.func _ (ksEnv qual (bS f) s.heap.objs.size fI (.ref cda) cc)) (execs (bB f text k p0 p1 p2 p3 p4 p5 q1 q2 q3 q4) (ksEnv qual (bS f) s.heap.objs.size fI (.ref cda) cc)) _ _ _
  obtain ⟨pl, hev⟩ := hev (ksEnv qual (bS f) s.heap.objs.size fI (.ref cda) cc) rfl
  refine ks_wpAt_execs_cons (ks_wpAt_Expr_any (ks_wpAt_MethodCall ?_ hev))
  have hcl : PySem.W.clsIn K C = some { name := nm, bases := bs, mro := .ref C :: bm, ns := N, qualname := q, hasDict := true, slotNames := sn, subclasses := sub, abstract := ab, collection := col, hasDel := false } := by unfold PySem.W.clsIn; rw [hC] <;> rfl
  have hf0 := K0 _ _ lk
  have hc0 := K0 _ _ lcd
  refine ks_wpAt_super_base (env := ksEnv qual (bS f) s.heap.objs.size fI (.ref cda) cc) kS kC rfl rfl hf0 rfl rfl rfl hc0 rfl hvs hfile T.top ?_
  obtain ⟨mb, b1, b2⟩ := e0.mod.blt
  have bk : ∀ b o, base.get? b = some o → h₀.get? b = some o := fun b o e => hk _ _ (e0.bs b o e).1
  refine PySem.W.ks_loadName_global rfl kS (loadGlobal_builtin (env := ksEnv qual (bS f) s.heap.objs.size fI (.ref cda) cc) (e0.mod.glob.keeps bk) T.noSuper (b1.keeps bk) ((b2 "super" (by decide)).trans (show bootBuiltins "super" = some (.type "super") by decide +kernel)) ⟨rfl, ?_⟩)
  refine wpAny_loadName_free rfl kC rfl ⟨_, K0 _ _ lcc, rfl⟩ ?_
  refine wpAny_loadName_local (v := Value.ref a) rfl kl hns ?_ ?_
  · have z : (("self" : Str) == f) = false := by simpa using fun e : ("self" : Str) = f => hf e.symm
    simp [List.lookup, z]
  refine ks_wpAny_isType_cls (K0 _ _ hC) rfl ⟨rfl, ?_⟩
  refine ks_wpAny_call_super (K0 _ _ hC) rfl hx0 rfl (fun c e => by cases e) (PySem.W.looks_mroIn K0 T.mro) (fun h' eso k' => ?_)
  have I1 := I.kept (h' := h') (t' := s.toks + 2) k'
  have K1 : K.In h' := K0.keeps k'
  have hx1 := k' _ _ hx0
  have hxC : a ≠ C := by
    rintro rfl
    have z := K0 _ _ hC
    rw [hx0] at z
    have z2 := congrArg Obj.data (Option.some.inj z)
    cases z2
  have J1 : PySem.W.InstAt h' a { cls := .ref C, dict := none, data := .fields #[.ref t0, .none, .none, .none, .bool false, .none] } C none := ⟨hx1, rfl, rfl, trivial⟩
  have hin : PySem.W.Looks (model P w) h' (isInstance (.ref a) (.type "ValueError")) true := J1.type.andThen (PySem.W.looks_subIn K1 T.subV)
  have hsup := T.sup
  unfold ks_superIn at hsup
  rw [hcl] at hsup
  refine PySem.W.kxs_getMethod PySem.W.kxs_ValueError eso (PySem.W.looks_opaque K1 T.ho) (l₀ := .ref C :: bm) (fun A Q E s k q => wpAny_bind ((PySem.W.looks_clsIn K1 hcl) A _ E s k (wpAny_pure q))) rfl K1 hsup hin hxC rfl ?_
  have I2 := I1.kept (h' := h'.push (kxs_mw "ValueError.__init__" a)) (t' := s.toks + 2 + 1) fun b o e => Heap.get?_push_of_some _ e
  have PT : PA (cxB CX0 P w K mg base ["self", f] qual (bS f) fI (.ref cda) cc A outer s H E) [.Constant (.str text) k p3] (tCons (tC (.str text)) tNil) := pa_cons pe_str pa_nil
  have hu : (h'.push (kxs_mw "ValueError.__init__" a)).get? h'.objs.size = some (kxs_mw "ValueError.__init__" a) := Heap.get?_push_size _ rfl
  have I3 := I2.pins_of (pins' := [(h'.objs.size, kxs_mw "ValueError.__init__" a)]) fun p hp => by
    have hp : p ∈ [(h'.objs.size, kxs_mw "ValueError.__init__" a)] := hp
    rw [List.mem_singleton] at hp
    subst hp
    exact ⟨hu, I1.hok.fresh (Nat.le_refl _), Nat.ne_of_gt I1.lt, I1.nofs (Nat.le_refl _), fun v e => by cases e⟩
  refine callWith_mw (i := "ValueError.__init__") (x := a) ?_
  refine thn (PT.run p4 _ _ _ H (fun vs H1 => vs.length ≤ 1 ∧ H1 = H) I3 ⟨by simp, rfl⟩) fun us s3 ⟨vs, H3, I4, r3, lv, eH⟩ => ?_
  subst eH
  have hu3 := (I4.pin _ (List.mem_cons_self)).1
  refine ⟨hu3, ?_⟩
  obtain ⟨t1, hx3⟩ := exo_at I4.hok ea
  have lus : us.length ≤ sizeLine := by
    rw [← Paired.length r3, sizeLine_eq]
    omega
  have K3 := I4.kIn
  obtain ⟨h3, g3, d3, tk3, os3⟩ := s3
  refine call_mwV hbm (K3 _ _ hC) hx3 hu3 lus fun h4 t4 k4 hx4 => ?_
  have J := (I4.pins_of (pins' := []) fun p hp => I4.pin p (by simp at hp)).write (t' := tk3) (x := a) (e := a) (o := exo a C none) (by rw [ea]; exact True.intro) (.inl rfl) k4 ⟨_, hx4⟩ (exo_ok hx4)
  have eu : upd H3 a (exo a C none) = H3 := by
    funext b
    by_cases hb : b = a
    · rw [hb, upd_same, ea]
    · rw [upd_ne hb]
  rw [eu] at J
  have PB : PSs (cxB CX0 P w K mg base ["self", f] qual (bS f) fI (.ref cda) cc A outer s H3 E) [.Assign [.Attribute (.Name "self" q1) f q2] (.Name f q3) q4] (tOst K f (tVar 0) (tVar 1)) :=
    pss_one (ps_ost (pe_var (i := 0) rfl (.inl kl)) (pe_var (i := 1) rfl (.inl kf) hdb hcdd))
  refine wpAt_of_wpAny (wpAny_mono (PB.run [] _ _ _ { nx := fun _ H' => Q .non H', rt := Q } J ⟨v, rfl, .ref a, rfl, a, C, rfl, T.oex, T.noN, .inl ⟨ea, fun dx n ne => hq dx n ne⟩⟩) (fun fl s' hs => ?_) fun e s' hs => hs)
  have fin : ∀ {σ' : L2.St} {H' : Hp} {v : V} {u : Value}, L2.Inv (cxB CX0 P w K mg base ["self", f] qual (bS f) fI (.ref cda) cc A outer s H3 E) [] σ' H' s' → L2.RelV v u → Q v H' → CE outer P w H3 s Q u s' :=
    fun {σ' H' v u} J rv q => ⟨v, H', J.os, J.bare, J.base, J.hok, rv, q⟩
  cases fl with
  | ret u =>
    obtain ⟨v, σ', H', J, rv, q⟩ := hs
    exact fin J rv q
  | next =>
    obtain ⟨σ', H', J, q⟩ := hs
    exact fin (v := V.non) (u := Value.none) J rfl q
  | brk =>
    obtain ⟨_, _, _, q⟩ := hs
    exact False.elim q
  | cont =>
    obtain ⟨_, _, _, q⟩ := hs
    exact False.elim q
end
end Hk
set_option Elab.async false
set_option linter.all false
set_option maxRecDepth 100000
set_option maxHeartbeats 4000000
/-! Own errors of one field: raised, asked for their class, their field read. -/
namespace Hk
open PySem L2
section
variable {X : Cx} {es : List Expr} {ta : TA}
theorem pa_post (ha : PA X es ta) : PA X es (fun σ H Q => ∃ Q0 : List V → Hp → Prop, ta σ H Q0 ∧ ∀ vs H1, Q0 vs H1 → Q vs H1) :=
  ⟨fun pos pins s σ H Q I ⟨Q0, h, w⟩ => thn (ha.run pos pins s σ H Q0 I h) fun us s1 ⟨vs, H1, I1, r, q⟩ => ⟨vs, H1, I1, r, w _ _ q⟩⟩
/-- C(e), an error whose field f is e -/
def tBad (C : Addr) (f : Str) (ta : TA) : L2.St → Hp → XK → Prop := fun σ H Q => ta σ H fun vs H1 => ∃ v, vs = [v] ∧ ∀ d, H1 d = none → Q (.ref C) (some d) (upd H1 d (.xd [(f, v)]))
/-- a name that a field may have -/
structure FldN (f : Str) : Prop where
  s : f ≠ "self"
  c : f ≠ "__class__"
  p : f ≠ "super"
  d : (f == ("__debug__" : Str)) = false
  e : (f == ("__classdict__" : Str)) = false
theorem pmk_bad {C fI cc cda : Addr} {f text qual x : Str} {fd : FuncData} {e : Expr} {p pos : Pos} (T : BadTxt X.prog X.K X.mg C fI cc cda f text qual fd) (N : FldN f) (bI : Binds X.K fd ["self", f] []) (hr : Room 2 X.A) (hg : Gl X x) (hm : X.mg x = some (.ref C)) (ha : PA X [e] ta)
    (hdb : (x == ("__debug__" : Str)) = false := by decide) (he : starEach (e :: []) X.env = (false, eval e X.env) :: starEach [] X.env := by rfl) (hpl : (backTo pos (starEach [] X.env)).any (·.1) = false := by rfl) :
    PMk X (.Call (.Name x p) [e] [] pos) (tBad C f ta) := by
  have F1 : FnOk X.prog X.w X.K X.mg X.base CX0 1 fI fd ["self", f] (spBad C f) := fn_bad T N.s N.c N.p N.d N.e
  have h0 := pmk_oex (x := x) (p := p) (pos := pos) T.oex T.iC T.tI F1 hr bI .nil (fun _ _ _ _ _ _ _ z => z.elim) hg hm (pa_post ha) hdb he hpl
  refine fun pins s σ H Q I h => h0 pins s σ H Q I ⟨_, h, fun vs H1 ⟨v, ev, q⟩ => ?_⟩
  subst ev
  refine ⟨by show 1 ≤ 1000; decide, fun a na => ⟨a, v, rfl, upd_same, fun dx nd ne => ⟨rfl, dx, [(f, v)], upd_same, ?_, ?_, ?_⟩⟩⟩
  · rw [upd_ne ne, upd_same]
  · rw [upd_ne ne] at nd
    exact nd
  · have nd1 : H1 dx = none := by
      rw [upd_ne ne] at nd
      exact nd
    have eu : upd (del (upd (upd (upd H1 a (exo a C none)) dx (exd dx [(f, v)])) a (exo a C (some dx))) a) dx (.xd [(f, v)]) = upd H1 dx (.xd [(f, v)]) := by
      funext b
      by_cases hb : b = dx
      · rw [hb, upd_same, upd_same]
      · rw [upd_ne hb, upd_ne hb]
        by_cases hc : b = a
        · rw [hc, del_same, na]
        · rw [del_ne hc, upd_ne hc, upd_ne hb, upd_ne hc]
    rw [eu]
    exact q dx nd1
/-- raise C(e) -/
def tRaiseBad (C : Addr) (f : Str) (W : WX) (ta : TA) : TS := fun _ σ H => tBad C f ta σ H fun cls d H' => W cls d σ H'
theorem ps_raiseBad {C fI cc cda : Addr} {f text qual x : Str} {fd : FuncData} {e : Expr} {p pos pos2 : Pos} {W : WX} (hc : X.calm = true) (tk : Takes X W) (T : BadTxt X.prog X.K X.mg C fI cc cda f text qual fd) (N : FldN f) (bI : Binds X.K fd ["self", f] []) (hr : Room 2 X.A) (hg : Gl X x) (hm : X.mg x = some (.ref C)) (ha : PA X [e] ta)
    (hdb : (x == ("__debug__" : Str)) = false := by decide) (he : starEach (e :: []) X.env = (false, eval e X.env) :: starEach [] X.env := by rfl) (hpl : (backTo pos (starEach [] X.env)).any (·.1) = false := by rfl) :
    PS X (.Raise (some (.Call (.Name x p) [e] [] pos)) none pos2) (tRaiseBad C f W ta) := ps_raise hc tk (pmk_bad T N bI hr hg hm ha hdb he hpl)
/-- isinstance(e, c), e the exception that the suite holds, with a dict at d -/
def rIsD (K : PySem.W.Frag) (cls : Value) (a : Addr) (d : Option Addr) : List V → Hp → VK → Prop := fun xs H Q => ∃ (D dd : Addr) (fs : List (Str × V)) (c : V) (cv : Value) (b : Bool), cls = .ref D ∧ ExcC K D ∧ d = some dd ∧ H dd = some (.xd fs) ∧ xs = [.ref a, c] ∧ (∀ u, L2.RelV c u → u = cv) ∧ PySem.W.kitOne K (.ref D) cv = some b ∧ Q (.bl b) H
theorem call_isD {a : Addr} {oe : Obj} {cls : Value} {d : Option Addr} {pn : List (Addr × Obj)} (hz : Zc cls d oe) (hf : ∃ vs, oe.data = .fields vs) : CallR (X.suite a ((a, oe) :: pn)) (.builtin "isinstance") (rIsD X.K cls a d) := by
  intro pins s σ H xs us Q I r h
  obtain ⟨D, dd, fs, c, cv, b, rfl, C, rfl, ed, rfl, hcv, e, q⟩ := h
  cases r with
  | cons rx rr =>
    cases rr with
    | cons rt rr =>
      cases rr
      cases rx
      have ec := hcv _ rt
      subst ec
      obtain ⟨hget, _⟩ := I.pin (a, oe) (List.mem_append.mpr (.inl List.mem_cons_self))
      obtain ⟨vs, hv⟩ := hf
      have hx : ObjOk X.prog X.w H s.heap dd (.xd fs) := I.hok dd _ ed
      obtain ⟨mA, hns, hr⟩ := hx
      obtain ⟨od, ho, hl⟩ := lookIn_ns hns
      have J : PySem.W.InstAt s.heap a oe D (some od) := ⟨hget, hz.1, by unfold PySem.W.notCls; rw [hv] <;> rfl, by rw [hz.2]; exact ho⟩
      obtain ⟨cdD, hcD, _⟩ := PySem.W.any_some C.hd
      exact PySem.W.kia_one (PySem.W.kitx_exc (by rw [hcD]; rfl) C.hg C.hk C.hs C.ha C.hn C.ht C.hm) I.kIn J e (fun z => nomatch z) fun tk => ⟨.bl b, H, I.kept (t' := tk) fun _ _ z => z, rfl, q⟩
end
end Hk
set_option Elab.async false
set_option linter.all false
set_option maxRecDepth 100000
set_option maxHeartbeats 4000000
/-! x in a list of data; == and != of data, whatever the signs of their texts. -/
namespace Hk
open PySem L2
/-- x in l, x not in l; l a list of data -/
def rInD (K : PySem.W.Frag) (neg : Bool) : R2 := fun x y H Q => ∃ (p : Addr) (xs : List V) (ds : List PyData) (d : PyData), y = .ref p ∧ SqL K H p xs ∧ DpAll K H xs ds ∧ Dp K H x d ∧ PyData.plainAll ds = true ∧ d.plain = true ∧ d.depth ≤ 60 ∧
  Q (.bl (if neg then !(ds.any fun e => PyData.eqv e d) else ds.any fun e => PyData.eqv e d)) H
/-- x == y, x != y of data -/
def rEqP (K : PySem.W.Frag) (neg : Bool) : R2 := fun x y H Q => ∃ (d e : PyData), Dp K H x d ∧ Dp K H y e ∧ d.plain = true ∧ e.plain = true ∧ d.depth ≤ 60 ∧ Q (.bl (if neg then !PyData.eqv d e else PyData.eqv d e)) H
section
variable {X : Cx}
theorem op_inD (hu : X.A.units + 64 < cLine) : OpR X (compareOp .In) (rInD X.K false) := by
  intro pins s σ H x y v u Q I rx ry h
  obtain ⟨p, xs, ds, d, rfl, hq, hds, hd, cl, sh, dp, q⟩ := h
  obtain ⟨as, r1⟩ := Dp.reads I (.list ds) (.ref p) u (.lst hq hds) ry
  obtain ⟨bs, r2⟩ := Dp.reads I d x v hd rx
  exact SeqAt.in_list_data r1 r2 cl sh (by have := Nat.min_le_right (PyData.depthAll ds) d.depth; omega) ⟨.bl _, H, I, rfl, q⟩
theorem op_notInD (hu : X.A.units + 64 < cLine) : OpR X (compareOp .NotIn) (rInD X.K true) := by
  intro pins s σ H x y v u Q I rx ry h
  obtain ⟨p, xs, ds, d, rfl, hq, hds, hd, cl, sh, dp, q⟩ := h
  obtain ⟨as, r1⟩ := Dp.reads I (.list ds) (.ref p) u (.lst hq hds) ry
  obtain ⟨bs, r2⟩ := Dp.reads I d x v hd rx
  exact SeqAt.notIn_list_data r1 r2 cl sh (by have := Nat.min_le_right (PyData.depthAll ds) d.depth; omega) ⟨.bl _, H, I, rfl, q⟩
theorem op_eqP (hu : X.A.units + 64 < cLine) : OpR X (compareOp .Eq) (rEqP X.K false) := by
  intro pins s σ H x y v u Q I rx ry h
  obtain ⟨d, e, hd, he, sd, se, dp, q⟩ := h
  obtain ⟨as, r1⟩ := Dp.reads I d x v hd rx
  obtain ⟨bs, r2⟩ := Dp.reads I e y u he ry
  exact SeqAt.eq_plain r1 r2 sd se (by have := Nat.min_le_left d.depth e.depth; omega) ⟨.bl _, H, I, rfl, q⟩
theorem op_neP (hu : X.A.units + 64 < cLine) : OpR X (compareOp .NotEq) (rEqP X.K true) := by
  intro pins s σ H x y v u Q I rx ry h
  obtain ⟨d, e, hd, he, sd, se, dp, q⟩ := h
  obtain ⟨as, r1⟩ := Dp.reads I d x v hd rx
  obtain ⟨bs, r2⟩ := Dp.reads I e y u he ry
  exact SeqAt.ne_plain r1 r2 sd se (by have := Nat.min_le_left d.depth e.depth; omega) ⟨.bl _, H, I, rfl, q⟩
end
end Hk
set_option Elab.async false
set_option linter.all false
set_option maxRecDepth 100000
set_option maxHeartbeats 4000000
/-! The operators of an own class: +, - (with a list or tuple to the right), ==, !=, in, not in, len. -/
namespace Hk
open PySem L2
open PySem.W (Frag Looks findIn looks_findIn InstAt CmpBack)
section
variable {X : Cx} {CX : CXT} {k : Nat} {f : Addr} {fd : FuncData} {ps : List Str} {sp : Sp} {E : XK} {pins : List (Addr × Obj)} {σ : L2.St} {H : Hp} {s : Shared}
/-- a method is run one level below -/
theorem run_in1 {Q : VK} {us : List Value} {vs : List V} (F : FnOk X.prog X.w X.K X.mg X.base CX k f fd ps sp) (hr : Room (k + 1) X.A) (hb : Binds X.K fd ps []) (hx : Passes CX X E)
    (I : L2.Inv X pins σ H s) (r : Vals vs us) (h : sp vs H Q E) : wpAny (model X.prog X.w) X.A.in1 (call (.ref f) us) (EP X pins σ Q) X.xe s := by
  have hl : (us ++ []).length = ps.length := by
    rw [List.append_nil, ← r.length]
    exact F.len _ _ _ _ h
  have b := hb s us I.kIn hl
  rw [List.append_nil] at b
  refine wpAny_call (codeAny_mono (F.run X.A.in1 X.stack s H ⟨us, []⟩ us vs Q E hr.in1 I.env0.in1 b r h) fun r s' hq => ?_)
  cases r with
  | error e => exact hx pins σ H s e s' I hq
  | ok fl =>
    cases fl with
    | ret u => exact I.after hq
    | next => exact False.elim hq
    | brk => exact False.elim hq
    | cont => exact False.elim hq
theorem back_of {Q : VK} {v : Value} {s' : Shared} (h : EP X pins σ Q v s') : CmpBack (EP X pins σ Q) v s' := by
  obtain ⟨x, H', I, r, q⟩ := h
  cases v with
  | notImplemented =>
    cases x with
    | int i => obtain ⟨_, z⟩ := r; cases z
    | str i => obtain ⟨_, z⟩ := r; cases z
    | byt i => obtain ⟨_, z⟩ := r; cases z
    | flt i => obtain ⟨_, z⟩ := r; cases z
    | _ => first | (cases r; done) | (exact absurd r (by intro z; cases z)) | (obtain ⟨_, z⟩ := r; cases z)
  | _ => exact ⟨x, H', I, r, q⟩
end
section
variable {prog : Program} {w : World} {A : Around} {E : Value → Shared → Prop} {s : Shared} {K : Frag} {x y C f : Addr} {ox : Obj} {od : Option Obj}
/-- a != b by an own __eq__ alone -/
theorem ne_own {Q : Value → Shared → Prop} (hu : A.units + 1 < cLine) (X : K.In s.heap) (I : InstAt s.heap x ox C od) (hb : Looks (model prog w) s.heap (typeOf (.ref y)) (.ref C)) (hne : findIn K (.ref C) "__ne__" = some (some (.builtin "object.__ne__")))
    (hm : PySem.W.mroIn K C (.type "object") = some true) (he : findIn K (.ref C) "__eq__" = some (some (.ref f))) (hf : PySem.W.isFn K (.ref f) = true)
    (h : wpAny (model prog w) A.in1 (call (.ref f) [.ref x, .ref y]) (fun v s' => ∃ b, v = .bool b ∧ Q (.bool (!b)) s') E s) : wpAny (model prog w) A (compareOp .NotEq (.ref x) (.ref y)) Q E s := by
  have hin : Looks (model prog w) s.heap (isInstance (.ref x) (.type "object")) true := I.type.andThen (PySem.W.looks_mroIn X hm)
  have entry : wpAny (model prog w) A.in1 (Builtin.«object.__ne__» ⟨[.ref x, .ref y], []⟩) (fun fin s' => ∃ b, fin = .done (.ret (.bool (!b))) ∧ Q (.bool (!b)) s') E s := by
    have hu1 : A.in1.units < cLine := hu
    obtain ⟨hp, g, d, tk, os⟩ := s
    unfold Builtin.«object.__ne__»
    repeat (first
      | with_reducible refine wpAny_cRoomFor hu1 ?_
      | (refine wpAny_bind (m := callSpecialIfBound? (.ref x) (Str.ofString "__eq__") [.ref y])
          (PySem.W.ifBound_K X I he hf (wpAny_mono h (fun r s' hr => by
            obtain ⟨b, rfl, hq⟩ := hr
            repeat (first | exact ⟨b, rfl, hq⟩ | exact wpAny_pure ⟨b, rfl, hq⟩ | (refine wpAny_bind (m := truthy (.bool _)) (wpAny_truthy_bool ?_)) | wp_step)) fun _ _ e => e)))
      | wp_step)
  show wpAny _ _ (richCompare .NotEq _ _) _ _ _
  unfold richCompare
  simp only [oneThing_ref]
  refine wpAny_holding (wpAny_bind (wpAny_cRoomFor (Nat.lt_of_succ_lt hu) ?_))
  rw [cmpInfo_NotEq]
  dsimp only
  refine wpAny_bind (I.type.here (wpAny_bind (hb.here ?_)))
  rw [show (Value.ref C != Value.ref C) = false from by simp]
  simp only [Bool.false_eq_true, if_false]
  refine wpAny_bind (wpAny_pure ?_)
  simp only [Bool.false_eq_true, if_false]
  refine wpAny_bind ?_
  simp only [tryCompare]
  refine wpAny_bind ?_
  simp only [callSpecialIfBound?, bindSpecialIfBound?]
  refine wpAny_holding (wpAny_bind (wpAny_bind (wpAny_bind (I.type.here ((looks_findIn X hne).here ?_)))))
  have S := F.cmp_object.ne
  have eb : bindSpecial (.builtin "object.__ne__") (.ref x) = pure (.builtin "object.__ne__", [.ref x]) := S.bind _
  refine wpAny_bind (wpAny_askSetting (wpAny_ite ?_))
  have one : wpAny (model prog w) A (call (.builtin "object.__ne__") ([.ref x] ++ [.ref y]) >>= fun v => pure (some v)) (fun r s' => ∃ b, r = some (.bool b) ∧ Q (.bool b) s') E s := by
    refine wpAny_bind (wpAny_call (codeAny_call_builtin S.plain F.cmpEntry_ne (PySem.W.check_slot F.cmpKind_ne F.cmpSplit_ne hin (F.cmpArgs_ne _ _) (wpAny_mono entry (fun fin s' hq => ?_) fun _ _ e => e))))
    obtain ⟨b, rfl, q⟩ := hq
    exact wpAny_pure ⟨_, rfl, q⟩
  split
  · refine wpAny_bind (wpAny_of_eq eb (wpAny_pure ?_))
    refine wpAny_mono one (fun r s' ⟨b, e, q⟩ => ?_) fun _ _ e => e
    subst e
    exact wpAny_pure (wpAny_pure q)
  · refine wpAny_tryCatch (wpAny_bind (wpAny_of_eq eb (wpAny_pure ?_)))
    refine wpAny_mono one (fun r s' ⟨b, e, q⟩ => ?_) fun _ _ e => e
    subst e
    exact wpAny_pure (wpAny_pure q)
/-- what the written part says of an own operator, with a list or a tuple (T) to the right -/
structure OwnOp (K : Frag) (C f : Addr) (op : Operator) (T : String) : Prop where
  first : PySem.W.selfFirst K C = true
  at_ : findIn K (.ref C) (PySem.dunder op.info.2) = some (some (.ref f))
  fn : PySem.W.isFn K (.ref f) = true
  back : findIn K (.ref C) (dunderR op.info.2) = some none
  right : ∃ fo ro : Option Value, findIn K (.type T) (PySem.dunder op.info.2) = some fo ∧ findIn K (.type T) (dunderR op.info.2) = some ro
  sub : PySem.W.subIn K (.type T) (.ref C) = some false
open PySem.W in
theorem bin_own {op : Operator} {T : String} {b : Value} {Q : Value → Shared → Prop} (O : OwnOp K C f op T) (X : K.In s.heap) (I : InstAt s.heap x ox C od) (hb : Looks (model prog w) s.heap (typeOf b) (.type T))
    (h : wpAny (model prog w) A (call (.ref f) [.ref x, b]) (CmpBack Q) E s) : wpAny (model prog w) A (binaryOp op (.ref x) b) Q E s := by
  obtain ⟨fo, ro, r1, r2⟩ := O.right
  obtain ⟨cd, rest, hcd, hm⟩ := ksp_first O.first
  have met := O.at_
  have back := O.back
  generalize hi : op.info = inf at met back r1 r2
  obtain ⟨sym, nm⟩ := inf
  have one := ksp_try X I met O.fn h
  obtain ⟨hh, g, d, t, os⟩ := s
  have tx : Looks (model prog w) hh (typeOf (.ref x)) (.ref C) := I.type
  have tb : Looks (model prog w) hh (typeOf b) (.type T) := hb
  have fx : Looks (model prog w) hh (fillsNumberSlot (.ref C) nm) true := fills_K X hcd hm met
  have fb := ksp_fillsT (M := model prog w) X r1 r2
  have sb : Looks (model prog w) hh (isSubtype (.type T) (.ref C)) false := looks_subIn X O.sub
  have px : Looks (model prog w) hh (numberSlotInPython (.ref C) nm) true := ksp_inPy X met back (.inl rfl)
  have pb : Looks (model prog w) hh (numberSlotInPython (.type T) nm) false := Looks.of_pure rfl
  have lb : Looks (model prog w) hh (typeLookup (.type T) (dunderR nm)) ro := looks_findIn X r2
  have ne : (Value.ref C == Value.type T) = false := rfl
  generalize ((fo.isSome && !isSeqSlot fo) || (ro.isSome && !isSeqSlot ro)) = right at fb
  simp only [binaryOp, hi]
  refine wpAny_holding (wpAny_bind ?_)
  unfold binaryOp1
  refine wpAny_bind (tx.at (wpAny_bind (tb.at (wpAny_bind (fx.at ?_)))))
  simp only [ne, Bool.false_eq_true, if_false]
  have fin : ∀ {k : Option Value → Sem Value}, (∀ v, k (some v) = pure v) → True := fun _ => trivial
  cases right <;>
  · ksp_lk
    refine wpAny_mono one (fun r s' hr => ?_) fun _ _ e => e
    obtain ⟨v, rfl, hq⟩ := hr
    ksp_lk
    exact hq
end
section
variable {X : Cx} {CX : CXT} {k : Nat} {f C : Addr} {fd : FuncData} {ps : List Str} {sp : Sp} {E : XK} {T : String}
theorem looks_ref {M : Model} {h : Heap} {a : Addr} {o : Obj} {c : Value} (ho : h.get? a = some o) (hc : o.cls = c) : Looks M h (typeOf (.ref a)) c := fun A Q E s kp q => by
  obtain ⟨hp, g, d, t, os⟩ := s
  refine wpAny_typeOf_ref (kp _ _ ho) ?_
  rw [hc]
  exact q
theorem v1 {a : Addr} : Vals [V.ref a] [Value.ref a] := .cons (show L2.RelV (V.ref a) (Value.ref a) from rfl) .nil
theorem v2 {a : Addr} {y : V} {u : Value} (r : L2.RelV y u) : Vals [V.ref a, y] [Value.ref a, u] := .cons (show L2.RelV (V.ref a) (Value.ref a) from rfl) (.cons r .nil)
/-- a + y, a - y: y a list or a tuple -/
def rOwnOp (K : Frag) (C : Addr) (sp : Sp) (E : XK) : R2 := fun x y H Q => ∃ (a dx : Addr) (fs : List (Str × V)) (bb : Bool) (b : Addr) (ys : List V), x = .ref a ∧ y = .ref b ∧ H a = some (.ins C dx fs) ∧ ((bb = true ∧ SqL K H b ys) ∨ (bb = false ∧ SqT K H b ys)) ∧ sp [x, y] H Q E
theorem op_own {op : Operator} (OL : OwnOp X.K C f op "list") (OT : OwnOp X.K C f op "tuple") (F : FnOk X.prog X.w X.K X.mg X.base CX k f fd ps sp) (hr : Room k X.A) (hb : Binds X.K fd ps []) (hx : Passes CX X E) :
    OpR X (binaryOp op) (rOwnOp X.K C sp E) := by
  intro pins s σ H x y v u Q I rx ry h
  obtain ⟨a, dx, fs, bb, b, ys, rfl, rfl, ha, hy, q⟩ := h
  cases rx
  cases ry
  obtain ⟨mA, J, _⟩ := ins_get I.hok ha
  obtain ⟨od, J, _⟩ := J.look
  have run : wpAny (model X.prog X.w) X.A (call (.ref f) [.ref a, .ref b]) (CmpBack (EP X pins σ Q)) X.xe s :=
    wpAny_mono (run_fn F hr hb .nil hx I (v2 (y := .ref b) (u := .ref b) rfl) q) (fun v s' z => back_of z) fun _ _ z => z
  rcases hy with ⟨_, hy⟩ | ⟨_, hy⟩
  · obtain ⟨its, _, ⟨o, n, ho, hc, _⟩, _⟩ := I.list hy
    exact bin_own OL I.kIn J (looks_ref ho hc) run
  · obtain ⟨its, _, ⟨o, ho, hc, _⟩, _⟩ := I.tuple hy
    exact bin_own OT I.kIn J (looks_ref ho hc) run
/-- a == b of two of the class -/
def rOwn2 (C : Addr) (sp : Sp) (E : XK) : R2 := fun x y H Q => ∃ (a b dx dy : Addr) (fs gs : List (Str × V)), x = .ref a ∧ y = .ref b ∧ H a = some (.ins C dx fs) ∧ H b = some (.ins C dy gs) ∧ sp [x, y] H Q E
theorem op_ownEq (hs : findIn X.K (.ref C) "__eq__" = some (some (.ref f))) (hf : PySem.W.isFn X.K (.ref f) = true) (F : FnOk X.prog X.w X.K X.mg X.base CX k f fd ps sp) (hr : Room k X.A) (hb : Binds X.K fd ps []) (hx : Passes CX X E) :
    OpR X (compareOp .Eq) (rOwn2 C sp E) := by
  intro pins s σ H x y v u Q I rx ry h
  obtain ⟨a, b, dx, dy, fs, gs, rfl, rfl, ha, hb', q⟩ := h
  cases rx
  cases ry
  obtain ⟨mA, J, _⟩ := ins_get I.hok ha
  obtain ⟨mB, J', _⟩ := ins_get I.hok hb'
  obtain ⟨od, J, _⟩ := J.look
  obtain ⟨od', J', _⟩ := J'.look
  obtain ⟨m, hF⟩ := I.fr
  show wpAny (model X.prog X.w) X.A (richCompare .Eq (.ref a) (.ref b)) (EP X pins σ Q) X.xe s
  refine PySem.W.cmp_K (op := .Eq) (tb := .ref C) hr.units0 hF I.ok.mod.kin J J'.type (by simp [PySem.W.notFirst]) hs hf ?_
  exact wpAny_mono (run_fn F hr hb .nil hx I (v2 (y := .ref b) (u := .ref b) rfl) q) (fun v s' z => back_of z) fun _ _ z => z
/-- a != b of two of the class -/
def rOwnNe (C : Addr) (sp : Sp) (E : XK) : R2 := fun x y H Q => ∃ (a b dx dy : Addr) (fs gs : List (Str × V)), x = .ref a ∧ y = .ref b ∧ H a = some (.ins C dx fs) ∧ H b = some (.ins C dy gs) ∧ sp [x, y] H (fun v H' => ∃ c, v = .bl c ∧ Q (.bl (!c)) H') E
theorem op_ownNe (hne : findIn X.K (.ref C) "__ne__" = some (some (.builtin "object.__ne__"))) (hm : PySem.W.mroIn X.K C (.type "object") = some true) (hs : findIn X.K (.ref C) "__eq__" = some (some (.ref f))) (hf : PySem.W.isFn X.K (.ref f) = true)
    (F : FnOk X.prog X.w X.K X.mg X.base CX k f fd ps sp) (hr : Room (k + 1) X.A) (hb : Binds X.K fd ps []) (hx : Passes CX X E) : OpR X (compareOp .NotEq) (rOwnNe C sp E) := by
  intro pins s σ H x y v u Q I rx ry h
  obtain ⟨a, b, dx, dy, fs, gs, rfl, rfl, ha, hb', q⟩ := h
  cases rx
  cases ry
  obtain ⟨mA, J, _⟩ := ins_get I.hok ha
  obtain ⟨mB, J', _⟩ := ins_get I.hok hb'
  obtain ⟨od, J, _⟩ := J.look
  obtain ⟨od', J', _⟩ := J'.look
  refine ne_own (hu_of hr) I.kIn J J'.type hne hm hs hf ?_
  refine wpAny_mono (run_in1 F hr hb hx I (v2 (y := .ref b) (u := .ref b) rfl) q) (fun v s' z => ?_) fun _ _ z => z
  obtain ⟨z, H', I', rz, c, ez, q'⟩ := z
  subst ez
  exact ⟨c, rz, .bl (!c), H', I', rfl, q'⟩
/-- y in a -/
def rOwnIn (C : Addr) (sp : Sp) (E : XK) : R2 := fun y x H Q => ∃ (a dx : Addr) (fs : List (Str × V)), x = .ref a ∧ H a = some (.ins C dx fs) ∧ sp [x, y] H (fun v H' => ∃ c, v = .bl c ∧ Q (.bl c) H') E
theorem op_ownIn (hs : findIn X.K (.ref C) "__contains__" = some (some (.ref f))) (hf : PySem.W.isFn X.K (.ref f) = true) (F : FnOk X.prog X.w X.K X.mg X.base CX k f fd ps sp) (hr : Room k X.A) (hb : Binds X.K fd ps []) (hx : Passes CX X E) :
    OpR X (compareOp .In) (rOwnIn C sp E) := by
  intro pins s σ H y x u v Q I ry rx h
  obtain ⟨a, dx, fs, rfl, ha, q⟩ := h
  cases rx
  obtain ⟨mA, J, _⟩ := ins_get I.hok ha
  obtain ⟨od, J, _⟩ := J.look
  obtain ⟨m, hF⟩ := I.fr
  refine PySem.W.in_K hF I.ok.mod.kin J hs hf ?_
  refine wpAny_mono (run_fn F hr hb .nil hx I (v2 ry) q) (fun v s' z => ?_) fun _ _ z => z
  obtain ⟨z, H', I', rz, c, ez, q'⟩ := z
  subst ez
  obtain rfl : v = Value.bool c := rz
  exact wpAny_truthy_bool ⟨.bl c, H', I', rfl, q'⟩
/-- len(a) -/
def rOwnLen (C : Addr) (sp : Sp) (E : XK) : List V → Hp → VK → Prop := fun xs H Q => ∃ (a dx : Addr) (fs : List (Str × V)), xs = [.ref a] ∧ H a = some (.ins C dx fs) ∧ sp [.ref a] H (fun v H' => ∃ n : Nat, v = .int n ∧ n < 2 ^ 60 ∧ Q (.int n) H') E
theorem call_ownLen (hs : findIn X.K (.ref C) "__len__" = some (some (.ref f))) (hf : PySem.W.isFn X.K (.ref f) = true) (F : FnOk X.prog X.w X.K X.mg X.base CX k f fd ps sp) (hr : Room (k + 1) X.A) (hb : Binds X.K fd ps []) (hx : Passes CX X E) :
    CallR X (.builtin "len") (rOwnLen C sp E) := by
  intro pins s σ H xs us Q I rv h
  obtain ⟨a, dx, fs, rfl, ha, q⟩ := h
  rw [Vals.ref1 rv]
  obtain ⟨mA, J, _⟩ := ins_get I.hok ha
  obtain ⟨od, J, _⟩ := J.look
  obtain ⟨m, hF⟩ := I.fr
  refine PySem.W.len_K hF I.ok.mod.kin J hs hf ?_
  refine wpAny_mono (run_in1 F hr hb hx I v1 q) (fun v s' z => ?_) fun _ _ z => z
  obtain ⟨z, H', I', rz, n, ez, hn, q'⟩ := z
  subst ez
  obtain ⟨t, rfl⟩ := rz
  exact ⟨by omega, .int n, H', I'.tok _, ⟨_, rfl⟩, q'⟩
end
end Hk
set_option Elab.async false
set_option linter.all false
set_option maxRecDepth 100000
set_option maxHeartbeats 4000000
/-! list(a), a of an own class whose __iter__ gives a list's iterator, and that has __len__. -/
namespace Hk
open PySem L2
open PySem.W (Frag Looks findIn looks_findIn InstAt CmpBack)
section
variable {X : Cx} {CX : CXT} {k : Nat} {f C : Addr} {fd : FuncData} {ps : List Str} {sp : Sp} {E : XK} {pins : List (Addr × Obj)} {σ : L2.St} {H : Hp} {s : Shared} {A : Around}
/-- a def is run somewhere below -/
theorem run_sub {Q Ex : Value → Shared → Prop} {QV : VK} {us : List Value} {vs : List V} (F : FnOk X.prog X.w X.K X.mg X.base CX k f fd ps sp) (sb : Sub X k A) (hb : Binds X.K fd ps []) (hx : ∀ e s', CX X.stack H s E e s' → Ex e s')
    (I : L2.Inv X pins σ H s) (r : Vals vs us) (h : sp vs H QV E) (hq : ∀ u s', CE X.stack X.prog X.w H s QV u s' → Q u s') : wpAny (model X.prog X.w) A (call (.ref f) us) Q Ex s := by
  have hl : (us ++ []).length = ps.length := by
    rw [List.append_nil, ← r.length]
    exact F.len _ _ _ _ h
  have b := hb s us I.kIn hl
  rw [List.append_nil] at b
  have e := I.env0
  have e0 : Env0 X.prog X.w X.K X.mg X.base A X.stack s H := ⟨by rw [sb.fr]; exact e.frames, e.mod, e.bs, e.bsz, e.funs, e.frf, e.hok, e.bare⟩
  refine wpAny_call (codeAny_mono (F.run A X.stack s H ⟨us, []⟩ us vs QV E sb.room e0 b r h) fun r s' hq' => ?_)
  cases r with
  | error er => exact hx er s' hq'
  | ok fl =>
    cases fl with
    | ret u => exact hq u s' hq'
    | next => exact False.elim hq'
    | brk => exact False.elim hq'
    | cont => exact False.elim hq'
/-- a call's end that has tracked one object more: it is forgotten again, and stands -/
theorem forget {it : Addr} {φ : Heap → Prop} {s' : Shared} (I : L2.Inv X pins σ H s) (os : s'.os = s.os) (bare : PyProof.Rows.AllBare s'.gens) (un : Un (frs X.stack) [] H (upd H it (.ext φ)) s.heap s'.heap) (hok : HOk X.prog X.w (upd H it (.ext φ)) s'.heap) (hn : H it = none) :
    L2.Inv X pins σ H s' ∧ s.heap.get? it = none ∧ φ s'.heap ∧ Un (frs X.stack) [] H H s.heap s'.heap := by
  have n0 : s.heap.get? it = none := by
    cases e : s.heap.get? it with
    | none => rfl
    | some o =>
      have z := un.free it o e hn (by simp)
      rw [upd_same] at z
      cases z
  have ne : ∀ b o, s.heap.get? b = some o → b ≠ it := fun b o e z => by
    rw [z, n0] at e
    cases e
  have fh : φ s'.heap := (show ObjOk X.prog X.w (upd H it (.ext φ)) s'.heap it (.ext φ) from hok it _ upd_same).1
  have un2 : Un (frs X.stack) [] H H s.heap s'.heap := {
    keep := fun b o e n hf hx => un.keep b o e n hf hx
    slot := fun b o e n hf hx => un.slot b o e n hf hx
    free := fun b o e n hx => n
    there := fun b o e hx => un.there b o e hx
    tups := fun b xs e => e
    frzs := fun b o u e => e
    tbls := fun b ps e => ⟨#[], by rw [e, Array.append_empty]⟩ }
  refine ⟨?_, n0, fh, un2⟩
  have hok2 : HOk X.prog X.w H s'.heap := fun b o e => by
    have hb : b ≠ it := fun z => by rw [z, hn] at e; cases e
    have x := hok b o (by rw [upd_ne hb]; exact e)
    refine x.stay (fun c u _ q => q) (fun c q => ?_) (fun c xs q => ?_)
    · by_cases hc : c = it
      · rw [hc, upd_same] at q
        have z := Option.some.inj q
        cases z
      · rw [upd_ne hc] at q
        exact q
    · by_cases hc : c = it
      · rw [hc, upd_same] at q
        have z := Option.some.inj q
        cases z
      · rw [upd_ne hc] at q
        exact q
  exact I.call' (ch := []) os un2 hok2 bare (fun b z => absurd z (by simp))
/-- list(a) -/
def rListI (C : Addr) (spI spL : Sp) (E : XK) : List V → Hp → VK → Prop := fun xs H Q => ∃ (a dx : Addr) (fs : List (Str × V)) (r : Addr) (ys : List V), xs = [.ref a] ∧ H a = some (.ins C dx fs) ∧ H r = some (.lst ys) ∧ ys.length < 1000000 ∧
  (∀ H', Same H H' → ∀ Q' : VK, (∀ it, H' it = none → Q' (.ref it) (upd H' it (ItO r it 0))) → spI [.ref a] H' Q' E) ∧
  (∀ H', Same H H' → ∀ Q' : VK, Q' (.int ys.length) H' → spL [.ref a] H' Q' E) ∧ ∀ l H', Same H H' → H l = none → H' l = some (.lst ys) → Q (.ref l) H'
variable {fi fL : Addr} {fdI fdL : FuncData} {psI psL : List Str} {spI spL : Sp} {CI : CXT}
theorem call_listI (hi : findIn X.K (.ref C) "__iter__" = some (some (.ref fi))) (hiF : PySem.W.isFn X.K (.ref fi) = true) (hl : findIn X.K (.ref C) "__len__" = some (some (.ref fL))) (hlF : PySem.W.isFn X.K (.ref fL) = true)
    (FI : FnOk X.prog X.w X.K X.mg X.base CI k fi fdI psI spI) (bI : Binds X.K fdI psI []) (xI : Passes CI X E) (FL : FnOk X.prog X.w X.K X.mg X.base CX0 k fL fdL psL spL) (bL : Binds X.K fdL psL []) (hc : X.calm = true) (hr : Room (k + 4) X.A) : CallR X (.type "list") (rListI C spI spL E) := by
  intro pins s σ H xs us Q I rv h
  obtain ⟨a, dx, fs, r, ys, rfl, ha, hrl, hy, qI, qL, q⟩ := h
  rw [Vals.ref1 rv]
  have sb2 : Sub X (k + 2) X.A.in1.in1 := Sub.in1 (Sub.in1 (⟨hr, rfl⟩ : Sub X (k + 4) X.A))
  have sb : Sub X k X.A.in1.in1 := sb2.mono (by omega)
  refine callType_codes (Q₁ := fun obj s₁ => obj = .ref s.heap.objs.size ∧ s₁ = { s with heap := s.heap.push { cls := .type "list", data := .seq #[] } }) PySem.F.called_list (PySem.F.typeCall_list_1 _) PySem.F.entry_list_init
    (code_list_new _ ⟨rfl, rfl⟩) fun obj s₁ h₁ => ?_
  obtain ⟨rfl, rfl⟩ := h₁
  have hS : (s.heap.push { cls := .type "list", data := .seq #[] }).get? s.heap.objs.size = some { cls := .type "list", data := .seq #[] } := Heap.get?_push_size _ rfl
  refine ⟨⟨_, hS, rfl⟩, PySem.F.args_list_init_2 _ _, ?_⟩
  have fr : H s.heap.objs.size = none := I.hok.fresh (Nat.le_refl _)
  have I1 : L2.Inv X pins σ (upd H s.heap.objs.size (.lst [])) { s with heap := s.heap.push { cls := .type "list", data := .seq #[] } } := I.lnew (its := []) (t' := s.toks) .nil (Nat.zero_le _)
  show wpAny _ _ (do let old ← Builtin.List.listItems (.ref s.heap.objs.size); Builtin.List.listUpdate (.ref s.heap.objs.size) (fun _ => #[]); letGo old.toList.reverse; Builtin.List.listExtendWith (.ref s.heap.objs.size) (.ref a) .none) _ _ _
  generalize hSz : s.heap.objs.size = S at *
  refine wpAny_bind ?_
  unfold Builtin.List.listItems
  refine wpAny_bind (wpAny_seqItems hS rfl (wpAny_pure ?_))
  show wpAny _ _ (updateSeq S (fun _ => #[]) >>= fun _ => letGo (#[] : Array Value).toList.reverse >>= fun _ => Builtin.List.listExtendWith (.ref S) (.ref a) .none) _ _ _
  refine wpAny_bind (wpAny_updateSeq hS rfl ?_)
  have I2 := I1.lset (f := fun _ => #[]) (its := []) (its' := []) (ys := []) (t' := s.toks) upd_same hS rfl .nil (Nat.zero_le _)
  rw [upd_upd] at I2
  refine wpAny_bind (wpAny_letGo ?_)
  have sH : Same H (upd H S (.lst [])) := Same.fresh (Same.refl _) fr
  have haS := sH _ _ ha
  generalize hs2 : ({ s with heap := (s.heap.push { cls := .type "list", data := .seq #[] }).update S (Obj.mapSeq fun _ => #[]), toks := s.toks } : Shared) = s2 at I2
  have hne : S ≠ a := fun z => by rw [z, ha] at fr; cases fr
  obtain ⟨mA, J, _⟩ := ins_get I2.hok haS
  obtain ⟨od, J, _⟩ := J.look
  obtain ⟨m0, hF⟩ := I2.fr
  unfold Builtin.List.listExtendWith
  refine wpAny_bind (J.type.here ?_)
  have h1 : Builtin.List.listSameRef (.ref S) (.ref a) = false := by simp [Builtin.List.listSameRef, hne]
  have h2 : (Value.ref C == Value.type "list") = false := rfl
  have h3 : (Value.ref C == Value.type "tuple") = false := rfl
  simp only [h1, h2, h3, Bool.or_false, Bool.false_eq_true, if_false]
  refine wpAny_bind (PySem.W.owit_iter hF I2.ok.mod.kin J hi hiF ?_)
  refine run_sub FI sb bI (fun e s' z => xI pins σ _ _ e s' I2 z) I2 v1 (qI _ sH (fun v H' => ∃ it, v = .ref it ∧ upd H S (.lst []) it = none ∧ H' = upd (upd H S (.lst [])) it (ItO r it 0)) fun it n => ⟨it, rfl, n, rfl⟩) fun u s3 ce => ?_
  obtain ⟨v, H', os3, bare3, un3, hok3, rv3, it, ev, nit, eH⟩ := ce
  subst ev
  subst eH
  cases (show u = Value.ref it from rv3)
  obtain ⟨I3, n0, hit, un23⟩ := forget I2 os3 bare3 un3 hok3 nit
  have hit : s3.heap.get? it = some (GNX.itObj r 0) := hit
  have nS : it ≠ S := fun z => by rw [z, upd_same] at nit; cases nit
  have nL : it ≠ X.env.locals := fun z => by
    have lt := I2.lt
    obtain ⟨m, ⟨o, _, _, e, _⟩, _⟩ := I2.loc
    rw [← z, n0] at e
    cases e
  have nF : it ∉ X.fs := fun hb => by
    obtain ⟨_, o, ho, _⟩ := I2.funs.mem hb
    rw [n0] at ho
    cases ho
  have I4 : L2.Inv X ((it, GNX.itObj r 0) :: pins) σ (upd H S (.lst [])) s3 := I3.pins_of fun p hp => by
    rcases List.mem_cons.mp hp with rfl | hp
    · exact ⟨hit, nit, nL, nF, fun v e => by cases e⟩
    · exact I3.pin p (List.mem_append_right _ hp)
  unfold PySem.W.OwitIt
  refine wpAny_specialOf (show s3.TypeIs (.ref it) "list_iterator" from ⟨_, hit, rfl⟩) slot_listiter_next.lookup ?_
  -- how long
  obtain ⟨mA3, J3, _⟩ := ins_get I4.hok haS
  obtain ⟨od3, J3, _⟩ := J3.look
  obtain ⟨m3, hF3⟩ := I4.fr
  refine wpAny_bind (wpAny_holding ?_)
  unfold Builtin.List.listLengthHint
  refine wpAny_bind (wpAny_bind (J3.type.here ((looks_findIn I4.kIn hl).here ?_)))
  refine PySem.W.KFB.if_not rfl ?_
  refine PySem.W.KFB.if_so rfl ?_
  refine wpAny_bind (wpAny_rule ?_)
  refine wpAny_bind (wpAny_attempt ?_)
  have sb3 : Sub X k X.A.in1.in1.in1 := (Sub.in1 (sb2 : Sub X (k + 1 + 1) X.A.in1.in1)).mono (by omega)
  refine PySem.W.len_K hF3 I4.ok.mod.kin J3 hl hlF ?_
  refine run_sub FL sb3 bL (fun e s' z => z.elim) I4 v1 (qL _ sH (fun v H' => v = .int ys.length ∧ H' = upd H S (.lst [])) ⟨rfl, rfl⟩) fun u s5 ce => ?_
  obtain ⟨v, H', os5, bare5, un5, hok5, rv5, ev, eH⟩ := ce
  subst ev
  subst eH
  have I5 := I4.call' (ch := []) os5 un5 hok5 bare5 (fun b z => absurd z (by simp))
  obtain ⟨tk5, eu⟩ := (show ∃ t, u = Value.int ys.length t from rv5)
  subst eu
  have un25 := un23.trans un5
  have fS : (upd H S (.lst [])) S = some (.lst []) := upd_same
  have rS : r ≠ S := fun z => by rw [z, fr] at hrl; cases hrl
  have hr5 := sH _ _ hrl
  have loop : ∀ s6 : Shared, (∀ b o, b ≠ S → s5.heap.get? b = some o → s6.heap.get? b = some o) → (∃ c, s6.heap.get? S = some { cls := .type "list", data := .seq #[] c }) → s6.gens = s5.gens → s6.os = s5.os →
      codeAny (model X.prog X.w) X.A.in1 (.builtin "list.extend.loop" ⟨[.ref S, .ref it, .none], []⟩) (wants (fun r s₂ => r = .none ∧ EP X pins σ Q (.ref S) s₂) X.xe) s6 := by
    intro s6 k6 ⟨c6, e6⟩ g6 o6
    obtain ⟨zr, its, nr, rvr, hlr, er⟩ := I5.lstM hr5
    have er6 := k6 _ _ rS er
    have eit := (I5.pin (it, GNX.itObj r 0) (List.mem_append_right _ List.mem_cons_self)).1
    have eit6 := k6 _ _ nS eit
    have nri : r ≠ it := fun z => by
      rw [← z, er] at eit
      have z2 := congrArg Obj.cls (Option.some.inj eit)
      exact absurd (Value.type.inj z2) (by decide)
    have W := (Walks.list (prog := X.prog) (w := X.w) (A := X.A.in1.in1) (I.ok.hd hc) it r nri its.toArray).toS
    refine codeAny_extend_loopS W (by rw [List.size_toArray, ← hlr]; exact zr) S (by simp [nS.symm, rS.symm]) .none _ 0 s6 #[] c6 rfl (Nat.zero_le _) ⟨⟨_, eit6, rfl, rfl⟩, ⟨_, er6, rfl, nr, rfl⟩⟩ e6 (ItemsOf.nil _) fun s7 acc c7 mv e7 ia => ?_
    have ea : acc = its.toArray := by
      obtain ⟨z1, z2⟩ := ia
      refine Array.ext (by rw [z1]) fun j h1 h2 => ?_
      have q1 : its.toArray[j]? = some acc[j] := z2 j acc[j] (Array.getElem?_eq_getElem h1)
      rw [Array.getElem?_eq_getElem h2] at q1
      exact (Option.some.inj q1).symm
    subst ea
    have k57 : ∀ b o, b ≠ S → b ≠ it → s5.heap.get? b = some o → s7.heap.get? b = some o := fun b o h1 h2 e => mv.heap b o (by simp [h1, h2]) (k6 b o h1 e)
    have bit : ∀ b o, s2.heap.get? b = some o → b ≠ it := fun b o e z => by rw [z, n0] at e; cases e
    have nH : ∀ b, (upd H S (.lst [])) b = none → b ≠ S := fun b e z => by rw [z, fS] at e; cases e
    have un7 : Un (frs X.stack) [] (upd H S (.lst [])) (upd H S (.lst ys)) s2.heap s7.heap := {
      keep := fun b o e n hf hx => k57 b o (nH b n) (bit b o e) (un25.keep b o e n hf hx)
      slot := fun b o e n hf hx => by
        obtain ⟨sl, z⟩ := un25.slot b o e n hf hx
        exact ⟨sl, k57 b _ (nH b n) (bit b o e) z⟩
      free := fun b o e n hx => by rw [upd_ne (nH b n)]; rw [upd_ne (nH b n)] at n; exact n
      there := fun b o e hx => by
        obtain ⟨o', z⟩ := un25.there b o e hx
        by_cases hb : b = S
        · exact ⟨_, by rw [hb]; exact e7⟩
        · exact ⟨o', k57 b _ hb (bit b o e) z⟩
      tups := fun b xs e => by
        by_cases hb : b = S
        · rw [hb, fS] at e; cases e
        · rw [upd_ne hb] at e ⊢; exact e
      frzs := fun b o u e => by
        by_cases hb : b = S
        · rw [hb, fS] at e; cases e
        · rw [upd_ne hb] at e ⊢; exact e
      tbls := fun b ps e => by
        by_cases hb : b = S
        · rw [hb, fS] at e; cases e
        · rw [upd_ne hb] at e ⊢; exact ⟨#[], by rw [e, Array.append_empty]⟩ }
    have hok7 : HOk X.prog X.w (upd H S (.lst ys)) s7.heap := fun b o e => by
      by_cases hb : b = S
      · subst hb
        rw [upd_same] at e
        cases e
        exact ⟨zr, its, c7, rvr, e7⟩
      · have e' : (upd H S (.lst [])) b = some o := by rw [upd_ne hb] at e ⊢; exact e
        have own : ∀ c, (upd H S (.lst [])) c = some (.own b) → c ≠ S ∧ c ≠ it := fun c z => ⟨fun q => (by rw [q, fS] at z; cases z), fun q => (by rw [q, nit] at z; cases z)⟩
        have nbi : b ≠ it := fun q => by rw [q, nit] at e'; cases e'
        refine (I5.hok b o e').stay (fun c u hc z => ?_) (fun c z => ?_) (fun c xs z => ?_)
        · rcases hc with hc | hc
          · rw [hc] at z ⊢
            exact k57 b u hb nbi z
          · exact k57 c u (own c hc).1 (own c hc).2 z
        · rw [upd_ne (own c z).1]
          rw [upd_ne (own c z).1] at z
          exact z
        · by_cases hcS : c = S
          · rw [hcS, fS] at z; cases z
          · rw [upd_ne hcS] at z ⊢; exact z
    have g7 : s7.gens = s5.gens := (show s7.gens = s6.gens from mv.gens).trans g6
    have J7 := I2.call' (ch := []) (s' := s7) (by rw [mv.os, o6, os5, os3]) un7 hok7 (by rw [g7]; exact bare5) (fun b z => absurd z (by simp))
    exact ⟨rfl, .ref S, _, J7, rfl, q S _ (Same.fresh (Same.refl _) fr) fr upd_same⟩
  refine ⟨by omega, ?_⟩
  have long : Builtin.List.listTooLong ((ys.length : Int).toNat) = false := by
    unfold Builtin.List.listTooLong
    rw [sizeLine_eq, Int.toNat_natCast]
    exact decide_eq_false (by omega)
  refine wpAny_bind (wpAny_of_eq (a := some (ys.length : Int)) rfl ?_)
  refine PySem.W.KFB.if_not long ?_
  refine wpAny_pure ?_
  have fin := loop { s5 with toks := s5.toks + 1 } (fun b o _ e => e) (let ⟨_, its, n, rv, hl0, e⟩ := I5.lstM (l := S) (xs := []) upd_same; ⟨n, by cases rv; exact e⟩) rfl rfl
  refine wpAny_ite_split (fun _ => ?_) (fun _ => ?_)
  · obtain ⟨c5, e5⟩ : ∃ c, s5.heap.get? S = some { cls := .type "list", data := .seq #[] c } := let ⟨_, its, n, rv, hl0, e⟩ := I5.lstM (l := S) (xs := []) upd_same; ⟨n, by cases rv; exact e⟩
    refine wpAny_bind (wpAny_rule ?_)
    refine wpAny_bind ?_
    show wpAny _ _ (updateSeq S (·.push .none) >>= fun _ => updateSeq S (·.pop)) _ _ _
    refine wpAny_bind (wpAny_updateSeq (s := { s5 with toks := s5.toks + 1 }) e5 rfl ?_)
    have e51 := Heap.get?_update_self (Obj.mapSeq (·.push Value.none)) e5 rfl
    refine wpAny_updateSeq e51 rfl ?_
    have e52 := Heap.get?_update_self (Obj.mapSeq (·.pop)) e51 rfl
    refine wpAny_pure ⟨plainId_quiet PySem.F.plain_extend_loop _, loop _ (fun b o hb e => ?_) ⟨_, e52⟩ rfl rfl⟩
    exact (Heap.get?_update_other _ _ (Ne.symm hb)).trans ((Heap.get?_update_other _ _ (Ne.symm hb)).trans e)
  · exact wpAny_pure ⟨plainId_quiet PySem.F.plain_extend_loop _, fin⟩
end
end Hk
set_option Elab.async false
set_option linter.all false
set_option maxRecDepth 100000
set_option maxHeartbeats 4000000
/-! A lambda handed to a def that calls it in a try whose suite reads the def's own names (the wish of an exception leans on the names' values). -/
namespace Hk
open PySem PySem.Spec PyProof.Rows L2 LamX
/-- the wish may be weakened -/
theorem cx_mono {P : Program} {w : World} {outer : List Env} {H : Hp} {s : Shared} {E E' : XK} {u : Value} {s' : Shared} (h : L2.CX P w outer H s E u s') (m : ∀ cls d H', E cls d H' → E' cls d H') : L2.CX P w outer H s E' u s' := by
  obtain ⟨a, B, H', cls, d, h1, h2, h3, h4, h5, h6, h7, h8⟩ := h
  exact ⟨a, B, H', cls, d, h1, h2, h3, h4, h5, h6, h7, m _ _ _ h8⟩
section
variable {X : Cx} {pins : List (Addr × Obj)} {σ : L2.St} {H : Hp} {s : Shared}
/-- the reading of a() where a holds the lambda at f -/
def tAct (i : Nat) (f c' : Addr) (q : Str) (W : WX) (tl : XK → Hp → VK → Prop) : TE := fun σZ HZ Q => ∃ E : XK, (∀ cls d H', E cls d H' → W cls d σZ H') ∧ σZ[i]? = some (some (.ref f)) ∧ HZ c' = some (CodeO c' q) ∧ tl E HZ Q
theorem pe_actS {CXg : CXT} {Eg : XK} {Ng : List Str} {qg : Str} {sg : Scope} {g f c' : Addr} {cdg pm ctv : Value} {params : Arguments} {body : Expr} {scope : Scope} {k i : Nat} {a : Str} {pn : List (Addr × Obj)} {xe : Value → Shared → Prop} {W : WX} {tb : XK → TE} {p1 p2 : Pos}
    (I : L2.Inv X pins σ H s) (L : LamS X.env.scope scope) (hf : s.heap.get? f = some (PySem.W.kla_obj "<lambda>" (X.env.qual ++ "<lambda>") params body scope (cloFrom X.env.cells scope.names []) pm c' ctv)) (hfn : H f = none) (hfr : f ∉ frs X.stack)
    (hbind : bindArgs (PySem.W.kla_fn "<lambda>" (X.env.qual ++ "<lambda>") params body scope (cloFrom X.env.cells scope.names []) pm (.ref c') ctv) ⟨[], []⟩ = pure [])
    (tk : Takes ((cxOf CXg X.prog X.w X.K X.mg X.base Ng qg sg g cdg X.A X.stack s H Eg).tr pn xe) W) (hr : Room (k + 1) (X.A.deeper (envOfC qg sg s.heap.objs.size g cdg)))
    (hbody : ∀ (E : XK) (A : Around) (outer : List Env) (s : Shared) (H : Hp), Room k (A.deeper (lamEnv X scope s.heap.objs.size f c')) → PE (lamCx X A outer s H E scope f c') body (tb E))
    (hN : Ng[i]? = some a) (hv : Vis sg a) (hd : (a == ("__debug__" : Str)) = false := by decide) (hcd : (a == ("__classdict__" : Str)) = false := by decide) :
    PE ((cxOf CXg X.prog X.w X.K X.mg X.base Ng qg sg g cdg X.A X.stack s H Eg).tr pn xe) (.Call (.Name a p1) [] [] p2) (tAct i f c' (X.env.qual ++ "<lambda>") W fun E H' Q' => tb E σ H' Q') := by
  refine ⟨fun pinsZ sZ σZ HZ Q IZ h => ?_⟩
  obtain ⟨E, hW, hs, hc, ht⟩ := h
  -- a trivial exception wish, to have the call's own end: the library's rule under a wish that tells the state
  refine wpAny_Call_Name_kw (thn ((pe_var (pos := p1) (i := i) hN hv hd hcd).run pinsZ sZ σZ HZ (fun v H1 => v = .ref f ∧ H1 = HZ) IZ ⟨.ref f, hs, rfl, rfl⟩) fun u s1 ⟨v, H1, I1, r1, q1⟩ => ?_)
  obtain ⟨rfl, rfl⟩ := q1
  obtain rfl : u = Value.ref f := r1
  have of1 := I1.base.keep f _ hf hfn hfr (fun z => nomatch (show f ∈ ([] : List Addr) from z))
  obtain ⟨⟨oc, vs, t, hoc, hdc, hvc⟩, _, _⟩ := I1.hok c' _ hc
  refine PySem.W.callWith_F0 ⟨_, _, _, _, of1⟩ (wpAny_call (codeAny_mono (R := CR (L2.CX X.prog X.w) (envOfC qg sg s.heap.objs.size g cdg :: X.stack) X.prog X.w H1 s1 Q E) ?_ fun r s' hq => ?_))
  · refine PySem.W.kla_callFunE hr.depth of1 rfl L.co L.gen rfl ⟨c', oc, vs, t, rfl, hoc, hdc, hvc⟩ ?_
    refine wpAny_of_eq (show bindArgs (PySem.W.kla_fn "<lambda>" (X.env.qual ++ "<lambda>") params body scope (cloFrom X.env.cells scope.names []) pm (.ref c') ctv) ⟨[] ++ [], []⟩ = pure [] from hbind) (wpAny_newFunctionEnv (fun y hy => (L.own y hy).2) (fun y hy => absurd hy (by simp)) (fun h₁ hns hsb => ⟨I1.nolimit.fresh _ hsb, ?_⟩) L.kind)
    have J := lam_start2 (E := E) (f := f) (c' := c') (tk := s1.toks + ([] : List (Str × Value)).length) I L I1.env0 hr.hd (I1.base : Un (frs X.stack) [] H H1 s.heap s1.heap) hns fun b o e => hsb.extBut b o (Nat.ne_of_lt (Heap.lt_size e)) (Heap.get?_push_of_some _ e)
    show codeAny _ _ (.expr body (lamEnv X scope s1.heap.objs.size f c')) _ _
    refine PySem.W.kla_codeExpr (wpAny_mono ((hbody E _ _ s1 H1 (hr.deeper _)).run [] _ _ H1 Q J ht) (fun v s' hq => ?_) fun e s' hq => hq)
    obtain ⟨w', H', J', rv, q⟩ := hq
    exact ⟨w', H', J'.os, J'.bare, J'.base, J'.hok, rv, q⟩
  · cases r with
    | error e => exact passAt tk σZ pinsZ H1 s1 e s' I1 (cx_mono hq hW)
    | ok fl =>
      cases fl with
      | ret u => exact I1.after hq
      | next => exact False.elim hq
      | brk => exact False.elim hq
      | cont => exact False.elim hq
/-- what the def makes of the lambda's reading: TT -/
def GivesS (X : Cx) (Ng : List Str) (x : Str) (sg : Scope) (g : Addr) (cdg : Value) (bg : List Stmt) (a q : Str) (j : Nat) (TT : (XK → Hp → VK → Prop) → Hp → VK → Prop) : Prop :=
  ∀ (f c' : Addr) (s : Shared) (H : Hp) (Q : VK) (tl : XK → Hp → VK → Prop), Room j (X.A.deeper (envOfC x sg s.heap.objs.size g cdg)) →
    (∀ (W : WX) (pn : List (Addr × Obj)) (xe : Value → Shared → Prop) (p1 p2 : Pos), Takes ((cxOf C8.CX0 X.prog X.w X.K X.mg X.base Ng x sg g cdg X.A X.stack s H C8.E0).tr pn xe) W →
      PE ((cxOf C8.CX0 X.prog X.w X.K X.mg X.base Ng x sg g cdg X.A X.stack s H C8.E0).tr pn xe) (.Call (.Name a p1) [] [] p2) (tAct 0 f c' q W tl)) →
    H c' = some (CodeO c' q) → TT tl H Q →
    ∃ t, PSs (cxOf C8.CX0 X.prog X.w X.K X.mg X.base Ng x sg g cdg X.A X.stack s H C8.E0).nox bg t ∧ t { nx := fun _ H' => Q .non H', rt := Q } (L2.start Ng [.ref f]) H
end
section
variable {X : Cx}
/-- x(lambda: body) -/
theorem pe_lamS {T : List (Addr × Str)} {TT : (XK → Hp → VK → Prop) → Hp → VK → Prop} {x a : Str} {g c P : Addr} {k : Nat} {pg : Arguments} {bg : List Stmt} {sg : Scope} {dV kV doc pm cdv ct oc : Value} {an od : Option Addr} {osl : Array (Option Value)} {Ng : List Str}
    {params : Arguments} {body : Expr} {scope : Scope} {t : XK → TE} {p lpos pos : Pos} (hg : Gl X x) (hm : X.mg x = some (.ref g)) (hk : PySem.W.keepIn X.K (.ref g) = true)
    (lk : X.K.lookup g = some ⟨oc, od, .func (PySem.W.fnOf x x pg bg sg dV kV doc pm an cdv ct), osl⟩) (hcg : PySem.W.codeIn X.K cdv x = true) (hb : L2.Binds X.K (PySem.W.fnOf x x pg bg sg dV kV doc pm an cdv ct) [a] []) (Sg : FnScope Ng [a] sg) (hNg : Ng[0]? = some a) (hva : Vis sg a)
    (hG : GivesS X Ng x sg g cdv bg a (X.env.qual ++ "<lambda>") (k + 1) TT)
    (TB : TabB X.base X.mg c P) (hcode : X.env.code = .ref c) (hmT : (P, X.env.qual ++ "<lambda>") ∈ T) (hu : ∀ p ∈ T, p.1 = P → p.2 = X.env.qual ++ "<lambda>") (hr : Room (k + 2) X.A) (L : LamS X.env.scope scope) (hdef : defaultsOf params X.env = ([], []))
    (hbind : ∀ (q : Str) (cl : List (Str × Addr)) (pm cv ctv : Value), bindArgs (PySem.W.kla_fn "<lambda>" q params body scope cl pm cv ctv) ⟨[], []⟩ = pure [])
    (hbody : ∀ (A : Around) (outer : List Env) (s : Shared) (H : Hp) (E : XK) (f c' : Addr), Room k (A.deeper (lamEnv X scope s.heap.objs.size f c')) → PE (lamCx X A outer s H E scope f c') body (t E))
    (hdb : (x == ("__debug__" : Str)) = false := by decide) (hd : (a == ("__debug__" : Str)) = false := by decide) (hcd : (a == ("__classdict__" : Str)) = false := by decide) :
    PE X (.Call (.Name x p) [.Lambda params body scope lpos] [] pos) (tLam T TT t) := by
  refine ⟨fun pins s σ H Q I ⟨hT, h⟩ => ?_⟩
  refine wpAny_Call_Name_kw (ld_glob I hg hm (PySem.W.callWith_K (h₀ := X.base) I.ok.mod.kin hk ?_ (by rfl) (by rfl)) hdb)
  show wpAny _ _ (spliced ((false, eval (.Lambda params body scope lpos) X.env) :: backTo pos (starEach [] X.env))) _ _ s
  refine Calls.spliced_cons (lam_make2 I TB hcode hmT hu hT hdef (L.has I.ok) fun f c' pm' ctv H1 s' I1 eN T1 hf hfn hfr hco => Calls.spliced_nil ⟨I1.kIn, wpAny_call (codeAny_mono (R := CR C8.CX0 X.stack X.prog X.w H1 s' Q C8.E0) ?_ fun r s2 hq => ?_)⟩)
  · refine run_ofS (N := Ng) (ps := [a]) (us := [.ref f]) (vs := [.ref f]) lk hcg Sg hr I1.env0 (hb s' [.ref f] I1.kIn rfl) (.cons rfl .nil) rfl fun hr' => ?_
    obtain ⟨t', ht', hq'⟩ := hG f c' s' H1 Q (fun E H' Q' => t E σ H' Q') hr' (fun W pn xe p1 p2 tk => pe_actS (i := 0) I1 L hf hfn hfr (hbind _ _ _ _ _) tk hr' (fun E A outer s H hr2 => hbody A outer s H E f c' hr2) hNg hva hd hcd) hco (h H1 eN T1)
    exact ⟨t', ht'.nox, hq'⟩
  · cases r with
    | error e => exact (show False from hq).elim
    | ok fl =>
      cases fl with
      | ret u => exact I1.after hq
      | next => exact False.elim hq
      | brk => exact False.elim hq
      | cont => exact False.elim hq
end
end Hk
set_option Elab.async false
set_option linter.all false
set_option maxRecDepth 100000
set_option maxHeartbeats 4000000
/-! {k: v for ..} whose keys are tuples. -/
namespace Hk
open PySem PySem.Spec PyProof.Rows L2
/-- D[k] = v within a comprehension, k a tuple -/
theorem t_dictSet {X : Cx} {pins : List (Addr × Obj)} {σ : L2.St} {H : Hp} {s : Shared} {E : Value → Shared → Prop} {D b : Addr} {kvs : List (List Key × V)} {k : List Key} {v : V} {r : Value} {Q : Unit → Shared → Prop} (hu : X.A.units + 1 < cLine) (I : L2.Inv X pins σ H s)
    (hD : H D = some (.dT kvs)) (hb : H b = some (.tup (k.map kV))) (hz : kvs.length < sizeLine) (rv : L2.RelV v r) (h : ∀ s', L2.Inv X pins σ (upd H D (.dT (putK kvs k v))) s' → Q () s') : wpAny (model X.prog X.w) X.A (dictSet D (.ref b) r) Q E s := by
  obtain ⟨z, hd, xs, rel, dd⟩ := dt_of I.hok hD
  have hzv : xs.length ≤ sizeLine := by rw [← Paired.length rel]; exact z
  have hl : (putK kvs k v).length ≤ sizeLine := by have := length_putK kvs k v; omega
  refine wpAny_dictSet_heap (hsz := hzv) (show (tupleKind (mixKind X.prog X.w)).room X.A from Nat.lt_of_succ_lt hu) (key_of I.hok hb) dd fun h' dd' hs => h _ ?_
  obtain ⟨q, es, ep, hq, h2, h3, h4, _, h5⟩ := dd'
  refine d_write I (by rw [hD]; exact True.intro) hs ⟨q, hq⟩ ⟨hl, hd, _, (rel.put k hb rv).keeps fun c ys ec => ?_, q, es, ep, hq, h2, h3, h4, h5⟩
  rw [upd_ne (ne_of ec hD (fun z => nomatch z))]
  exact ec
section
variable {X : Cx}
/-- {k: v for target in iter if ..}, keys tuples of ints or texts: D the new dict -/
def tDcT (wi : TI) (g : TG) (tt : TT) (tk tv : TE) (vs : List Nat) : TE := fun σ H Q => wi σ H fun J H1 => ∀ D, H1 D = none → ∃ W : Nat → Nat → Hp → Prop, (∃ m, W 0 m (upd H1 D (.dT []))) ∧ ∀ i m H, W i m H →
  (J.stop i H ∧ Q (.ref D) H) ∨ (J.go i H ∧ ∃ Nx : Hp → Prop, (∀ H', Nx H' → ∃ m', m' < m ∧ W (i + 1) m' H') ∧ ∀ x H', J.yld i H x H' → g x (wipe σ vs) H' fun σ2 H2 => wipe σ2 vs = wipe σ vs ∧ tt σ2 H2 fun b H3 =>
    if b = true then tk σ2 H3 fun y H4 => tv σ2 H4 fun z H5 => ∃ kvs k b, y = .ref b ∧ H5 b = some (.tup (k.map kV)) ∧ H5 D = some (.dT kvs) ∧ kvs.length < sizeLine ∧ Nx (upd H5 D (.dT (putK kvs k z))) else Nx H3)
theorem pe_dcT {kx vx tg iter : Expr} {ifs : List Expr} {scope : Scope} {own : List (Str × Nat)} {pos : Pos} {wi : TI} {g : TG} {tt : TT} {tk tv : TE} (hc : X.calm = true) (hu : X.A.units + 1 < cLine) (hN : X.N.Nodup) (hi : PI X tg iter wi) (ok : BlkOk X.N X.env.scope scope own)
    (hg : ∀ (s : Shared) (H : Hp) (C : Addr) (cl : List (Str × Addr)) (fp : List Addr), PG (X.blk s H scope (compEnvC scope cl C X.env) fp) tg g) (ht : ∀ (s : Shared) (H : Hp) (C : Addr) (cl : List (Str × Addr)) (fp : List Addr), PTs (X.blk s H scope (compEnvC scope cl C X.env) fp) ifs tt)
    (hk : ∀ (s : Shared) (H : Hp) (C : Addr) (cl : List (Str × Addr)) (fp : List Addr), PE (X.blk s H scope (compEnvC scope cl C X.env) fp) kx tk)
    (he : ∀ (s : Shared) (H : Hp) (C : Addr) (cl : List (Str × Addr)) (fp : List Addr), PE (X.blk s H scope (compEnvC scope cl C X.env) fp) vx tv) (hs : ∀ x, foldedSetIterable iter X.env x = pure x := by intro _; rfl) :
    PE X (.DictComp kx vx [⟨tg, iter, ifs, 0⟩] scope pos) (tDcT wi g tt tk tv (own.map (·.2))) := by
  refine ⟨fun pins s σ H Q I h => ?_⟩
  rw [arm_eval_DictComp]
  have clo : ∀ y ∈ scope.names, y.2 = .free → ∃ c, X.env.cells.lookup y.1 = some c := fun y hy e => (ok.free y hy e).elim (fun z => I.ok.has _ (.inl z)) fun z => I.ok.has _ (.inr z)
  refine wpAny_comprehension_free rfl hs (closure_ok clo) ok.kind (fun y hy e => by rw [ok.uniq y hy, e]) (thn (hi.run pins s σ H _ I h) fun xv s1 hx => thn hx fun itv s2 ⟨it, fp, tn, J, H2, eit, I2, T, st2, f2, q⟩ => ?_)
  subst eit
  refine wpAny_newObj_type (newEnv_comp ?_)
  generalize hD : s2.heap.objs.size = D
  have nD : H2 D = none := I2.hok.fresh (Nat.le_of_eq hD)
  obtain ⟨W, ⟨m0, w0⟩, turn⟩ := q D nD
  generalize hs3 : ({ s2 with heap := s2.heap.push { cls := .type "dict", data := .dict #[] } } : Shared) = s3
  have h3 : s3.heap = s2.heap.push { cls := .type "dict", data := .dict #[] } := by rw [← hs3]
  generalize hH3 : upd H2 D (.dT []) = H3 at w0
  have I3 : L2.Inv X pins σ H3 s3 := by
    rw [← hs3, ← hH3]
    refine I2.laid (t' := s2.toks) (fun b o e => Heap.get?_push_of_some _ e) (Nat.le_of_eq hD) ?_
    rw [← hD]
    exact dt_empty s2.heap I2.big
  have f3 : ∀ b ∈ fp, FpOk X pins H3 b ∧ b < s3.heap.objs.size := fun b hb => by
    obtain ⟨o, e, _⟩ := T.obj _ _ st2 b hb
    have lt := Heap.lt_size e
    refine ⟨⟨?_, (f2 b hb).2⟩, by rw [h3, Heap.size_push]; exact Nat.lt_succ_of_lt lt⟩
    rw [← hH3, upd_ne (by rw [← hD]; exact Nat.ne_of_lt lt)]
    exact (f2 b hb).1
  have n3 : ∀ b ∈ fp, H3 b = none := fun b hb => (f3 b hb).1.1
  have st3 : tn 0 s3.heap := T.keep _ _ _ st2 fun b _ o e => by rw [h3]; exact Heap.get?_push_of_some _ e
  have I4 := block_start I3 ok hN f3
  show codeAny _ _ (.compStart (.DictComp kx vx [⟨tg, iter, ifs, 0⟩] scope pos) 0 (.ref it) (.ref D) (compEnvC scope (cellsFrom (s3.heap.objs.size + 1) scope.names (cloFrom X.env.cells scope.names [])) s3.heap.objs.size X.env)) (compPost (model X.prog X.w) X.A X.xe none (EP X pins σ Q) (.ref D) s3.heap.objs.size) { s3 with heap := pushCells (s3.heap.push { cls := .type "dict", data := .dict #[] }) scope.names }
  have pg := hg s3 H3 s3.heap.objs.size (cellsFrom (s3.heap.objs.size + 1) scope.names (cloFrom X.env.cells scope.names [])) fp
  have pt := ht s3 H3 s3.heap.objs.size (cellsFrom (s3.heap.objs.size + 1) scope.names (cloFrom X.env.cells scope.names [])) fp
  have pk := hk s3 H3 s3.heap.objs.size (cellsFrom (s3.heap.objs.size + 1) scope.names (cloFrom X.env.cells scope.names [])) fp
  have pv := he s3 H3 s3.heap.objs.size (cellsFrom (s3.heap.objs.size + 1) scope.names (cloFrom X.env.cells scope.names [])) fp
  generalize hce : compEnvC scope (cellsFrom (s3.heap.objs.size + 1) scope.names (cloFrom X.env.cells scope.names [])) s3.heap.objs.size X.env = ce at I4 pg pt pk pv ⊢
  have cL : ce.locals = s3.heap.objs.size := by subst hce; rfl
  generalize hs4 : ({ s3 with heap := pushCells (s3.heap.push { cls := .type "dict", data := .dict #[] }) scope.names } : Shared) = s4 at I4 ⊢
  have st4 : tn 0 s4.heap := T.keep _ _ _ st3 fun b _ o e => by rw [← hs4]; exact pushCells_keeps _ _ _ _ (Heap.get?_push_of_some _ e)
  have still : ∀ {σ' : L2.St} {H' : Hp} {s' : Shared}, L2.Inv (X.blk s3 H3 scope ce fp) [] σ' H' s' → (∀ b ∈ fp, H' b = none) → ∀ b ∈ fp, FpOk (X.blk s3 H3 scope ce fp) [] H' b := fun {σ' H' s'} I' hn b hb =>
    ⟨hn b hb, (I'.ok.exf b hb).1, I'.ok.exfs b hb, .inl hb, fun x c e => (I'.ok.exf b hb).2 x c e, fun p hp => absurd (show p ∈ ([] : List (Addr × Obj)) ++ [] from hp) (by simp)⟩
  have loop : codeAny (model X.prog X.w) X.A (.compLoop (.DictComp kx vx [⟨tg, iter, ifs, 0⟩] scope pos) 0 (.ref it) (.ref D) ce) (compPost (model X.prog X.w) X.A X.xe none (EP X pins σ Q) (.ref D) s3.heap.objs.size) s4 := by
    refine compLoop_anyD (fun n s' => ∃ i H', L2.Inv (X.blk s3 H3 scope ce fp) [] (wipe σ (own.map (·.2))) H' s' ∧ tn i s'.heap ∧ (∀ b ∈ fp, H' b = none) ∧ W i n H') ?_ m0 ⟨0, H3, I4, st4, n3, w0⟩
    rintro n s5 ⟨i, H5, I5, st5, n5, w5⟩
    rcases turn i n H5 w5 with ⟨stop, qq⟩ | ⟨go, Nx, hNx, step⟩
    · -- the end: back in the def's own context
      refine thnF (T.done (X.blk s3 H3 scope ce fp) rfl rfl rfl hc i [] s5 _ H5 (fun _ _ => False) I5 (still I5 n5) st5 stop) fun r s6 ⟨hr, I6⟩ => ?_
      subst hr
      have I7 : L2.Inv X pins σ H5 s6 := I3.call' (ch := fp) I6.os I6.base I6.hok I6.bare fun b hb => ⟨(f3 b hb).1.2.2.2.1, (f3 b hb).1.2.1, (f3 b hb).1.2.2.2.2.1, (f3 b hb).1.2.2.2.2.2⟩
      have nC : H5 s3.heap.objs.size = none := by rw [← cL]; exact I6.free
      obtain ⟨m, hn, _⟩ := I6.loc
      have hn : s6.heap.Ns ce.locals m := hn
      rw [cL] at hn
      obtain ⟨z0, z1, z2, z3, z4, z5⟩ := I3.fpOk (H' := H5) (Nat.le_refl _) nC
      exact ⟨m, hn, fun h'' sb => ⟨.ref D, H5, I7.turned (t' := s6.toks) (fun b o hb e => (sb.2 b hb).trans e) z0 z1 z3 z4 z5, rfl, qq⟩⟩
    · refine thnF (T.item (X.blk s3 H3 scope ce fp) rfl rfl rfl hc i [] s5 _ H5 (fun _ _ => False) I5 (still I5 n5) st5 go) fun r s6 ⟨u, hr, h6⟩ => ?_
      subst hr
      refine thnF h6 fun _ s7 ⟨x, H7, I7, r7, y7, st7, n7⟩ => ?_
      refine thnF (pg.run _ s7 _ H7 x u _ (I7.pinned (still I7 n7) (T.obj _ _ st7)) r7 (step x H7 y7)) fun _ s8 ⟨σ8, H8, I8, hw8, q8⟩ => ?_
      refine thnF (pt.run _ s8 σ8 H8 _ I8 q8) fun b s9 ⟨H9, I9, q9⟩ => ?_
      have fin : ∀ {s' : Shared} {H' : Hp}, L2.Inv (X.blk s3 H3 scope ce fp) ([] ++ pinsAt fp s7.heap) σ8 H' s' → Nx H' → ∃ m, m < n ∧ ∃ i H', L2.Inv (X.blk s3 H3 scope ce fp) [] (wipe σ (own.map (·.2))) H' s' ∧ tn i s'.heap ∧ (∀ b ∈ fp, H' b = none) ∧ W i m H' := fun {s' H'} I' nx => by
        obtain ⟨m', hm, w'⟩ := hNx H' nx
        have stay : ∀ b ∈ fp, ∀ o, s7.heap.get? b = some o → s'.heap.get? b = some o ∧ H' b = none := fun b hb o e => by
          obtain ⟨z1, z2, _⟩ := I'.pin (b, o) (List.mem_append_right _ (List.mem_append_right _ (mem_pinsAt hb e)))
          exact ⟨z1, z2⟩
        refine ⟨m', hm, i + 1, H', (I'.unpinned (pins := [])).weak (by rw [← hw8, wipe_length]) (fun j v e => ?_), T.keep _ _ _ st7 fun b hb o e => (stay b hb o e).1, fun b hb => ?_, w'⟩
        · rw [← hw8] at e
          exact (wipe_some e).1
        · obtain ⟨o, e, _⟩ := T.obj _ _ st7 b hb
          exact (stay b hb o e).2
      cases b with
      | false => exact fin I9 q9
      | true =>
        refine thnF (pk.run _ s9 σ8 H9 _ I9 q9) fun z s10 ⟨yk, H10, I10, r10, q10⟩ => ?_
        refine thnF (pv.run _ s10 σ8 H10 _ I10 q10) fun z2 s11 ⟨yv, H11, I11, r11, kvs, k, b, ek, hb, hD11, hz11, nx⟩ => ?_
        subst ek
        obtain rfl : z = Value.ref b := r10
        exact t_dictSet (X := X.blk s3 H3 scope ce fp) hu I11 hD11 hb hz11 r11 fun s12 I12 => fin I12 nx
  exact codeAny_compStart_dict loop (T.self X.A 0 _ _ _ st4 loop)
end
/-- such a comprehension whose turns only make objects; R i kvs H: what the dict holds behind i turns -/
theorem dcTX {J : It} {n : Nat} {G : Hp → Prop} {xs : List V} (w : Walk J n G (YAt xs)) {g : TG} {tt : TT} {tk tv : TE} {vs : List Nat} {σ : L2.St} {H1 : Hp} {D : Addr} {Qd : Hp → Prop} (hD : H1 D = none) (R : Nat → List (List Key × V) → Hp → Prop) (big : n < sizeLine)
    (hR : ∀ i l H H', R i l H → But D H H' → R i l H') (h0 : R 0 [] H1) (hG : ∀ H, Same H1 H → G H)
    (turn : ∀ i x H kvs, i < n → xs[i]? = some x → Same H1 H → H D = some (.dT kvs) → R i kvs H → ∀ Nx : Hp → Prop,
      (∀ k z b H5, Same H H5 → H5 b = some (.tup (k.map kV)) → R (i + 1) (putK kvs k z) H5 → ∃ kvs k' b', V.ref b = V.ref b' ∧ H5 b' = some (.tup (k'.map kV)) ∧ H5 D = some (.dT kvs) ∧ kvs.length < sizeLine ∧ Nx (L2.upd H5 D (.dT (putK kvs k' z)))) → (∀ H3, Same H H3 → R (i + 1) kvs H3 → Nx H3) →
      g x (wipe σ vs) H fun σ2 H2 => wipe σ2 vs = wipe σ vs ∧ tt σ2 H2 fun b H3 =>
        if b = true then tk σ2 H3 fun y H4 => tv σ2 H4 fun z H5 => ∃ kvs k b, y = .ref b ∧ H5 b = some (.tup (k.map kV)) ∧ H5 D = some (.dT kvs) ∧ kvs.length < sizeLine ∧ Nx (L2.upd H5 D (.dT (putK kvs k z))) else Nx H3)
    (fin : ∀ H kvs, Same H1 H → H D = some (.dT kvs) → R n kvs H → Qd H) :
    ∃ W : Nat → Nat → Hp → Prop, (∃ m, W 0 m (L2.upd H1 D (.dT []))) ∧ ∀ i m H, W i m H →
      (J.stop i H ∧ Qd H) ∨ (J.go i H ∧ ∃ Nx : Hp → Prop, (∀ H', Nx H' → ∃ m', m' < m ∧ W (i + 1) m' H') ∧ ∀ x H', J.yld i H x H' → g x (wipe σ vs) H' fun σ2 H2 => wipe σ2 vs = wipe σ vs ∧ tt σ2 H2 fun b H3 =>
        if b = true then tk σ2 H3 fun y H4 => tv σ2 H4 fun z H5 => ∃ kvs k b, y = .ref b ∧ H5 b = some (.tup (k.map kV)) ∧ H5 D = some (.dT kvs) ∧ kvs.length < sizeLine ∧ Nx (L2.upd H5 D (.dT (putK kvs k z))) else Nx H3) := by
  refine ⟨fun i m H => m = n - i ∧ i ≤ n ∧ Same H1 H ∧ ∃ kvs, H D = some (.dT kvs) ∧ kvs.length ≤ i ∧ R i kvs H, ⟨n, by simp, Nat.zero_le _, Same.fresh (Same.refl H1) hD, [], upd_same, Nat.le_refl _, hR _ _ _ _ h0 (But.upd But.rfl')⟩, ?_⟩
  rintro i m H ⟨rfl, hi, s, kvs, e, l, r⟩
  have q := hG H s
  by_cases lt : i < n
  · refine .inr ⟨w.goes i H lt q, fun H' => Same H1 H' ∧ ∃ kvs, H' D = some (.dT kvs) ∧ kvs.length ≤ i + 1 ∧ R (i + 1) kvs H', fun H' p' => ⟨n - (i + 1), by omega, rfl, lt, p'⟩, fun x H' y => ?_⟩
    obtain ⟨rfl, ex⟩ := w.yields i H x H' lt q y
    refine turn i x H' kvs lt ex s e r _ (fun k z b H5 s5 hb r5 => ⟨kvs, k, b, rfl, hb, s5 _ _ e, by omega, Same.put (s.trans s5) hD, putK kvs k z, upd_same, ?_, hR _ _ _ _ r5 (But.upd But.rfl')⟩) fun H3 s3 r3 => ⟨s.trans s3, kvs, s3 _ _ e, Nat.le_succ_of_le l, r3⟩
    have := length_putK kvs k z
    omega
  · have e1 : i = n := by omega
    subst e1
    exact .inl ⟨w.stops H q, fin H kvs s e r⟩
end Hk
set_option Elab.async false
set_option linter.all false
set_option maxRecDepth 100000
set_option maxHeartbeats 4000000
namespace Hk
open PySem L2
theorem But.put {d : Addr} {H H1 : Hp} {p : Addr} {o : HO} (a : But d H H1) (hp : H p = none) : But d H (L2.upd H1 p o) := fun b u n e => by
  rw [upd_ne (ne_of_none e hp)]
  exact a b u n e
/-- a comprehension each of whose turns makes objects, and changes the one at d -/
theorem lcB {J : It} {n : Nat} {G : Hp → Prop} {xs : List V} (w : Walk J n G (YAt xs)) {g : TG} {tt : TT} {te : TE} {vs : List Nat} {σ : L2.St} {H1 : Hp} {D d : Addr} {Qd : Hp → Prop} (hD : H1 D = none) (hd : D ≠ d) (R : Nat → List V → Hp → Prop) (big : n < sizeLine)
    (hR : ∀ i l H H', R i l H → But D H H' → R i l H') (h0 : R 0 [] H1) (hG : ∀ H, But d H1 H → G H)
    (turn : ∀ i x H acc, i < n → xs[i]? = some x → But d H1 H → H D = some (.lst acc) → R i acc H → ∀ Nx : Hp → Prop,
      (∀ y H4, But d H H4 → R (i + 1) (acc ++ [y]) H4 → ∃ acc, H4 D = some (.lst acc) ∧ acc.length < sizeLine ∧ Nx (L2.upd H4 D (.lst (acc ++ [y])))) → (∀ H3, But d H H3 → R (i + 1) acc H3 → Nx H3) →
      g x (wipe σ vs) H fun σ2 H2 => wipe σ2 vs = wipe σ vs ∧ tt σ2 H2 fun b H3 =>
        if b = true then te σ2 H3 fun y H4 => ∃ acc, H4 D = some (.lst acc) ∧ acc.length < sizeLine ∧ Nx (L2.upd H4 D (.lst (acc ++ [y]))) else Nx H3)
    (fin : ∀ H acc, But d H1 H → H D = some (.lst acc) → R n acc H → Qd H) :
    ∃ W : Nat → Nat → Hp → Prop, (∃ m, W 0 m (L2.upd H1 D (.lst []))) ∧ ∀ i m H, W i m H →
      (J.stop i H ∧ Qd H) ∨ (J.go i H ∧ ∃ Nx : Hp → Prop, (∀ H', Nx H' → ∃ m', m' < m ∧ W (i + 1) m' H') ∧ ∀ x H', J.yld i H x H' → g x (wipe σ vs) H' fun σ2 H2 => wipe σ2 vs = wipe σ vs ∧ tt σ2 H2 fun b H3 =>
        if b = true then te σ2 H3 fun y H4 => ∃ acc, H4 D = some (.lst acc) ∧ acc.length < sizeLine ∧ Nx (L2.upd H4 D (.lst (acc ++ [y]))) else Nx H3) := by
  refine lc_it w (fun i H => But d H1 H ∧ ∃ acc, H D = some (.lst acc) ∧ acc.length ≤ i ∧ R i acc H) ⟨But.put But.rfl' hD, [], upd_same, Nat.le_refl _, hR _ _ _ _ h0 (But.upd But.rfl')⟩ (fun i H _ p => hG H p.1) (fun i x H H' hi p y => ?_) fun H ⟨s, acc, e, _, r⟩ => fin H acc s e r
  obtain ⟨s, acc, e, l, r⟩ := p
  obtain ⟨rfl, ex⟩ := y
  refine turn i x H' acc hi ex s e r _ (fun y H4 s4 r4 => ⟨acc, s4 _ _ hd e, by omega, ?_, acc ++ [y], upd_same, by rw [List.length_append]; exact Nat.succ_le_succ l, hR _ _ _ _ r4 (But.upd But.rfl')⟩) fun H3 s3 r3 => ⟨s.trans s3, acc, s3 _ _ hd e, Nat.le_succ_of_le l, r3⟩
  exact But.put (s.trans s4) hD
end Hk
set_option Elab.async false
set_option linter.all false
set_option maxRecDepth 100000
set_option maxHeartbeats 4000000
/-! The text by places (k01). -/
namespace K
open PySem L2
def top (i : Nat) : Stmt := PySem.Challenge.pw_handedkeys_k01_whole_states.main.body.getD i (.Pass ⟨0, 0, 0, 0⟩)
abbrev sIsRow : Stmt := top 6
abbrev sIsWord : Stmt := top 7
abbrev sAreWords : Stmt := top 8
abbrev sIsTriple : Stmt := top 9
abbrev sAreRights : Stmt := top 10
abbrev sInit : Stmt := inClass (top 12) 0
abbrev sParties : Stmt := inClass (top 12) 1
abbrev sWords : Stmt := inClass (top 12) 2
abbrev sRenamed : Stmt := inClass (top 12) 3
abbrev sLen : Stmt := inClass (top 12) 4
abbrev sIter : Stmt := inClass (top 12) 5
abbrev sContains : Stmt := inClass (top 12) 6
abbrev sEq : Stmt := inClass (top 12) 7
abbrev sAdd : Stmt := inClass (top 12) 8
abbrev sSub : Stmt := inClass (top 12) 9
abbrev sCellAt : Stmt := top 14
abbrev sDraw : Stmt := top 15
abbrev sNumber : Stmt := top 16
abbrev sNext : Stmt := top 17
abbrev sPick : Stmt := top 18
abbrev sError : Stmt := top 19
abbrev sRights : Stmt := top 20
abbrev sRefused : Stmt := top 21
abbrev sLaw : Stmt := top 22
end K
set_option Elab.async false
set_option linter.all false
set_option maxRecDepth 100000
set_option maxHeartbeats 4000000
/-! How the law draws: each draw is a number below its bound, and only the list of the draws changes. -/
namespace K
open PySem L2
open Hk
def spCellAt (K : PySem.W.Frag) : Sp := fun vs H Q _ => ∃ (a : Addr) (ns : List Int) (k : Int), vs = [.ref a, .int k] ∧ SqL K H a (ns.map V.int) ∧ 0 ≤ k ∧ ∀ z : Int, Q (.int z) H
def spDraw : Sp := fun vs H Q _ => ∃ c k b : Int, vs = [.int c, .int k, .int b] ∧ 0 < b ∧ ∀ (n : Int) (H' : Hp), 0 ≤ n → n < b → Same H H' → Q (.int n) H'
/-- the draws so far: the script, nought, a number -/
def Dr (K : PySem.W.Frag) (H : Hp) (d : Addr) : Prop := ∃ (a : Addr) (ns : List Int) (k : Int), H d = some (.lst [.ref a, .int 0, .int k]) ∧ SqL K H a (ns.map V.int) ∧ a ≠ d ∧ 0 ≤ k
/-- the draws go on with the same script -/
def Go (H H' : Hp) (d : Addr) : Prop := ∀ (a : Addr) (k : Int), H d = some (.lst [.ref a, .int 0, .int k]) → 0 ≤ k → ∃ k' : Int, 0 ≤ k' ∧ H' d = some (.lst [.ref a, .int 0, .int k'])
theorem Go.rfl' {H : Hp} {d : Addr} : Go H H d := fun a k e h => ⟨k, h, e⟩
theorem Go.trans {H H1 H2 : Hp} {d : Addr} (x : Go H H1 d) (y : Go H1 H2 d) : Go H H2 d := fun a k e h => by
  obtain ⟨k1, h1, e1⟩ := x a k e h
  exact y a k1 e1 h1
theorem Go.same {H H1 H2 : Hp} {d : Addr} (x : Go H H1 d) (s : ∀ o, H1 d = some o → H2 d = some o) : Go H H2 d := fun a k e h => by
  obtain ⟨k1, h1, e1⟩ := x a k e h
  exact ⟨k1, h1, s _ e1⟩
def spNext (K : PySem.W.Frag) : Sp := fun vs H Q _ => ∃ (d : Addr) (b : Int), vs = [.ref d, .int b] ∧ Dr K H d ∧ 0 < b ∧ ∀ (n : Int) (H' : Hp), 0 ≤ n → n < b → But d H H' → Dr K H' d → Go H H' d → Q (.int n) H'
/-- one of some things is picked -/
def spPick (K : PySem.W.Frag) : Sp := fun vs H Q _ => ∃ (d l : Addr) (xs : List V), vs = [.ref d, .ref l] ∧ Dr K H d ∧ l ≠ d ∧ (SqL K H l xs ∨ SqT K H l xs) ∧ xs ≠ [] ∧ ∀ (v : V) (H' : Hp), v ∈ xs → But d H H' → Dr K H' d → Go H H' d → Q v H'
structure TxtD (K : PySem.W.Frag) (mg : Str → Option Value) (fC fD fN fX : Addr) : Prop where
  len : mg "len" = none
  int : mg "int" = none
  range : mg "range" = none
  gC : mg "_law_cell_at" = some (.ref fC)
  gD : mg "_law_draw" = some (.ref fD)
  gN : mg "_law_number" = some (.ref fN)
  gX : mg "_law_next" = some (.ref fX)
  kC : PySem.W.keepIn K (.ref fC) = true
  kD : PySem.W.keepIn K (.ref fD) = true
  kN : PySem.W.keepIn K (.ref fN) = true
  kX : PySem.W.keepIn K (.ref fX) = true
section
variable {P : Program} {w : World} {K : PySem.W.Frag} {mg : Str → Option Value} {base : Heap} {fC fD fN fX : Addr} {fdC fdD fdN fdX fd : FuncData} {f : Addr}
theorem scCellAt : FnScope ["script", "k"] ["script", "k"] (defScope sCellAt) := ⟨rfl, rfl, rfl, by decide +kernel, rfl, by decide +kernel, by decide +kernel⟩
theorem ok_cell_at (F : Fun K "_law_cell_at" "_law_cell_at" sCellAt f fd) (T : TxtD K mg fC fD fN fX) : FnOk P w K mg base CX0 1 f fd ["script", "k"] (spCellAt K) := by
  refine F.ok scCellAt (fun vs H Q E h => ?_) (fun cdv A outer s H vs Q E hr h => ?_)
  · obtain ⟨a, ns, k, rfl, _⟩ := h
    rfl
  · obtain ⟨a, ns, k, rfl, hs, hk, q⟩ := h
    refine ⟨_, pss_cons (ps_if (pt_cmpR op_lt (pv 1) (pe_callB call_len_seq (by rfl) T.len PySem.boot_len (pa_cons (pv 0) pa_nil)) (nomark _))
      (pss_one (ps_ret (pe_ix ix_list (pv 0) (pv 1) (fun _ _ => rfl)))) pss_nil) (pss_one (ps_ret pe_int)), ?_⟩
    refine ⟨_, rfl, _, rfl, a, _, rfl, .inl hs, _, _, rfl, rfl, _, rfl, ?_⟩
    refine ite2 (fun c => ?_) (fun c => ?_)
    · have c2 := of_decide_eq_true c
      rw [List.length_map] at c2
      obtain ⟨j, rfl⟩ := Int.eq_ofNat_of_zero_le hk
      have hj : j < ns.length := by omega
      exact ⟨_, rfl, _, rfl, a, _, _, V.int ns[j], rfl, rfl, hs, atI_nat (by rw [List.getElem?_map, List.getElem?_eq_getElem hj]; rfl), q _⟩
    · exact q 0
end
end K
set_option Elab.async false
set_option linter.all false
set_option maxRecDepth 100000
set_option maxHeartbeats 4000000
namespace K
open PySem L2 Hk
section
variable {P : Program} {w : World} {K : PySem.W.Frag} {mg : Str → Option Value} {base : Heap} {fC fD fN fX : Addr} {fdC fdD fdN fdX fd : FuncData} {f : Addr}
def primes : List Int := [1000003, 1000033, 1000037, 1000039, 1000081, 1000099, 1000117, 1000121, 1000133, 1000151, 1000159, 1000171, 1000183, 1000187, 1000193, 1000199]
theorem prime_at {k : Int} (h0 : 0 ≤ k) (h1 : k < 16) : ∃ p : Int, 0 < p ∧ atI (primes.map V.int) k = some (V.int p) := by
  obtain ⟨j, rfl⟩ := Int.eq_ofNat_of_zero_le h0
  have hj : j < primes.length := by
    have e : primes.length = 16 := rfl
    omega
  refine ⟨primes[j], ?_, atI_nat (by rw [List.getElem?_map, List.getElem?_eq_getElem hj]; rfl)⟩
  have all : ∀ p ∈ primes, 0 < p := by decide
  exact all _ (List.getElem_mem hj)
theorem scDraw : FnScope ["cell", "k", "bound", "primes"] ["cell", "k", "bound"] (defScope sDraw) := ⟨rfl, rfl, rfl, by decide +kernel, rfl, by decide +kernel, by decide +kernel⟩
theorem ok_draw (F : Fun K "_law_draw" "_law_draw" sDraw f fd) (T : TxtD K mg fC fD fN fX) : FnOk P w K mg base CX0 1 f fd ["cell", "k", "bound"] spDraw := by
  refine F.ok scDraw (fun vs H Q E h => ?_) (fun cdv A outer s H vs Q E hr h => ?_)
  · obtain ⟨c, k, b, rfl, _⟩ := h
    rfl
  · obtain ⟨c, k, b, rfl, hb, q⟩ := h
    refine ⟨_, pss_cons (ps_set (i := 3) scDraw.nd rfl (Or.inl rfl) (pe_tup (pa_cons pe_int (pa_cons pe_int (pa_cons pe_int (pa_cons pe_int (pa_cons pe_int (pa_cons pe_int (pa_cons pe_int (pa_cons pe_int (pa_cons pe_int (pa_cons pe_int (pa_cons pe_int (pa_cons pe_int (pa_cons pe_int (pa_cons pe_int (pa_cons pe_int (pa_cons pe_int pa_nil))))))))))))))))))
      (pss_one (ps_ret (pe_op op_mod (pe_op op_mod (pe_callTy call_int1 (by rfl) T.int (by decide +kernel) (pa_cons (pe_op op_add (pe_op op_mul (pv 0) pe_int) (pe_op op_mul (pv 1) pe_int)) pa_nil))
        (pe_ix ix_tup (pv 3) (pe_op op_mod (pe_callTy call_int1 (by rfl) T.int (by decide +kernel) (pa_cons (pv 1) pa_nil)) pe_int) (fun _ _ => rfl))) (pv 2)))), ?_⟩
    refine ⟨by show 16 ≤ sizeLine; decide, fun p hp => ?_⟩
    have ep : (upd H p (.tup (primes.map V.int))) p = some (.tup (primes.map V.int)) := upd_same
    obtain ⟨z, z0, ez⟩ := prime_at (k := k % 16) (Int.emod_nonneg _ (by decide)) (Int.emod_lt_of_pos _ (by decide))
    refine ⟨_, rfl, _, _, rfl, rfl, .inr ⟨by decide, by decide⟩, _, rfl, _, _, rfl, rfl, .inr ⟨by decide, by decide⟩, _, _, rfl, rfl, .inl ⟨_, rfl, _, rfl, _, rfl, .inl ⟨_, rfl, _, _, rfl, rfl, by show (0 : Int) < 16; decide, p, _, _, _, rfl, rfl, SqT.of ep, ez, _, _, rfl, rfl, z0, _, rfl, _, _, rfl, rfl, hb, ?_⟩⟩⟩
    exact q _ _ (Int.emod_nonneg _ (by omega)) (Int.emod_lt_of_pos _ hb) (Same.fresh (Same.refl H) hp)
end
end K
set_option Elab.async false
set_option linter.all false
set_option maxRecDepth 100000
set_option maxHeartbeats 4000000
namespace K
open PySem L2 Hk
def spNumber : Sp := fun vs H Q _ => ∃ c k b : Int, vs = [.int c, .int k, .int b] ∧ 0 < b ∧ 0 ≤ k ∧ k < 100 ∧ ∀ (n : Int) (H' : Hp), 0 ≤ n → n < b → Same H H' → Q (.int n) H'
theorem pow_small {i : Nat} (h : i ≤ 24) : ((1009 : Int) ^ i).natAbs < 2 ^ 240 := by
  rw [Int.natAbs_pow]
  calc (1009 : Int).natAbs ^ i ≤ (1009 : Int).natAbs ^ 24 := Nat.pow_le_pow_right (by decide) h
    _ < 2 ^ 240 := by decide
section
variable {P : Program} {w : World} {K : PySem.W.Frag} {mg : Str → Option Value} {base : Heap} {fC fD fN fX : Addr} {fdC fdD fdN fdX fd : FuncData} {f : Addr}
theorem scNumber : FnScope ["cell", "k", "bound", "power", "lap", "remains", "small"] ["cell", "k", "bound"] (defScope sNumber) := ⟨rfl, rfl, rfl, by decide +kernel, rfl, by decide +kernel, by decide +kernel⟩
theorem ok_number (F : Fun K "_law_number" "_law_number" sNumber f fd) (T : TxtD K mg fC fD fN fX) (FD : Fun K "_law_draw" "_law_draw" sDraw fD fdD) (bD : Binds K fdD ["cell", "k", "bound"] []) :
    FnOk P w K mg base CX0 2 f fd ["cell", "k", "bound"] spNumber := by
  have GD : FnOk P w K mg base CX0 1 fD fdD ["cell", "k", "bound"] spDraw := ok_draw FD T
  refine F.ok scNumber (fun vs H Q E h => ?_) (fun cdv A outer s H vs Q E hr h => ?_)
  · obtain ⟨c, k, b, rfl, _⟩ := h
    rfl
  · obtain ⟨c, k, b, rfl, hb, k0, k1, q⟩ := h
    refine ⟨_, pss_cons (ps_set (i := 3) scNumber.nd rfl (Or.inl rfl) pe_int)
      (pss_cons (ps_for PassesOwn.never rfl (pi_range1 (by rfl) T.range (pa_cons (pe_op op_mod (pe_callTy call_int1 (by rfl) T.int (by decide +kernel) (pa_cons (pv 1) pa_nil)) pe_int) pa_nil)) (pg_name (i := 4) scNumber.nd rfl (Or.inl rfl))
        (pss_one (ps_set (i := 3) scNumber.nd rfl (Or.inl rfl) (pe_op op_mul (pv 3) pe_int))))
      (pss_cons (ps_set (i := 5) scNumber.nd rfl (Or.inl rfl) (pe_op op_fdivW (pe_op op_sub (pv 0) (pe_op op_pow pe_int pe_int)) (pv 3)))
      (pss_cons (ps_if (pt_cmpR op_gt (pv 5) pe_int (nomark _)) (pss_one (ps_ret (pe_op op_mod (pe_op op_mod (pe_callTy call_int1 (by rfl) T.int (by decide +kernel) (pa_cons (pv 5) pa_nil)) pe_int) (pv 2)))) pss_nil)
      (pss_cons (ps_set (i := 6) scNumber.nd rfl (Or.inl rfl) (pe_op op_mod (pe_callTy call_int1 (by rfl) T.int (by decide +kernel) (pa_cons (pv 0) pa_nil)) pe_int))
      (pss_one (ps_ret (pe_op op_mod (pe_call GD hr (by rfl) T.gD T.kD bD .nil pass0
        (pa_cons (pe_op op_mul (pe_op op_add (pv 6) (pe_op op_mul pe_int (pv 1))) (pe_op op_add (pe_op op_add (pv 6) (pe_op op_mul pe_int (pv 1))) pe_int))
        (pa_cons (pe_op op_add (pe_op op_mod (pe_callTy call_int1 (by rfl) T.int (by decide +kernel) (pa_cons (pv 1) pa_nil)) pe_int) pe_int) (pa_cons pe_int pa_nil)))) (pv 2)))))))), ?_⟩
    refine ⟨_, rfl, .inl ⟨_, rfl, _, _, rfl, rfl, by show (0 : Int) < 24; decide, k % 24, rfl, by omega, by omega, for_range (lo := 0) (n := (k % 24).toNat)
      (fun i σ H' => ∃ v : Option V, σ = [some (.int c), some (.int k), some (.int b), some (.int ((1009 : Int) ^ i)), v, none, none] ∧ H' = H) ⟨none, rfl, rfl⟩ ?_ ?_⟩⟩
    · rintro i σ H' hi ⟨v, rfl, rfl⟩
      refine ⟨_, rfl, _, _, rfl, rfl, .inr ⟨by decide, by decide⟩, some (.int (0 + (i : Int))), ?_, rfl⟩
      rw [Int.pow_succ]
      rfl
    · rintro σ H' ⟨v, rfl, rfl⟩
      have i24 : (k % 24).toNat ≤ 24 := by omega
      have pp : (0 : Int) < (1009 : Int) ^ (k % 24).toNat := Int.pow_pos (by decide)
      refine ⟨_, rfl, _, _, rfl, rfl, ⟨by decide, by decide, by decide⟩, _, _, rfl, rfl, _, rfl, _, _, rfl, rfl, wide_div pp (pow_small i24) (by decide) (by decide), ?_⟩
      refine ⟨_, rfl, _, _, rfl, rfl, _, rfl, ?_⟩
      refine ite2 (fun _ => ?_) (fun _ => ?_)
      · exact ⟨_, rfl, .inl ⟨_, rfl, _, _, rfl, rfl, by show (0 : Int) < 1009; decide, _, rfl, _, _, rfl, rfl, hb, q _ _ (Int.emod_nonneg _ (by omega)) (Int.emod_lt_of_pos _ hb) (Same.refl _)⟩⟩
      · refine ⟨_, rfl, .inl ⟨_, rfl, _, _, rfl, rfl, by show (0 : Int) < 1000003; decide, ?_⟩⟩
        have s0 : 0 ≤ c % 1000003 := Int.emod_nonneg _ (by decide)
        have s1 : c % 1000003 < 1000003 := Int.emod_lt_of_pos _ (by decide)
        refine ⟨_, rfl, _, rfl, _, _, rfl, rfl, .inl ⟨by decide, by decide⟩, _, _, rfl, rfl, _, rfl, _, rfl, _, _, rfl, rfl, .inl ⟨by decide, by decide⟩, _, _, rfl, rfl, _, _, rfl, rfl, _, _, rfl, rfl, .inl ⟨by omega, by omega⟩,
          _, rfl, .inl ⟨_, rfl, _, _, rfl, rfl, by show (0 : Int) < 9; decide, _, _, rfl, rfl, _, _, _, rfl, by decide, fun n H' n0 n1 sm => ?_⟩⟩
        exact ⟨_, rfl, _, _, rfl, rfl, hb, q _ _ (Int.emod_nonneg _ (by omega)) (Int.emod_lt_of_pos _ hb) sm⟩
end
end K
set_option Elab.async false
set_option linter.all false
set_option maxRecDepth 100000
set_option maxHeartbeats 4000000
namespace K
open PySem L2 Hk
section
variable {P : Program} {w : World} {K : PySem.W.Frag} {mg : Str → Option Value} {base : Heap} {fC fD fN fX : Addr} {fdC fdD fdN fdX fd : FuncData} {f : Addr}
theorem seqL_but {H H' : Hp} {d a : Addr} {xs : List V} (h : SqL K H a xs) (n : a ≠ d) (b : But d H H') : SqL K H' a xs := by
  rcases h with (h | ⟨o, h⟩) | h
  · exact .inl (.inl (b _ _ n h))
  · exact .inl (.inr ⟨o, b _ _ n h⟩)
  · exact .inr h
theorem seqT_but {H H' : Hp} {d a : Addr} {xs : List V} (h : SqT K H a xs) (n : a ≠ d) (b : But d H H') : SqT K H' a xs := by
  rcases h with (h | ⟨o, h⟩) | h
  · exact .inl (.inl (b _ _ n h))
  · exact .inl (.inr ⟨o, b _ _ n h⟩)
  · exact .inr h
/-- where the draws stand, all else being kept -/
theorem Dr.same {H H' : Hp} {d : Addr} (D : Dr K H d) (s : Same H H') : Dr K H' d := by
  obtain ⟨a, ns, k, h1, h2, h3, h4⟩ := D
  exact ⟨a, ns, k, s _ _ h1, s.seq h2, h3, h4⟩
theorem Dr.go {H H' : Hp} {d : Addr} (D : Dr K H d) (b : But d H H') (g : Go H H' d) : Dr K H' d := by
  obtain ⟨a, ns, k, h1, h2, h3, h4⟩ := D
  obtain ⟨k', h5, h6⟩ := g a k h1 h4
  exact ⟨a, ns, k', h6, seqL_but h2 h3 b, h3, h5⟩
theorem scNext : FnScope ["draw", "bound", "at", "cell"] ["draw", "bound"] (defScope sNext) := ⟨rfl, rfl, rfl, by decide +kernel, rfl, by decide +kernel, by decide +kernel⟩
theorem ok_next (F : Fun K "_law_next" "_law_next" sNext f fd) (T : TxtD K mg fC fD fN fX) (FC : Fun K "_law_cell_at" "_law_cell_at" sCellAt fC fdC) (bC : Binds K fdC ["script", "k"] [])
    (FD : Fun K "_law_draw" "_law_draw" sDraw fD fdD) (bD : Binds K fdD ["cell", "k", "bound"] []) (FN : Fun K "_law_number" "_law_number" sNumber fN fdN) (bN : Binds K fdN ["cell", "k", "bound"] []) :
    FnOk P w K mg base CX0 3 f fd ["draw", "bound"] (spNext K) := by
  have GC : FnOk P w K mg base CX0 1 fC fdC ["script", "k"] (spCellAt K) := ok_cell_at FC T
  have GN : FnOk P w K mg base CX0 2 fN fdN ["cell", "k", "bound"] spNumber := ok_number FN T FD bD
  refine F.ok scNext (fun vs H Q E h => ?_) (fun cdv A outer s H vs Q E hr h => ?_)
  · obtain ⟨d, b, rfl, _⟩ := h
    rfl
  · obtain ⟨d, b, rfl, ⟨a, ns, k, hd, hs, nad, hk⟩, hb, q⟩ := h
    have hr1 : Room 1 _ := hr.mono (by decide)
    refine ⟨_, pss_cons (ps_asg (pe_op op_add (pe_ix ix_list (pv 0) pe_int (fun _ _ => rfl)) pe_int) (pg_sub (pv 0) pe_int set_list))
      (pss_cons (ps_set (i := 2) scNext.nd rfl (Or.inl rfl) (pe_op op_fdiv (pe_ix ix_list (pv 0) pe_int (fun _ _ => rfl)) pe_int))
      (pss_cons (ps_set (i := 3) scNext.nd rfl (Or.inl rfl) (pe_op op_add (pe_call GC hr1 (by rfl) T.gC T.kC bC .nil pass0 (pa_cons (pe_ix ix_list (pv 0) pe_int (fun _ _ => rfl)) (pa_cons (pe_op op_add (pe_ix ix_list (pv 0) pe_int (fun _ _ => rfl)) (pv 2)) pa_nil)))
        (pe_op op_mul pe_int (pv 2))))
      (pss_one (ps_ret (pe_call GN hr (by rfl) T.gN T.kN bN .nil pass0 (pa_cons (pv 3) (pa_cons (pe_op op_add (pe_op op_mod (pe_callTy call_int1 (by rfl) T.int (by decide +kernel) (pa_cons (pe_ix ix_list (pv 0) pe_int (fun _ _ => rfl)) pa_nil)) pe_int) pe_int) (pa_cons (pv 1) pa_nil)))))))), ?_⟩
    have at2 : ∀ z : Int, atI [V.ref a, V.int 0, V.int z] 2 = some (V.int z) := fun z => atI_nat (j := 2) rfl
    refine ⟨_, rfl, d, _, _, V.int k, rfl, rfl, SqL.of hd, at2 k, _, _, rfl, rfl, _, rfl, d, _, _, 2, rfl, rfl, hd, rfl, ?_⟩
    show (_ : Prop)
    have hd1 : (upd H d (.lst [V.ref a, V.int 0, V.int (k + 1)])) d = some (.lst [V.ref a, V.int 0, V.int (k + 1)]) := upd_same
    have b1 : But d H (upd H d (.lst [V.ref a, V.int 0, V.int (k + 1)])) := But.upd But.rfl'
    have hs1 := seqL_but hs nad b1
    generalize hH : upd H d (.lst [V.ref a, V.int 0, V.int (k + 1)]) = H1 at hd1 b1 hs1
    have eH : upd H d (.lst (([V.ref a, V.int 0, V.int k] : List V).set 2 (V.int (k + 1)))) = H1 := hH
    rw [eH]
    refine ⟨_, rfl, d, _, _, V.int (k + 1), rfl, rfl, SqL.of hd1, at2 _, _, _, rfl, rfl, ⟨by decide, by decide⟩, ?_⟩
    have n0 : 0 ≤ (k + 1) / 12 := Int.ediv_nonneg (by omega) (by decide)
    refine ⟨_, rfl, d, _, _, V.ref a, rfl, rfl, SqL.of hd1, atI_nat (j := 0) rfl, _, rfl, d, _, _, V.int 0, rfl, rfl, SqL.of hd1, atI_nat (j := 1) rfl, _, rfl, _, _, rfl, rfl, a, ns, _, rfl, hs1, by omega, fun z => ?_⟩
    refine ⟨_, rfl, _, _, rfl, rfl, .inl ⟨by decide, by decide⟩, _, _, rfl, rfl, ?_⟩
    refine ⟨_, rfl, _, rfl, d, _, _, V.int (k + 1), rfl, rfl, SqL.of hd1, at2 _, .inl ⟨_, rfl, _, _, rfl, rfl, by show (0 : Int) < 12; decide, _, _, rfl, rfl, _, rfl, _, _, _, rfl, hb, ?_, ?_, fun n H2 n0 n1 sm => ?_⟩⟩
    · have := Int.emod_nonneg (k + 1) (show (12 : Int) ≠ 0 by decide)
      omega
    · have := Int.emod_lt_of_pos (k + 1) (show (0 : Int) < 12 by decide)
      omega
    · exact q n H2 n0 n1 (b1.trans (But.of sm)) ⟨a, ns, k + 1, sm _ _ hd1, sm.seq hs1, nad, by omega⟩ (fun a' k' e _ => by
        rw [hd] at e
        have e2 := HO.lst.inj (Option.some.inj e)
        injection e2 with e3 e4
        rw [← e3]
        exact ⟨k + 1, by omega, sm _ _ hd1⟩)
theorem scPick : FnScope ["draw", "things"] ["draw", "things"] (defScope sPick) := ⟨rfl, rfl, rfl, by decide +kernel, rfl, by decide +kernel, by decide +kernel⟩
theorem ok_pick (F : Fun K "_law_pick" "_law_pick" sPick f fd) (T : TxtD K mg fC fD fN fX) (GX : FnOk P w K mg base CX0 3 fX fdX ["draw", "bound"] (spNext K)) (bX : Binds K fdX ["draw", "bound"] []) :
    FnOk P w K mg base CX0 4 f fd ["draw", "things"] (spPick K) := by
  refine F.ok scPick (fun vs H Q E h => ?_) (fun cdv A outer s H vs Q E hr h => ?_)
  · obtain ⟨d, l, xs, rfl, _⟩ := h
    rfl
  · obtain ⟨d, l, xs, rfl, D, nl, hs, ne, q⟩ := h
    refine ⟨_, pss_one (ps_ret (pe_ix ix_seq (pv 1) (pe_call GX hr (by rfl) T.gX T.kX bX .nil pass0 (pa_cons (pv 0) (pa_cons (pe_callB call_len_seq (by rfl) T.len PySem.boot_len (pa_cons (pv 1) pa_nil)) pa_nil))) (fun _ _ => rfl))), ?_⟩
    have lp : 0 < xs.length := List.length_pos_iff.mpr ne
    refine ⟨_, rfl, _, rfl, _, rfl, l, xs, rfl, hs, d, _, rfl, D, by omega, fun n H1 n0 n1 b1 D1 g1 => ?_⟩
    obtain ⟨j, rfl⟩ := Int.eq_ofNat_of_zero_le n0
    have hj : j < xs.length := by omega
    have e : atI xs (j : Int) = some xs[j] := atI_nat (List.getElem?_eq_getElem hj)
    rcases hs with hs | hs
    · exact .inl ⟨l, xs, _, _, rfl, rfl, seqL_but hs nl b1, e, q _ _ (List.getElem_mem hj) b1 D1 g1⟩
    · exact .inr (.inl ⟨l, xs, _, _, rfl, rfl, seqT_but hs nl b1, e, q _ _ (List.getElem_mem hj) b1 D1 g1⟩)
end
end K
set_option Elab.async false
set_option linter.all false
set_option maxRecDepth 100000
set_option maxHeartbeats 4000000
/-! The forms of values: rows, words. -/
namespace K
open PySem L2 Hk
def wordOk (n : Int) (x : Str) : Bool := decide (1 ≤ (x.length : Int)) && decide ((x.length : Int) ≤ n) && (Txt.isascii x && (Txt.isalpha x && Txt.islower x))
def spIsRow (K : PySem.W.Frag) : Sp := fun vs H Q _ => ∃ (v : V) (T : String) (b : Bool), vs = [v] ∧ TyX K H v (.type T) ∧ PySem.W.kitAny K (.type T) [.type "list", .type "tuple"] = some b ∧ ∀ H', Same H H' → Q (.bl b) H'
def spIsWord (K : PySem.W.Frag) : Sp := fun vs H Q _ => ∃ (v : V) (n : Int), vs = [v, .int n] ∧
  ((∃ x : Str, v = .str x ∧ x.length ≤ sizeLine ∧ Q (.bl (wordOk n x)) H) ∨ (∃ T : String, TyX K H v (.type T) ∧ kitB T "str" = some false ∧ Q (.bl false) H))
structure TxtF (mg : Str → Option Value) : Prop where
  len : mg "len" = none
  isi : mg "isinstance" = none
  list : mg "list" = none
  tuple : mg "tuple" = none
  str : mg "str" = none
  dict : mg "dict" = none
  set : mg "set" = none
  all : mg "all" = none
  any : mg "any" = none
  sorted : mg "sorted" = none
  iter : mg "iter" = none
theorem tyX_same {K : PySem.W.Frag} {H H' : Hp} {v : V} {t : Value} (x : TyX K H v t) (s : Same H H') : TyX K H' v t := by
  cases x with
  | base b =>
    refine .base ?_
    cases b with
    | non => exact .non
    | bl x => exact .bl x
    | int i => exact .int i
    | str x => exact .str x
    | flt x => exact .flt x
    | lst e => exact .lst (s _ _ e)
    | frz e => exact .frz (s _ _ e)
    | tup e => exact .tup (s _ _ e)
    | dK e => exact .dK (s _ _ e)
    | dT e => exact .dT (s _ _ e)
    | ins e cl ha hn htk hm => exact .ins (s _ _ e) cl ha hn htk hm
  | byt b => exact .byt b
  | set e => exact .set (s _ _ e)
  | kList e c => exact .kList e c
  | kTuple e c => exact .kTuple e c
  | kDict e c => exact .kDict e c
  | fTuple e => exact .fTuple (s _ _ e)
  | fDict e => exact .fDict (s _ _ e)
section
variable {P : Program} {w : World} {K : PySem.W.Frag} {mg : Str → Option Value} {base : Heap} {f : Addr} {fd : FuncData}
theorem scIsRow : FnScope ["value"] ["value"] (defScope sIsRow) := ⟨rfl, rfl, rfl, by decide +kernel, rfl, by decide +kernel, by decide +kernel⟩
theorem ok_is_row (F : Fun K "is_row" "is_row" sIsRow f fd) (T : TxtF mg) : FnOk P w K mg base CX0 1 f fd ["value"] (spIsRow K) := by
  refine F.ok scIsRow (fun vs H Q E h => ?_) (fun cdv A outer s H vs Q E hr h => ?_)
  · obtain ⟨v, t, b, rfl, _⟩ := h
    rfl
  · obtain ⟨v, t, b, rfl, ty, kb, q⟩ := h
    refine ⟨_, pss_one (ps_ret (pe_callB call_isiT (by rfl) T.isi (by decide +kernel) (pa_cons (pv 0) (pa_cons (pe_tup (pa_cons (pe_bltn (v := .ty "list") (by rfl) T.list (by decide +kernel) rfl) (pa_cons (pe_bltn (v := .ty "tuple") (by rfl) T.tuple (by decide +kernel) rfl) pa_nil))) pa_nil)))), ?_⟩
    refine ⟨_, rfl, by show 2 ≤ sizeLine; decide, fun p hp => ?_⟩
    refine ⟨v, p, _, _, _, b, rfl, upd_same, .cons (.ty "list") (.cons (.ty "tuple") .nil), tyX_same ty (Same.fresh (Same.refl H) hp), kb, q _ (Same.fresh (Same.refl H) hp)⟩
theorem scIsWord : FnScope ["value", "longest"] ["value", "longest"] (defScope sIsWord) := ⟨rfl, rfl, rfl, by decide +kernel, rfl, by decide +kernel, by decide +kernel⟩
theorem ok_is_word (F : FunD K "is_word" "is_word" (defArgs sIsWord) (defBody sIsWord) (defScope sIsWord) [.int 8] [] f fd) (T : TxtF mg) : FnOk P w K mg base CX0 1 f fd ["value", "longest"] (spIsWord K) := by
  refine F.ok scIsWord (fun vs H Q E h => ?_) (fun cdv A outer s H vs Q E hr h => ?_)
  · obtain ⟨v, n, rfl, _⟩ := h
    rfl
  · obtain ⟨v, n, rfl, h⟩ := h
    refine ⟨_, pss_cons (ps_if (PW.pt (pw_or (pt_not (pt_val (pe_callB call_isi (by rfl) T.isi (by decide +kernel) (pa_cons (pv 0) (pa_cons (pe_bltn (v := .ty "str") (by rfl) T.str (by decide +kernel) rfl) pa_nil)))))
        (pw_or1 (pt_not (pt_chain op_le op_le pe_int (pe_callB call_len_str (by rfl) T.len PySem.boot_len (pa_cons (pv 0) pa_nil)) (pv 1)))))) (pss_one (ps_ret pe_bl)) pss_nil)
      (pss_one (ps_ret (pe_and (pe_m0 PySem.F.slot_str_isascii PySem.F.type_str_isascii mt_isascii (pv 0)) (pe_and (pe_m0 PySem.F.slot_str_isalpha PySem.F.type_str_isalpha mt_isalpha (pv 0)) (pe_one (pe_m0 PySem.F.slot_str_islower PySem.F.type_str_islower mt_islower (pv 0))))))), ?_⟩
    rcases h with ⟨x, rfl, hx, q⟩ | ⟨t, ty, kb, q⟩
    · refine ⟨_, rfl, .str x, .ty "str", .type "str", .type "str", true, rfl, .ty "str", .base (.str x), kit_ty (by decide +kernel), _, rfl, ?_⟩
      refine iteF ?_
      refine ⟨_, rfl, x, rfl, hx, _, _, rfl, rfl, _, rfl, ?_⟩
      refine ite2 (fun c1 => ?_) (fun c1 => ?_)
      · have c1' := of_decide_eq_true c1
        refine ⟨_, rfl, _, _, rfl, rfl, _, rfl, ?_⟩
        by_cases c2 : (x.length : Int) ≤ n
        · refine iteNS c2 ?_
          have e : wordOk n x = (Txt.isascii x && (Txt.isalpha x && Txt.islower x)) := by
            unfold wordOk
            rw [decide_eq_true c1', decide_eq_true c2]
            rfl
          rw [e] at q
          refine ⟨_, rfl, ⟨x, rfl⟩, x, rfl, rfl, trivial, _, rfl, ?_⟩
          cases h1 : Txt.isascii x with
          | false =>
            rw [h1] at q
            exact iteF q
          | true =>
            rw [h1] at q
            refine iteT ⟨_, rfl, ⟨x, rfl⟩, x, rfl, rfl, trivial, _, rfl, ?_⟩
            cases h2 : Txt.isalpha x with
            | false =>
              rw [h2] at q
              exact iteF q
            | true =>
              rw [h2] at q
              exact iteT ⟨_, rfl, ⟨x, rfl⟩, x, rfl, rfl, trivial, q⟩
        · have e : wordOk n x = false := by
            unfold wordOk
            rw [decide_eq_false c2, Bool.and_false]
            rfl
          rw [e] at q
          rw [decide_eq_false c2]
          exact q
      · have e : wordOk n x = false := by
          unfold wordOk
          rw [show decide (1 ≤ (x.length : Int)) = false from by simpa using c1]
          rfl
        rw [e] at q
        exact ⟨_, rfl, q⟩
    · refine ⟨_, rfl, v, .ty "str", .type t, .type "str", false, rfl, .ty "str", ty, kit_ty kb, _, rfl, ?_⟩
      exact q
end
end K
set_option Elab.async false
set_option linter.all false
set_option maxRecDepth 100000
set_option maxHeartbeats 4000000
/-! Values as data; are_words. -/
namespace K
open PySem L2 Hk
/-- values as data -/
inductive Dt where
  | non | dct
  | int (i : Int)
  | str (x : Str)
  | lst (l : List Dt)
  | tup (l : List Dt)
mutual
inductive Da (K : PySem.W.Frag) (H : Hp) : V → Dt → Prop
  | non : Da K H .non .non
  | dct {a : Addr} : H a = some (.dK []) → Da K H (.ref a) .dct
  | int (i : Int) : Da K H (.int i) (.int i)
  | str (x : Str) : x.length ≤ 1000 → Da K H (.str x) (.str x)
  | lst {a : Addr} {xs : List V} {l : List Dt} : SqL K H a xs → DaAll K H xs l → Da K H (.ref a) (.lst l)
  | tup {a : Addr} {xs : List V} {l : List Dt} : H a = some (.tup xs) → DaAll K H xs l → Da K H (.ref a) (.tup l)
  | nul {a : Addr} : SqT K H a [] → Da K H (.ref a) (.tup [])
inductive DaAll (K : PySem.W.Frag) (H : Hp) : List V → List Dt → Prop
  | nil : DaAll K H [] []
  | cons {v : V} {vs : List V} {d : Dt} {l : List Dt} : Da K H v d → DaAll K H vs l → DaAll K H (v :: vs) (d :: l)
end
mutual
theorem Da.same {K : PySem.W.Frag} {H H' : Hp} (s : Same H H') : ∀ {v : V} {d : Dt}, Da K H v d → Da K H' v d
  | _, _, .non => .non
  | _, _, .dct e => .dct (s _ _ e)
  | _, _, .int i => .int i
  | _, _, .str x h => .str x h
  | _, _, .lst q r => .lst (s.seq q) (DaAll.same s r)
  | _, _, .tup q r => .tup (s _ _ q) (DaAll.same s r)
  | _, _, .nul q => .nul (seqT_same s q)
theorem DaAll.same {K : PySem.W.Frag} {H H' : Hp} (s : Same H H') : ∀ {v : List V} {d : List Dt}, DaAll K H v d → DaAll K H' v d
  | _, _, .nil => .nil
  | _, _, .cons h t => .cons (Da.same s h) (DaAll.same s t)
end
theorem DaAll.len {K : PySem.W.Frag} {H : Hp} : ∀ {xs : List V} {l : List Dt}, DaAll K H xs l → xs.length = l.length
  | _, _, .nil => rfl
  | _, _, .cons _ t => congrArg Nat.succ (DaAll.len t)
theorem DaAll.at {K : PySem.W.Frag} {H : Hp} : ∀ {xs : List V} {l : List Dt} {i : Nat} {x : V}, DaAll K H xs l → xs[i]? = some x → ∃ d, l[i]? = some d ∧ Da K H x d
  | _, _, _, _, .nil, e => by simp at e
  | _, _, 0, _, .cons h _, e => by
    simp at e
    subst e
    exact ⟨_, rfl, h⟩
  | _, _, i + 1, x, .cons _ t, e => by
    obtain ⟨d, e1, e2⟩ := DaAll.at (i := i) (x := x) t (by simpa using e)
    exact ⟨d, by simpa using e1, e2⟩
def tyOf : Dt → String
  | .non => "NoneType"
  | .dct => "dict"
  | .int _ => "int"
  | .str _ => "str"
  | .lst _ => "list"
  | .tup _ => "tuple"
theorem tyX_list {K : PySem.W.Frag} {H : Hp} {a : Addr} {xs : List V} (h : SqL K H a xs) : TyX K H (.ref a) (.type "list") := by
  rcases h with (h | ⟨o, h⟩) | ⟨o, its, n, hk, hc, _⟩
  · exact .base (.lst h)
  · exact .base (.frz h)
  · exact .kList hk hc
theorem tyX_tup {K : PySem.W.Frag} {H : Hp} {a : Addr} {xs : List V} (h : SqT K H a xs) : TyX K H (.ref a) (.type "tuple") := by
  rcases h with (h | ⟨o, h⟩) | ⟨o, its, n, hk, hc, _⟩
  · exact .base (.tup h)
  · exact .fTuple h
  · exact .kTuple hk hc
theorem Da.ty {K : PySem.W.Frag} {H : Hp} {v : V} {d : Dt} (h : Da K H v d) : TyX K H v (.type (tyOf d)) := by
  cases h with
  | non => exact .base .non
  | dct e => exact .base (.dK e)
  | int i => exact .base (.int i)
  | str x _ => exact .base (.str x)
  | lst q _ => exact tyX_list q
  | tup q _ => exact tyX_tup (.inl (.inl q))
  | nul q => exact tyX_tup q
def rowD : Dt → Option (List Dt)
  | .lst l => some l
  | .tup l => some l
  | _ => none
theorem kit_two {K : PySem.W.Frag} {t : String} {b1 b2 : Bool} (h1 : kitB t "list" = some b1) (h2 : kitB t "tuple" = some b2) : PySem.W.kitAny K (.type t) [.type "list", .type "tuple"] = some (b1 || b2) :=
  kitAny_cons (kit_ty h1) (fun e => by rw [e]; exact kitAny_cons (kit_ty h2) (fun e2 => by rw [e2]; exact kitAny_nil) (fun e2 => by rw [e2]; rfl)) (fun e => by rw [e]; rfl)
theorem kit_row (K : PySem.W.Frag) : ∀ d : Dt, PySem.W.kitAny K (.type (tyOf d)) [.type "list", .type "tuple"] = some (rowD d).isSome
  | .non => kit_two (t := "NoneType") (b1 := false) (b2 := false) (by decide +kernel) (by decide +kernel)
  | .dct => kit_two (t := "dict") (b1 := false) (b2 := false) (by decide +kernel) (by decide +kernel)
  | .int _ => kit_two (t := "int") (b1 := false) (b2 := false) (by decide +kernel) (by decide +kernel)
  | .str _ => kit_two (t := "str") (b1 := false) (b2 := false) (by decide +kernel) (by decide +kernel)
  | .lst _ => kit_two (t := "list") (b1 := true) (b2 := false) (by decide +kernel) (by decide +kernel)
  | .tup _ => kit_two (t := "tuple") (b1 := false) (b2 := true) (by decide +kernel) (by decide +kernel)
theorem kit_str : ∀ d : Dt, (∀ x, d ≠ .str x) → kitB (tyOf d) "str" = some false
  | .non, _ => show kitB "NoneType" "str" = some false by decide +kernel
  | .dct, _ => show kitB "dict" "str" = some false by decide +kernel
  | .int _, _ => show kitB "int" "str" = some false by decide +kernel
  | .str x, h => absurd rfl (h x)
  | .lst _, _ => show kitB "list" "str" = some false by decide +kernel
  | .tup _, _ => show kitB "tuple" "str" = some false by decide +kernel
theorem Da.row {K : PySem.W.Frag} {H : Hp} {v : V} {d : Dt} {l : List Dt} (h : Da K H v d) (e : rowD d = some l) : ∃ b a xs, v = .ref a ∧ SqX K H b a xs ∧ DaAll K H xs l := by
  cases h with
  | lst q r => cases e; exact ⟨true, _, _, rfl, q, r⟩
  | tup q r => cases e; exact ⟨false, _, _, rfl, SqX.tup (.inl (.inl q)), r⟩
  | nul q => cases e; exact ⟨false, _, _, rfl, SqX.tup q, .nil⟩
  | _ => cases e
theorem Da.tupI {K : PySem.W.Frag} {H : Hp} {v : V} {l : List Dt} (h : Da K H v (.tup l)) : ∃ a xs, v = .ref a ∧ SqT K H a xs ∧ DaAll K H xs l := by
  cases h with
  | tup q r => exact ⟨_, _, rfl, .inl (.inl q), r⟩
  | nul q => exact ⟨_, _, rfl, q, .nil⟩
def wordD (n : Int) : Dt → Bool
  | .str x => wordOk n x
  | _ => false
def strsD (l : List Dt) : List Str := l.filterMap fun d => match d with
  | .str x => some x
  | _ => none
/-- a list or tuple of words that all differ -/
def wordsD (n : Int) (d : Dt) : Bool := match rowD d with
  | some l => l.all (wordD n) && decide (strsD l).Nodup
  | none => false
theorem strs_of {n : Int} : ∀ {l : List Dt}, l.all (wordD n) = true → l = (strsD l).map Dt.str
  | [], _ => rfl
  | d :: l, h => by
    rw [List.all_cons, Bool.and_eq_true] at h
    cases d with
    | str x =>
      have ih := strs_of h.2
      have e : strsD (Dt.str x :: l) = x :: strsD l := rfl
      rw [e, List.map_cons, ← ih]
    | _ => cases h.1
theorem DaAll.strs {K : PySem.W.Frag} {H : Hp} : ∀ {xs : List V} {ss : List Str}, DaAll K H xs (ss.map Dt.str) → xs = ss.map V.str
  | _, [], .nil => rfl
  | _, x :: ss, .cons h t => by
    cases h
    rw [DaAll.strs t]
    rfl
theorem DaAll.ofStrs {K : PySem.W.Frag} {H : Hp} : ∀ {ss : List Str}, (∀ x ∈ ss, x.length ≤ 1000) → DaAll K H (ss.map V.str) (ss.map Dt.str)
  | [], _ => .nil
  | x :: ss, h => .cons (.str x (h x List.mem_cons_self)) (DaAll.ofStrs fun y m => h y (List.mem_cons_of_mem _ m))
theorem inr_nodup {ss : List Str} : (ss.map (Sum.inr : Str → Key)).Nodup ↔ ss.Nodup := by
  constructor
  · exact fun h => nodup_map h
  · exact fun h => List.pairwise_map.mpr (h.imp fun ne e => ne (Sum.inr.inj e))
theorem inr_kV (ss : List Str) : (ss.map (Sum.inr : Str → Key)).map kV = ss.map V.str := by
  rw [List.map_map]
  rfl
def spAreWords (K : PySem.W.Frag) : Sp := fun vs H Q _ => ∃ (v : V) (d : Dt) (n : Int), vs = [v, .int n] ∧ Da K H v d ∧ (∀ l, rowD d = some l → l.length < 3000) ∧ ∀ H', Same H H' → Q (.bl (wordsD n d)) H'
structure TxtW (K : PySem.W.Frag) (mg : Str → Option Value) (fR fW : Addr) : Prop where
  f : TxtF mg
  gR : mg "is_row" = some (.ref fR)
  gW : mg "is_word" = some (.ref fW)
  kR : PySem.W.keepIn K (.ref fR) = true
  kW : PySem.W.keepIn K (.ref fW) = true
section
variable {P : Program} {w : World} {K : PySem.W.Frag} {mg : Str → Option Value} {base : Heap} {f fR fW : Addr} {fd fdR fdW : FuncData}
theorem scAreWords : FnScope ["value", "longest", "word"] ["value", "longest"] (defScope sAreWords) := ⟨rfl, rfl, rfl, by decide +kernel, rfl, by decide +kernel, by decide +kernel⟩
theorem ok_are_words (F : FunD K "are_words" "are_words" (defArgs sAreWords) (defBody sAreWords) (defScope sAreWords) [.int 8] [] f fd) (T : TxtW K mg fR fW)
    (GR : FnOk P w K mg base CX0 1 fR fdR ["value"] (spIsRow K)) (bR : Binds K fdR ["value"] []) (GW : FnOk P w K mg base CX0 1 fW fdW ["value", "longest"] (spIsWord K)) (bW : Binds K fdW ["value", "longest"] []) :
    FnOk P w K mg base CX0 2 f fd ["value", "longest"] (spAreWords K) := by
  refine F.ok scAreWords (fun vs H Q E h => ?_) (fun cdv A outer s H vs Q E hr h => ?_)
  · obtain ⟨v, d, n, rfl, _⟩ := h
    rfl
  · obtain ⟨v, d, n, rfl, da, sm, q⟩ := h
    refine ⟨_, pss_cons (ps_if (PW.pt (pw_or (pt_not (pt_val (pe_call GR hr (by rfl) T.gR T.kR bR .nil pass0 (pa_cons (pv 0) pa_nil))))
        (pw_or1 (pt_not (pt_val (pe_callB (cr_all rfl) (by rfl) T.f.all (by decide +kernel) (pa_cons
          (pe_lc (own := [("word", 2)]) (g := gName 2) (tt := tYes) rfl scAreWords.nd (pi_seq (pv 0)) (blkOk_by (N := ["value", "longest", "word"]) (sc := defScope sAreWords) (by decide +kernel))
            (fun _ _ _ _ _ => pg_name (i := 2) scAreWords.nd rfl (Or.inl rfl)) (fun _ _ _ _ _ => pts_nil)
            (fun _ _ _ _ _ => pe_call GW hr (by rfl) T.gW T.kW bW .nil pass0 (pa_cons (pv 2) (pa_cons (pv 1) pa_nil)))) pa_nil))))))) (pss_one (ps_ret pe_bl)) pss_nil)
      (pss_one (ps_ret (pe_cmpR op_eq (pe_callB cr_lenK (by rfl) T.f.len PySem.boot_len (pa_cons (pe_callTy (cr_setW rfl hr.units) (by rfl) T.f.set (by decide +kernel) (pa_cons (pv 0) pa_nil)) pa_nil))
        (pe_callB call_len_seq (by rfl) T.f.len PySem.boot_len (pa_cons (pv 0) pa_nil)) (nomark _)))), ?_⟩
    refine ⟨_, rfl, v, tyOf d, (rowD d).isSome, rfl, da.ty, kit_row K d, fun H1 s1 => ⟨_, rfl, ?_⟩⟩
    cases er : rowD d with
    | none =>
      refine iteT (iteT ?_)
      have e : wordsD n d = false := by
        unfold wordsD
        rw [er]
      rw [e] at q
      exact q H1 s1
    | some l =>
      refine iteF ?_
      have sm2 := sm l er
      obtain ⟨b, a, xs, rfl, hx, hl⟩ := da.row er
      have hx1 := hx.same s1
      have hl1 := hl.same s1
      have lx := hl.len
      refine ⟨_, rfl, b, a, xs, rfl, hx1, fun J wk D hD => lcX wk hD (fun i acc H => acc = ((l.take i).map (wordD n)).map V.bl) (by rw [sizeLine_eq]; omega) (fun _ _ _ _ r _ => r) (by simp) (fun H2 s2 => hx1.same s2) ?_ ?_⟩
      · intro i x H2 acc hi ex s2 e r Nx yes no
        refine ⟨rfl, tYes_ok ?_⟩
        obtain ⟨dx, ed, dax⟩ := hl1.at ex
        have dax2 := Da.same s2 dax
        have up : l.take (i + 1) = l.take i ++ [dx] := take_up ed
        refine ⟨_, rfl, _, rfl, x, n, rfl, ?_⟩
        cases dx with
        | str z =>
          cases dax2 with
          | str _ hz =>
            refine .inl ⟨z, rfl, by rw [sizeLine_eq]; omega, yes _ _ (Same.refl _) ?_⟩
            rw [r, up]
            simp [wordD]
        | _ =>
          refine .inr ⟨_, dax2.ty, kit_str _ (by intro z q; cases q), yes _ _ (Same.refl _) ?_⟩
          rw [r, up]
          simp [wordD]
      · intro H2 acc s2 e r
        have r2 : acc = (l.map (wordD n)).map V.bl := by
          rw [r, lx, List.take_length]
        rw [r2] at e
        refine ⟨D, l.map (wordD n), rfl, SqL.of e, _, rfl, ?_⟩
        have s3 : Same H H2 := s1.trans s2
        have ea : (l.map (wordD n)).all id = l.all (wordD n) := by rw [List.all_map]; rfl
        rw [ea]
        cases w1 : l.all (wordD n) with
        | false =>
          refine iteT ?_
          have ew : wordsD n d = false := by
            unfold wordsD
            rw [er]
            simp [w1]
          rw [ew] at q
          exact q H2 s3
        | true =>
          refine iteF ?_
          have el := strs_of w1
          have hl2 := hl1.same s2
          rw [el] at hl2
          have exs := hl2.strs
          have hx2 := hx1.same s2
          have lens : (strsD l).length = l.length := by
            have := congrArg List.length el
            rw [List.length_map] at this
            exact this.symm
          have both : SqL K H2 a (((strsD l).map Sum.inr).map kV) ∨ SqT K H2 a (((strsD l).map Sum.inr).map kV) := by
            rw [inr_kV, ← exs]
            exact hx2.either
          refine ⟨_, rfl, a, (strsD l).map Sum.inr, rfl, both, by rw [List.length_map]; omega, fun S m hS hm => ?_⟩
          have s4 : Same H2 (upd H2 S (SetK P w S (fun k => memK k ((strsD l).map Sum.inr)) m)) := Same.fresh (Same.refl _) hS
          refine ⟨S, _, m, rfl, upd_same, _, rfl, a, xs, rfl, (hx2.same s4).either, rfl, ?_⟩
          have ew : wordsD n d = decide (V.int (m : Int) = V.int (xs.length : Int)) := by
            unfold wordsD
            rw [er]
            rw [List.length_map, inr_nodup] at hm
            have e5 : xs.length = (strsD l).length := by rw [lx, lens]
            simp only [w1, Bool.true_and]
            rw [Bool.eq_iff_iff, decide_eq_true_eq, decide_eq_true_eq, ← hm, e5, V.int.injEq]
            omega
          rw [ew] at q
          exact q _ (s3.trans s4)
end
end K
set_option Elab.async false
set_option linter.all false
set_option maxRecDepth 100000
set_option maxHeartbeats 4000000
/-! is_triple, are_rights. -/
namespace K
open PySem L2 Hk
abbrev R3 := Str × Str × Str
def tripD : Dt → Bool
  | .tup [.str _, .str _, .str _] => true
  | _ => false
def r3D : Dt → Option R3
  | .tup [.str a, .str b, .str c] => some (a, b, c)
  | _ => none
def r3s (l : List Dt) : List R3 := l.filterMap r3D
def dtR (r : R3) : Dt := .tup [.str r.1, .str r.2.1, .str r.2.2]
def okR (names : List Str) (r : R3) : Bool := decide (r.1 ∈ names) && decide (r.2.2 ∈ names)
def rightsD (names : List Str) (d : Dt) : Bool := match rowD d with
  | some l => l.all tripD && ((r3s l).all (okR names) && (r3s l).all fun r => wordOk 8 r.2.1)
  | none => false
theorem trip_some : ∀ {d : Dt}, tripD d = true → ∃ r, d = dtR r
  | .tup [.str a, .str b, .str c], _ => ⟨(a, b, c), rfl⟩
theorem trips_of : ∀ {l : List Dt}, l.all tripD = true → l = (r3s l).map dtR
  | [], _ => rfl
  | d :: l, h => by
    rw [List.all_cons, Bool.and_eq_true] at h
    obtain ⟨⟨a, b, c⟩, rfl⟩ := trip_some h.1
    have ih := trips_of h.2
    have e : r3s (dtR (a, b, c) :: l) = (a, b, c) :: r3s l := rfl
    rw [e, List.map_cons, ← ih]
def spIsTriple (K : PySem.W.Frag) : Sp := fun vs H Q _ => ∃ (v : V) (d : Dt), vs = [v] ∧ Da K H v d ∧ Q (.bl (tripD d)) H
def spAreRights (K : PySem.W.Frag) : Sp := fun vs H Q _ => ∃ (v : V) (d : Dt) (b : Addr) (names : List Str), vs = [v, .ref b] ∧ Da K H v d ∧ SqL K H b (names.map V.str) ∧ (∀ l, rowD d = some l → l.length < 3000) ∧ names.length < 3000 ∧
  ∀ H', Same H H' → Q (.bl (rightsD names d)) H'
/-! the dict that a comprehension fills with True -/
def marks (ks : List Key) : List (Key × V) := ks.foldl (fun kvs k => putK kvs k (.bl true)) []
theorem marks_snoc (ks : List Key) (k : Key) : marks (ks ++ [k]) = putK (marks ks) k (.bl true) := by
  unfold marks
  rw [List.foldl_append]
  rfl
theorem rev_ind {α : Type} {P : List α → Prop} (h0 : P []) (hs : ∀ l x, P l → P (l ++ [x])) (l : List α) : P l := by
  have key : ∀ n (l : List α), l.length = n → P l := by
    intro n
    induction n with
    | zero => intro l e; rw [List.length_eq_zero_iff.mp e]; exact h0
    | succ n ih =>
      intro l e
      have ne : l ≠ [] := fun z => by rw [z] at e; cases e
      have q := hs l.dropLast (l.getLast ne) (ih _ (by rw [List.length_dropLast, e]; rfl))
      rw [List.dropLast_concat_getLast ne] at q
      exact q
  exact key _ l rfl
theorem marks_get (ks : List Key) (k : Key) : (valV (marks ks) k).isSome = memK k ks := by
  induction ks using rev_ind with
  | h0 => rfl
  | hs l x ih =>
    rw [marks_snoc, valV_put, Bool.eq_iff_iff, memK_iff, List.mem_append, List.mem_singleton, ← memK_iff, ← ih]
    by_cases e : k = x
    · rw [if_pos e]
      simp [e]
    · rw [if_neg e]
      simp [e]
theorem keys_put (kvs : List (Key × V)) (k : Key) (v : V) : (putK kvs k v).map (·.1) = if (valV kvs k).isSome = true then kvs.map (·.1) else kvs.map (·.1) ++ [k] := by
  unfold putK
  rw [valV_any]
  split
  · rw [List.map_map]
    refine List.map_congr_left fun p hp => ?_
    show (if p.1 = k then (p.1, v) else p).1 = p.1
    split <;> rfl
  · rw [List.map_append]
    rfl
theorem marks_keys (ks : List Key) : ∀ k, k ∈ (marks ks).map (·.1) ↔ k ∈ ks := by
  induction ks using rev_ind with
  | h0 => intro k; simp [marks]
  | hs l x ih =>
    intro k
    rw [marks_snoc, keys_put, marks_get]
    split
    · rename_i h
      have hx := memK_iff.mp h
      rw [ih, List.mem_append, List.mem_singleton]
      exact ⟨.inl, fun z => z.elim id fun e => e ▸ hx⟩
    · rw [List.mem_append, ih, List.mem_append]
theorem marks_len (ks : List Key) : (marks ks).length ≤ ks.length := by
  induction ks using rev_ind with
  | h0 => exact Nat.le_refl _
  | hs l x ih =>
    rw [marks_snoc, List.length_append]
    exact Nat.le_trans (length_putK _ _ _) (Nat.succ_le_succ ih)
structure TxtR (K : PySem.W.Frag) (mg : Str → Option Value) (fR fW fT : Addr) : Prop where
  w : TxtW K mg fR fW
  gT : mg "is_triple" = some (.ref fT)
  kT : PySem.W.keepIn K (.ref fT) = true
section
variable {P : Program} {w : World} {K : PySem.W.Frag} {mg : Str → Option Value} {base : Heap} {f fR fW fT : Addr} {fd fdR fdW fdT : FuncData}
theorem scIsTriple : FnScope ["value"] ["value"] (defScope sIsTriple) := ⟨rfl, rfl, rfl, by decide +kernel, rfl, by decide +kernel, by decide +kernel⟩
theorem kit_tup : ∀ d : Dt, (∀ l, d ≠ .tup l) → kitB (tyOf d) "tuple" = some false
  | .non, _ => show kitB "NoneType" "tuple" = some false by decide +kernel
  | .dct, _ => show kitB "dict" "tuple" = some false by decide +kernel
  | .int _, _ => show kitB "int" "tuple" = some false by decide +kernel
  | .str _, _ => show kitB "str" "tuple" = some false by decide +kernel
  | .lst _, _ => show kitB "list" "tuple" = some false by decide +kernel
  | .tup l, h => absurd rfl (h l)
def isStr : Dt → Bool
  | .str _ => true
  | _ => false
theorem kit_isStr : ∀ d : Dt, kitB (tyOf d) "str" = some (isStr d)
  | .non => show kitB "NoneType" "str" = some false by decide +kernel
  | .dct => show kitB "dict" "str" = some false by decide +kernel
  | .int _ => show kitB "int" "str" = some false by decide +kernel
  | .str x => show kitB "str" "str" = some true by decide +kernel
  | .lst _ => show kitB "list" "str" = some false by decide +kernel
  | .tup _ => show kitB "tuple" "str" = some false by decide +kernel
theorem trip3 (a b c : Dt) : tripD (.tup [a, b, c]) = (isStr a && (isStr b && isStr c)) := by
  cases a <;> cases b <;> cases c <;> rfl
theorem trip_no {l : List Dt} (h : l.length ≠ 3) : tripD (.tup l) = false := by
  unfold tripD
  split
  · rename_i e
    cases e
    exact absurd rfl h
  · rfl
theorem len3 {α : Type} : ∀ {l : List α}, l.length = 3 → ∃ a b c, l = [a, b, c]
  | [a, b, c], _ => ⟨a, b, c, rfl⟩
theorem DaAll.three {H : Hp} {xs : List V} {a b c : Dt} (h : DaAll K H xs [a, b, c]) : ∃ x y z, xs = [x, y, z] ∧ Da K H x a ∧ Da K H y b ∧ Da K H z c := by
  cases h with
  | cons h1 t =>
    cases t with
    | cons h2 t =>
      cases t with
      | cons h3 t =>
        cases t
        exact ⟨_, _, _, rfl, h1, h2, h3⟩
theorem ok_is_triple (F : Fun K "is_triple" "is_triple" sIsTriple f fd) (T : TxtF mg) : FnOk P w K mg base CX0 1 f fd ["value"] (spIsTriple K) := by
  refine F.ok scIsTriple (fun vs H Q E h => ?_) (fun cdv A outer s H vs Q E hr h => ?_)
  · obtain ⟨v, d, rfl, _⟩ := h
    rfl
  · obtain ⟨v, d, rfl, da, q⟩ := h
    refine ⟨_, pss_cons (ps_if (PW.pt (pw_or (pt_not (pt_val (pe_callB call_isi (by rfl) T.isi (by decide +kernel) (pa_cons (pv 0) (pa_cons (pe_bltn (v := .ty "tuple") (by rfl) T.tuple (by decide +kernel) rfl) pa_nil)))))
        (pw_or1 (pt_cmpR op_ne (pe_callB call_len_seq (by rfl) T.len PySem.boot_len (pa_cons (pv 0) pa_nil)) pe_int (nomark _))))) (pss_one (ps_ret pe_bl)) pss_nil)
      (pss_one (ps_ret (pe_and (pe_callB call_isi (by rfl) T.isi (by decide +kernel) (pa_cons (pe_ix ix_tup (pv 0) pe_int (fun _ _ => rfl)) (pa_cons (pe_bltn (v := .ty "str") (by rfl) T.str (by decide +kernel) rfl) pa_nil)))
        (pe_and (pe_callB call_isi (by rfl) T.isi (by decide +kernel) (pa_cons (pe_ix ix_tup (pv 0) pe_int (fun _ _ => rfl)) (pa_cons (pe_bltn (v := .ty "str") (by rfl) T.str (by decide +kernel) rfl) pa_nil)))
        (pe_one (pe_callB call_isi (by rfl) T.isi (by decide +kernel) (pa_cons (pe_ix ix_tup (pv 0) pe_int (fun _ _ => rfl)) (pa_cons (pe_bltn (v := .ty "str") (by rfl) T.str (by decide +kernel) rfl) pa_nil)))))))), ?_⟩
    by_cases ht : ∃ l, d = .tup l
    · obtain ⟨l, rfl⟩ := ht
      refine ⟨_, rfl, v, .ty "tuple", _, .type "tuple", true, rfl, .ty "tuple", da.ty, kit_ty (show kitB "tuple" "tuple" = some true by decide +kernel), _, rfl, ?_⟩
      refine iteF ?_
      obtain ⟨a, xs, rfl, hx, hl⟩ := da.tupI
      have lx := hl.len
      refine ⟨_, rfl, a, xs, rfl, .inr hx, rfl, _, rfl, ?_⟩
      by_cases h3 : l.length = 3
      · obtain ⟨d0, d1, d2, rfl⟩ := len3 h3
        obtain ⟨v0, v1, v2, rfl, c0, c1, c2⟩ := hl.three
        · refine iteNS rfl ?_
          rw [trip3] at q
          refine ⟨_, rfl, a, _, _, v0, rfl, rfl, hx, atI_nat (j := 0) rfl, v0, .ty "str", _, .type "str", isStr d0, rfl, .ty "str", c0.ty, kit_ty (kit_isStr d0), _, rfl, ?_⟩
          cases e0 : isStr d0 with
          | false =>
            rw [e0] at q
            exact iteF q
          | true =>
            rw [e0] at q
            refine iteT ⟨_, rfl, a, _, _, v1, rfl, rfl, hx, atI_nat (j := 1) rfl, v1, .ty "str", _, .type "str", isStr d1, rfl, .ty "str", c1.ty, kit_ty (kit_isStr d1), _, rfl, ?_⟩
            cases e1 : isStr d1 with
            | false =>
              rw [e1] at q
              exact iteF q
            | true =>
              rw [e1] at q
              exact iteT ⟨_, rfl, a, _, _, v2, rfl, rfl, hx, atI_nat (j := 2) rfl, v2, .ty "str", _, .type "str", isStr d2, rfl, .ty "str", c2.ty, kit_ty (kit_isStr d2), q⟩
      · have ne : ¬ (V.int (xs.length : Int) = V.int 3) := fun z => by
          rw [V.int.injEq] at z
          omega
        rw [trip_no h3] at q
        rw [decide_eq_false ne]
        exact iteT q
    · have no : ∀ l, d ≠ .tup l := fun l e => ht ⟨l, e⟩
      have e : tripD d = false := by
        cases d with
        | tup l => exact absurd rfl (no l)
        | _ => rfl
      rw [e] at q
      refine ⟨_, rfl, v, .ty "tuple", _, .type "tuple", false, rfl, .ty "tuple", da.ty, kit_ty (kit_tup d no), _, rfl, ?_⟩
      exact iteT (iteT q)
end
end K
set_option Elab.async false
set_option linter.all false
set_option maxRecDepth 100000
set_option maxHeartbeats 4000000
namespace K
open PySem L2 Hk
theorem DaAll.trips {K : PySem.W.Frag} {H : Hp} {xs : List V} {l : List Dt} (h : DaAll K H xs l) (t : l.all tripD = true) {i : Nat} {x : V} (e : xs[i]? = some x) :
    ∃ (a : Addr) (r : R3), (r3s l)[i]? = some r ∧ x = .ref a ∧ SqT K H a [.str r.1, .str r.2.1, .str r.2.2] ∧ r.2.1.length ≤ 1000 := by
  obtain ⟨d, ed, da⟩ := h.at e
  have el := trips_of t
  rw [el, List.getElem?_map] at ed
  obtain ⟨r, er, rfl⟩ := Option.map_eq_some_iff.mp ed
  cases da with
  | tup hx0 hl =>
    have hx : SqT K H _ _ := .inl (.inl hx0)
    obtain ⟨x, y, z, rfl, h1, h2, h3⟩ := hl.three
    cases h1
    cases h2 with
    | str _ hz =>
    cases h3
    exact ⟨_, r, er, rfl, hx, hz⟩
theorem tripsLen {l : List Dt} (t : l.all tripD = true) : (r3s l).length = l.length := by
  have e := congrArg List.length (trips_of t)
  rw [List.length_map] at e
  exact e.symm
theorem known_is (names : List Str) (x : Str) : (valV (marks (names.map Sum.inr)) (Sum.inr x)).isSome = decide (x ∈ names) := by
  rw [marks_get, Bool.eq_iff_iff, memK_iff, decide_eq_true_eq, List.mem_map]
  exact ⟨fun ⟨y, hy, e⟩ => by cases e; exact hy, fun h => ⟨x, h, rfl⟩⟩
def keyOk : Key → Bool
  | .inr x => wordOk 8 x
  | .inl _ => false
theorem all_marks (ks : List Key) (f : Key → Bool) : ((marks ks).map fun p => f p.1).all id = ks.all f := by
  rw [Bool.eq_iff_iff, List.all_eq_true, List.all_eq_true]
  constructor
  · intro h k hk
    have m := (marks_keys ks k).mpr hk
    obtain ⟨p, hp, e⟩ := List.mem_map.mp m
    have q := h _ (List.mem_map.mpr ⟨p, hp, rfl⟩)
    rw [e] at q
    exact q
  · intro h b hb
    obtain ⟨p, hp, rfl⟩ := List.mem_map.mp hb
    exact h _ ((marks_keys ks p.1).mp (List.mem_map.mpr ⟨p, hp, rfl⟩))
section
variable {P : Program} {w : World} {K : PySem.W.Frag} {mg : Str → Option Value} {base : Heap} {f fR fW fT : Addr} {fd fdR fdW fdT : FuncData} {ds : List Value}
abbrev nAR : List Str := ["value", "names", "known", "words", "right", "name", "one", "_", "other", "word"]
theorem scAreRights : FnScope nAR ["value", "names"] (defScope sAreRights) := ⟨rfl, rfl, rfl, by decide +kernel, rfl, by decide +kernel, by decide +kernel⟩
theorem ok_are_rights (F : Fun K "are_rights" "are_rights" sAreRights f fd) (T : TxtR K mg fR fW fT)
    (GR : FnOk P w K mg base CX0 1 fR fdR ["value"] (spIsRow K)) (bR : Binds K fdR ["value"] []) (GW : FnOk P w K mg base CX0 1 fW fdW ["value", "longest"] (spIsWord K)) (bW : Binds K fdW ["value", "longest"] ds) (vW : Vals [.int 8] ds)
    (GT : FnOk P w K mg base CX0 1 fT fdT ["value"] (spIsTriple K)) (bT : Binds K fdT ["value"] []) :
    FnOk P w K mg base CX0 2 f fd ["value", "names"] (spAreRights K) := by
  refine F.ok scAreRights (fun vs H Q E h => ?_) (fun cdv A outer s H vs Q E hr h => ?_)
  · obtain ⟨v, d, b, names, rfl, _⟩ := h
    rfl
  · obtain ⟨v, d, b, names, rfl, da, hn, sm, ln, q⟩ := h
    refine ⟨_, pss_cons (ps_if (PW.pt (pw_or (pt_not (pt_val (pe_call GR hr (by rfl) T.w.gR T.w.kR bR .nil pass0 (pa_cons (pv 0) pa_nil))))
        (pw_or1 (pt_not (pt_val (pe_callB (cr_all rfl) (by rfl) T.w.f.all (by decide +kernel) (pa_cons
          (pe_lc (own := [("right", 4)]) (g := gName 4) (tt := tYes) rfl scAreRights.nd (pi_seq (pv 0)) (blkOk_by (N := nAR) (sc := defScope sAreRights) (by decide +kernel))
            (fun _ _ _ _ _ => pg_name (i := 4) scAreRights.nd rfl (Or.inl rfl)) (fun _ _ _ _ _ => pts_nil)
            (fun _ _ _ _ _ => pe_call GT hr (by rfl) T.gT T.kT bT .nil pass0 (pa_cons (pv 4) pa_nil))) pa_nil))))))) (pss_one (ps_ret pe_bl)) pss_nil)
      (pss_cons (ps_set (i := 2) scAreRights.nd rfl (Or.inr rfl)
        (pe_dc (own := [("name", 5)]) (g := gName 5) (tt := tYes) rfl scAreRights.nd (pi_seq (pv 1)) (blkOk_by (N := nAR) (sc := defScope sAreRights) (by decide +kernel))
          (fun _ _ _ _ _ => pg_name (i := 5) scAreRights.nd rfl (Or.inl rfl)) (fun _ _ _ _ _ => pts_nil) (fun _ _ _ _ _ => pv 5) (fun _ _ _ _ _ => pe_bl)))
      (pss_cons (ps_if (pt_not (pt_val (pe_callB (cr_all rfl) (by rfl) T.w.f.all (by decide +kernel) (pa_cons
          (pe_lc (own := [("one", 6), ("_", 7), ("other", 8)]) (g := gTup K 3 (gCons (gName 6) (gCons (gName 7) (gCons (gName 8) gNil)))) (tt := tYes) rfl scAreRights.nd (pi_seq (pv 0)) (blkOk_by (N := nAR) (sc := defScope sAreRights) (by decide +kernel))
            (fun _ _ _ _ _ => pg_tup rfl (pgs_cons (pg_name (i := 6) scAreRights.nd rfl (Or.inl rfl)) (pgs_cons (pg_name (i := 7) scAreRights.nd rfl (Or.inl rfl)) (pgs_cons (pg_name (i := 8) scAreRights.nd rfl (Or.inl rfl)) pgs_nil)))) (fun _ _ _ _ _ => pts_nil)
            (fun _ _ _ _ _ => pe_and (pe_cmp (pc_din (hu_of hr) (pv 6) (pv 2)) rfl) (pe_one (pe_cmp (pc_din (hu_of hr) (pv 8) (pv 2)) rfl)))) pa_nil)))) (pss_one (ps_ret pe_bl)) pss_nil)
      (pss_cons (ps_setDc (i := 3) (own := [("right", 4)]) (g := gName 4) (tt := tYes) (tk := tOp (rIxT K) (tVar 4) (tC (.int 1))) rfl scAreRights.nd rfl rfl (sw_dict rfl rfl rfl (by decide +kernel)) (pi_seq (pv 0)) (blkOk_by (N := nAR) (sc := defScope sAreRights) (by decide +kernel))
          (fun _ _ _ _ _ => pg_name (i := 4) scAreRights.nd rfl (Or.inl rfl)) (fun _ _ _ _ _ => pts_nil) (fun _ _ _ _ _ => pe_ix ix_tup (pv 4) pe_int (fun _ _ => rfl)) (fun _ _ _ _ _ => pe_bl))
      (pss_one (ps_ret (pe_callB (cr_all rfl) (by rfl) T.w.f.all (by decide +kernel) (pa_cons (pe_lock
          (pe_lc (own := [("word", 9)]) (g := gName 9) (tt := tYes) rfl scAreRights.nd (pi_keys (pv 3)) (blkOk_by (N := nAR) (sc := defScope sAreRights) (by decide +kernel))
            (fun _ _ _ _ _ => pg_name (i := 9) scAreRights.nd rfl (Or.inl rfl)) (fun _ _ _ _ _ => pts_nil)
            (fun _ _ _ _ _ => pe_call GW hr (by rfl) T.w.gW T.w.kW bW vW pass0 (pa_cons (pv 9) pa_nil)))) pa_nil))))))), ?_⟩
    refine ⟨_, rfl, v, tyOf d, (rowD d).isSome, rfl, da.ty, kit_row K d, fun H1 s1 => ⟨_, rfl, ?_⟩⟩
    cases er : rowD d with
    | none =>
      refine iteT (iteT ?_)
      have e : rightsD names d = false := by
        unfold rightsD
        rw [er]
      rw [e] at q
      exact q H1 s1
    | some l =>
      refine iteF ?_
      have sm2 := sm l er
      obtain ⟨b0, a, xs, rfl, hx, hl⟩ := da.row er
      have hx1 := hx.same s1
      have hl1 := hl.same s1
      have lx := hl.len
      refine ⟨_, rfl, b0, a, xs, rfl, hx1, fun J wk D hD => lcX wk hD (fun i acc H => acc = ((l.take i).map tripD).map V.bl) (by rw [sizeLine_eq]; omega) (fun _ _ _ _ r _ => r) (by simp) (fun H2 s2 => hx1.same s2) ?_ ?_⟩
      · intro i x H2 acc hi ex s2 e r Nx yes no
        refine ⟨rfl, tYes_ok ?_⟩
        obtain ⟨dx, ed, dax⟩ := hl1.at ex
        have up : l.take (i + 1) = l.take i ++ [dx] := take_up ed
        refine ⟨_, rfl, x, dx, rfl, Da.same s2 dax, yes _ _ (Same.refl _) ?_⟩
        rw [r, up]
        simp
      · intro H2 acc s2 e r
        have r2 : acc = (l.map tripD).map V.bl := by
          rw [r, lx, List.take_length]
        rw [r2] at e
        refine ⟨D, l.map tripD, rfl, SqL.of e, _, rfl, ?_⟩
        have s3 : Same H H2 := s1.trans s2
        have ea : (l.map tripD).all id = l.all tripD := by rw [List.all_map]; rfl
        rw [ea]
        cases w1 : l.all tripD with
        | false =>
          refine iteT ?_
          have ew : rightsD names d = false := by
            unfold rightsD
            rw [er]
            simp [w1]
          rw [ew] at q
          exact q H2 s3
        | true =>
          refine iteF ?_
          have ew : rightsD names d = ((r3s l).all (okR names) && (r3s l).all fun r => wordOk 8 r.2.1) := by
            unfold rightsD
            rw [er]
            simp [w1]
          rw [ew] at q
          have lr := tripsLen w1
          -- known
          have hn2 := s3.seq hn
          refine ⟨_, rfl, true, b, names.map V.str, rfl, hn2, fun J wk D2 hD2 => dcX wk hD2 (fun i kvs H => kvs = marks ((names.take i).map Sum.inr)) (by rw [List.length_map, sizeLine_eq]; omega) (fun _ _ _ _ r _ => r) (by rfl) (fun H3 s => s.seq hn2) ?_ ?_⟩
          · intro i x H3 kvs hi ex s4 e4 r4 Nx yes no
            rw [List.getElem?_map] at ex
            obtain ⟨nm, en, rfl⟩ := Option.map_eq_some_iff.mp ex
            refine ⟨rfl, tYes_ok2 ⟨_, rfl, ?_⟩⟩
            refine yes (Sum.inr nm) (.bl true) H3 (Same.refl _) ?_
            rw [r4, take_up en, List.map_append]
            exact (marks_snoc _ _).symm
          · intro H3 kvs s4 e4 r4
            rw [List.length_map, List.take_length] at r4
            rw [r4] at e4
            have s5 : Same H H3 := s3.trans s4
            have hx3 := hx.same s5
            have hl3 := hl.same s5
            refine ⟨_, rfl, b0, a, xs, rfl, hx3, fun J wk D3 hD3 => lcX wk hD3 (fun i acc H => acc = (((r3s l).take i).map (okR names)).map V.bl) (by rw [sizeLine_eq]; omega) (fun _ _ _ _ r _ => r) (by simp) (fun H2 s2 => hx3.same s2) ?_ ?_⟩
            · intro i x H4 acc hi ex s6 e6 r6 Nx yes no
              obtain ⟨t, r, hr3, rfl, ht, _⟩ := (hl3.same s6).trips w1 ex
              refine ⟨t, _, rfl, ht, rfl, _, _, rfl, _, _, rfl, _, _, rfl, rfl, rfl, tYes_ok ?_⟩
              have e7 := s6 _ _ e4
              refine ⟨_, rfl, _, rfl, D2, _, rfl, DGet.k (k := Sum.inr r.1) e7, _, rfl, ?_⟩
              have fin : acc ++ [V.bl (okR names r)] = (((r3s l).take (i + 1)).map (okR names)).map V.bl := by
                rw [r6, take_up hr3]
                simp
              rw [known_is]
              cases k1 : decide (r.1 ∈ names) with
              | false =>
                refine iteF (yes _ _ (Same.refl _) ?_)
                rw [← fin]
                unfold okR
                rw [k1]
                rfl
              | true =>
                refine iteT ⟨_, rfl, _, rfl, D2, _, rfl, DGet.k (k := Sum.inr r.2.2) e7, yes _ _ (Same.refl _) ?_⟩
                rw [known_is, ← fin]
                unfold okR
                rw [k1]
                rfl
            · intro H4 acc s6 e6 r6
              have r7 : acc = ((r3s l).map (okR names)).map V.bl := by
                rw [r6, lx, ← lr, List.take_length]
              rw [r7] at e6
              refine ⟨D3, (r3s l).map (okR names), rfl, SqL.of e6, _, rfl, ?_⟩
              have ea2 : ((r3s l).map (okR names)).all id = (r3s l).all (okR names) := by rw [List.all_map]; rfl
              rw [ea2]
              have s7 : Same H H4 := s5.trans s6
              cases w2 : (r3s l).all (okR names) with
              | false =>
                refine iteT ?_
                rw [w2] at q
                exact q H4 s7
              | true =>
                refine iteF ?_
                rw [w2, Bool.true_and] at q
                have hx4 := hx.same s7
                have hl4 := hl.same s7
                refine ⟨_, rfl, b0, a, xs, rfl, hx4, fun J wk D4 hD4 => dcX wk hD4 (fun i kvs H => kvs = marks (((r3s l).take i).map fun r => Sum.inr r.2.1)) (by rw [sizeLine_eq]; omega) (fun _ _ _ _ r _ => r) (by rfl) (fun H3 s => hx4.same s) ?_ ?_⟩
                · intro i x H5 kvs hi ex s8 e8 r8 Nx yes no
                  obtain ⟨t, r, hr3, rfl, ht, _⟩ := (hl4.same s8).trips w1 ex
                  refine ⟨rfl, tYes_ok2 ⟨_, rfl, t, _, _, _, rfl, rfl, ht, atI_nat (j := 1) rfl, ?_⟩⟩
                  refine yes (Sum.inr r.2.1) (.bl true) H5 (Same.refl _) ?_
                  rw [r8, take_up hr3, List.map_append]
                  exact (marks_snoc _ _).symm
                · intro H5 kvs s8 e8 r8
                  rw [lx, ← lr, List.take_length] at r8
                  subst r8
                  have s9 : Same H H5 := s7.trans s8
                  have len8 : ((r3s l).map fun r => (Sum.inr r.2.1 : Key)).length = l.length := by rw [List.length_map, lr]
                  have small : (marks ((r3s l).map fun r => (Sum.inr r.2.1 : Key))).length < sizeLine := by
                    have q1 := marks_len ((r3s l).map fun r => (Sum.inr r.2.1 : Key))
                    rw [sizeLine_eq]
                    omega
                  -- each key is a word of a right
                  have word : ∀ p ∈ marks ((r3s l).map fun r => (Sum.inr r.2.1 : Key)), ∃ z : Str, p.1 = Sum.inr z ∧ z.length ≤ 1000 := fun p hp => by
                    have m := (marks_keys _ p.1).mp (List.mem_map.mpr ⟨p, hp, rfl⟩)
                    obtain ⟨r, hr3, e⟩ := List.mem_map.mp m
                    obtain ⟨i, hi, ei⟩ := List.getElem_of_mem hr3
                    have ix : i < xs.length := by rw [lx, ← lr]; exact hi
                    obtain ⟨t, r', er', _, _, small'⟩ := hl4.trips w1 (List.getElem?_eq_getElem ix)
                    rw [List.getElem?_eq_getElem hi, ei] at er'
                    cases er'
                    exact ⟨_, e.symm, small'⟩
                  have bridge : (r3s l).all (fun r => wordOk 8 r.2.1) = ((marks ((r3s l).map fun r => (Sum.inr r.2.1 : Key))).map fun p => keyOk p.1).all id := by
                    rw [all_marks, List.all_map]
                    rfl
                  rw [bridge] at q
                  generalize marks ((r3s l).map fun r => (Sum.inr r.2.1 : Key)) = kvs at e8 small word q
                  refine ⟨D4, .dK kvs, e8, trivial, fun od => ?_⟩
                  refine ⟨_, rfl, D4, od, rfl, .inl ⟨kvs, upd_same, fun D5 hD5 => lcX walk_keysX hD5 (fun i acc H => acc = ((kvs.take i).map fun p => keyOk p.1).map V.bl) small (fun _ _ _ _ r _ => r) (by simp) (fun H6 s => s _ _ upd_same) ?_ ?_⟩⟩
                  · intro i x H6 acc hi ex s10 e10 r10 Nx yes no
                    rw [List.getElem?_map] at ex
                    obtain ⟨p, ep, rfl⟩ := Option.map_eq_some_iff.mp ex
                    obtain ⟨z, ez, lz⟩ := word p (List.mem_of_getElem? ep)
                    refine ⟨rfl, tYes_ok ⟨_, rfl, _, 8, rfl, .inl ⟨z, by rw [ez]; rfl, by rw [sizeLine_eq]; omega, yes _ _ (Same.refl _) ?_⟩⟩⟩
                    rw [r10, take_up ep]
                    simp [keyOk, ez]
                  · intro H6 acc s10 e10 r10
                    rw [List.take_length] at r10
                    have ne : D5 ≠ D4 := fun z => by
                      rw [z, upd_same] at hD5
                      cases hD5
                    refine ⟨s10 _ _ upd_same, D5, kvs.map fun p => keyOk p.1, rfl, SqL.of (by rw [upd_ne ne, e10, r10]), ?_⟩
                    refine q _ fun c o e => ?_
                    by_cases hc : c = D4
                    · rw [hc] at e ⊢
                      have q5 := s9 _ _ e
                      rw [e8] at q5
                      cases q5
                      exact upd_same
                    · rw [upd_ne hc]
                      refine s10 _ _ ?_
                      rw [upd_ne hc]
                      exact s9 _ _ e
end
end K
set_option Elab.async false
set_option linter.all false
set_option maxRecDepth 100000
set_option maxHeartbeats 4000000
/-! Rights in their normal form. -/
namespace K
open PySem L2 Hk
def kR (r : R3) : List Str := [r.1, r.2.1, r.2.2]
def kK (r : R3) : List Key := [Sum.inr r.1, Sum.inr r.2.1, Sum.inr r.2.2]
def leR (r s : R3) : Bool := leS (kR r) (kR s)
theorem kR_inj {r s : R3} (h : kR r = kR s) : r = s := by
  obtain ⟨a, b, c⟩ := r
  obtain ⟨x, y, z⟩ := s
  simp [kR] at h
  obtain ⟨rfl, rfl, rfl⟩ := h
  rfl
theorem leR_anti {r s : R3} (h1 : leR r s = true) (h2 : leR s r = true) : r = s := kR_inj (leS_anti h1 h2)
def ded : List R3 → List R3
  | [] => []
  | r :: l => if r ∈ l then ded l else r :: ded l
theorem mem_ded {x : R3} : ∀ {l : List R3}, x ∈ ded l ↔ x ∈ l
  | [] => Iff.rfl
  | r :: l => by
    unfold ded
    split
    · rename_i h
      rw [mem_ded, List.mem_cons]
      exact ⟨.inr, fun z => z.elim (fun e => e ▸ h) id⟩
    · rw [List.mem_cons, List.mem_cons, mem_ded]
theorem nd_ded : ∀ (l : List R3), (ded l).Nodup
  | [] => List.nodup_nil
  | r :: l => by
    unfold ded
    split
    · exact nd_ded l
    · rename_i h
      exact List.nodup_cons.mpr ⟨fun z => h (mem_ded.mp z), nd_ded l⟩
theorem len_ded : ∀ (l : List R3), (ded l).length ≤ l.length
  | [] => Nat.le_refl _
  | r :: l => by
    unfold ded
    have := len_ded l
    split
    · rw [List.length_cons]; omega
    · rw [List.length_cons, List.length_cons]; omega
/-- ascending, each once -/
def nrm (l : List R3) : List R3 := (ded l).mergeSort leR
theorem leR_total (r s : R3) : leR r s = true ∨ leR s r = true := by
  have := leS_total.total (kR r) (kR s)
  simpa [leR] using this
theorem leR_trans {a b c : R3} (h1 : leR a b = true) (h2 : leR b c = true) : leR a c = true := leS_total.trans _ _ _ h1 h2
theorem nrm_pw (l : List R3) : (nrm l).Pairwise fun a b => leR a b = true :=
  List.pairwise_mergeSort (le := leR) (fun _ _ _ => leR_trans) (fun (a b : R3) => by have z := leR_total a b; rw [Bool.or_eq_true]; exact z) _
theorem nrm_perm (l : List R3) : (nrm l).Perm (ded l) := List.mergeSort_perm _ _
theorem nrm_nd (l : List R3) : (nrm l).Nodup := (nrm_perm l).nodup_iff.mpr (nd_ded l)
theorem mem_nrm {x : R3} {l : List R3} : x ∈ nrm l ↔ x ∈ l := (nrm_perm l).mem_iff.trans mem_ded
theorem nrm_len (l : List R3) : (nrm l).length ≤ l.length := by
  rw [(nrm_perm l).length_eq]
  exact len_ded l
theorem nrm_is {M l : List R3} (nd : M.Nodup) (hm : ∀ x, x ∈ M ↔ x ∈ l) (pw : M.Pairwise fun a b => leR a b = true) : M = nrm l :=
  sorted_one leR_anti pw (nrm_pw l) ((List.perm_ext_iff_of_nodup nd (nrm_nd l)).mpr fun x => (hm x).trans mem_nrm.symm)
theorem nrm_congr {l m : List R3} (h : ∀ x, x ∈ l ↔ x ∈ m) : nrm l = nrm m := nrm_is (nrm_nd l) (fun x => mem_nrm.trans (h x)) (nrm_pw l)
theorem nrm_nrm (l : List R3) : nrm (nrm l) = nrm l := nrm_congr fun _ => mem_nrm
theorem nrm_self {l : List R3} (nd : l.Nodup) (pw : l.Pairwise fun a b => leR a b = true) : nrm l = l := (nrm_is nd (fun _ => Iff.rfl) pw).symm
/-- words in order -/
theorem sortT_perm (l : List Str) : (l.mergeSort leT).Perm l := List.mergeSort_perm _ _
theorem sortT_pw (l : List Str) : (l.mergeSort leT).Pairwise fun a b => leT a b = true :=
  List.pairwise_mergeSort (le := leT) (fun a b c => leT_total.trans a b c) (fun (a b : Str) => by have z := leT_total.total a b; simpa using z) _
theorem sortT_is {l m : List Str} (h : l.Perm m) : l.mergeSort leT = m.mergeSort leT := sorted_one leT_anti (sortT_pw l) (sortT_pw m) ((sortT_perm l).trans (h.trans (sortT_perm m).symm))
theorem sortT_self (l : List Str) : (l.mergeSort leT).mergeSort leT = l.mergeSort leT := sortT_is (sortT_perm l)
/-! ### tuples of three texts on the heap -/
def unR (k : List Key) : R3 := match k with
  | [.inr a, .inr b, .inr c] => (a, b, c)
  | _ => (Str.ofString "", Str.ofString "", Str.ofString "")
theorem unR_kK (r : R3) : unR (kK r) = r := rfl
theorem unK_kK (r : R3) : unK (kK r) = kR r := rfl
theorem kK_inj {r s : R3} (h : kK r = kK s) : r = s := by rw [← unR_kK r, h, unR_kK]
def lenR (r : R3) : Prop := r.1.length ≤ 1000 ∧ r.2.1.length ≤ 1000 ∧ r.2.2.length ≤ 1000
section
variable {K : PySem.W.Frag} {H : Hp}
theorem trip_kt : ∀ {xs : List V} {rs : List R3}, DaAll K H xs (rs.map dtR) → ∃ ks : List KT, xs = ks.map (fun p => V.ref p.1) ∧ ks.map (·.2) = rs.map kK ∧ (∀ p ∈ ks, H p.1 = some (.tup (p.2.map kV))) ∧ ∀ r ∈ rs, lenR r
  | _, [], .nil => ⟨[], rfl, rfl, fun p hp => (List.not_mem_nil hp).elim, fun r hr => (List.not_mem_nil hr).elim⟩
  | _, r :: rs, .cons h t => by
    obtain ⟨ks, e1, e2, e3, e4⟩ := trip_kt t
    cases h with
    | @tup a ys _ hq hl =>
      obtain ⟨x, y, z, rfl, h1, h2, h3⟩ := hl.three
      cases h1 with
      | str _ l1 =>
      cases h2 with
      | str _ l2 =>
      cases h3 with
      | str _ l3 =>
      refine ⟨(a, kK r) :: ks, by rw [e1]; rfl, by rw [List.map_cons, List.map_cons, e2], fun p hp => ?_, fun s hs => ?_⟩
      · rcases List.mem_cons.mp hp with rfl | hp
        · exact hq
        · exact e3 p hp
      · rcases List.mem_cons.mp hs with rfl | hs
        · exact ⟨l1, l2, l3⟩
        · exact e4 s hs
theorem da_trip {a : Addr} {r : R3} (h : H a = some (.tup ((kK r).map kV))) (l : lenR r) : Da K H (.ref a) (dtR r) := .tup h (.cons (.str _ l.1) (.cons (.str _ l.2.1) (.cons (.str _ l.2.2) .nil)))
theorem kt_trip : ∀ {M : List KT} , (∀ q ∈ M, ∃ r, q.2 = kK r ∧ lenR r ∧ H q.1 = some (.tup (q.2.map kV))) → DaAll K H (M.map fun q => V.ref q.1) ((M.map fun q => unR q.2).map dtR)
  | [], _ => .nil
  | q :: M, h => by
    obtain ⟨r, e, l, hq⟩ := h q List.mem_cons_self
    refine .cons ?_ (kt_trip fun p hp => h p (List.mem_cons_of_mem _ hp))
    show Da K H (V.ref q.1) (dtR (unR q.2))
    rw [e] at hq
    rw [e, unR_kK]
    exact da_trip hq l
/-- sorted(set(x)) of rights -/
theorem set_sort {P : Program} {w : World} {l : Addr} {xs : List V} {rs : List R3} {Q : VK} (hx : SqL K H l xs ∨ SqT K H l xs) (da : DaAll K H xs (rs.map dtR)) (few : rs.length < 64)
    (q : ∀ H' p ys, Same H H' → H p = none → H' p = some (.lst ys) → DaAll K H' ys ((nrm rs).map dtR) → Q (.ref p) H') : rSetT K P w [.ref l] H (fun y H1 => rSortKO K P w [y] H1 Q) := by
  obtain ⟨ks, rfl, e2, e3, e4⟩ := trip_kt da
  have lk : ks.length = rs.length := by
    have := congrArg List.length e2
    rwa [List.length_map, List.length_map] at this
  have ofK : ∀ p ∈ ks, ∃ r ∈ rs, p.2 = kK r := fun p hp => by
    have m : p.2 ∈ rs.map kK := by
      rw [← e2]
      exact List.mem_map.mpr ⟨p, hp, rfl⟩
    obtain ⟨r, hr, e⟩ := List.mem_map.mp m
    exact ⟨r, hr, e.symm⟩
  refine ⟨l, ks, rfl, hx, fun p hp => .inl (.inl (e3 p hp)), by omega, fun a L ha sub cov nd => ?_⟩
  have s1 : Same H (upd H a (SetKO P w a L)) := Same.fresh (Same.refl _) ha
  refine ⟨a, L, 2, rfl, upd_same, fun p hp => .inl (.inl (s1 _ _ (e3 p (sub p hp)))), fun p hp => ?_, fun M p pm ndM pw hp => ?_⟩
  · obtain ⟨r, _, e⟩ := ofK p (sub p hp)
    exact ⟨kR r, e, rfl⟩
  · have s2 : Same H (upd (upd H a (SetKO P w a L)) p (.lst (M.map fun q => V.ref q.1))) := Same.fresh s1 hp
    have inM : ∀ q ∈ M, ∃ r ∈ rs, q.2 = kK r ∧ H q.1 = some (.tup (q.2.map kV)) := fun q hq => by
      have hk := sub q (pm.mem_iff.mp hq)
      obtain ⟨r, hr, e⟩ := ofK q hk
      exact ⟨r, hr, e, e3 q hk⟩
    have e5 : (M.map fun q => unR q.2) = nrm rs := by
      refine nrm_is ?_ (fun x => ⟨fun hx => ?_, fun hx => ?_⟩) ?_
      · refine List.pairwise_map.mpr ?_
        have n2 := List.pairwise_map.mp ndM
        refine List.Pairwise.imp_of_mem (fun {q r} hq hr ne => ?_) n2
        obtain ⟨a1, _, ea, _⟩ := inM q hq
        obtain ⟨b1, _, eb, _⟩ := inM r hr
        rw [ea, eb, unR_kK, unR_kK]
        intro e
        apply ne
        rw [ea, eb, e]
      · obtain ⟨q, hq, rfl⟩ := List.mem_map.mp hx
        obtain ⟨r, hr, e, _⟩ := inM q hq
        rw [e, unR_kK]
        exact hr
      · have m : kK x ∈ ks.map (·.2) := by
          rw [e2]
          exact List.mem_map.mpr ⟨x, hx, rfl⟩
        obtain ⟨p0, hp0, e0⟩ := List.mem_map.mp m
        have m2 := cov p0 hp0
        have m3 : p0.2 ∈ M.map (·.2) := (pm.map (·.2)).mem_iff.mpr m2
        obtain ⟨q, hq, eq⟩ := List.mem_map.mp m3
        refine List.mem_map.mpr ⟨q, hq, ?_⟩
        have e0' : p0.2 = kK x := e0
        rw [show q.2 = kK x from eq.trans e0', unR_kK]
      · refine List.pairwise_map.mpr (List.Pairwise.imp_of_mem (fun {q r} hq hr le => ?_) pw)
        obtain ⟨a1, _, ea, _⟩ := inM q hq
        obtain ⟨b1, _, eb, _⟩ := inM r hr
        rw [ea, eb, unK_kK, unK_kK] at le
        rw [ea, eb, unR_kK, unR_kK]
        exact le
    have np : H p = none := by
      by_cases hpa : p = a
      · rw [hpa]
        exact ha
      · rw [upd_ne hpa] at hp
        exact hp
    refine q _ p _ s2 np upd_same ?_
    rw [← e5]
    refine kt_trip fun q hq => ?_
    obtain ⟨r, hr, e, hs⟩ := inM q hq
    exact ⟨r, e, e4 r hr, s2 _ _ hs⟩
theorem set_sortC {P : Program} {w : World} {l : Addr} {xs : List V} {rs : List R3} {Q R : VK} (hR : ∀ y H1, rSortKO K P w [y] H1 Q → R y H1) (hx : SqL K H l xs ∨ SqT K H l xs) (da : DaAll K H xs (rs.map dtR)) (few : rs.length < 64)
    (q : ∀ H' p ys, Same H H' → H p = none → H' p = some (.lst ys) → DaAll K H' ys ((nrm rs).map dtR) → Q (.ref p) H') : rSetT K P w [.ref l] H R := by
  obtain ⟨l', ks, e, h1, h2, h3, h4⟩ := set_sort (P := P) (w := w) hx da few q
  exact ⟨l', ks, e, h1, h2, h3, fun a L n s c d => hR _ _ (h4 a L n s c d)⟩
end
end K
set_option Elab.async false
set_option linter.all false
set_option maxRecDepth 100000
set_option maxHeartbeats 4000000
/-! States: how one is made. -/
namespace K
open PySem L2 Hk
def lD (d : Dt) : List Dt := (rowD d).getD []
def sD (d : Dt) : List Str := strsD (lD d)
/-- what of a state does not fit -/
def errD (dp dt dr : Dt) : Option Str :=
  if wordsD 8 dp = false then some "people" else
  if wordsD 8 dt = false then some "things" else
  if ((sD dt).any fun x => decide (x ∈ sD dp)) = true then some "things" else
  if (sD dp).length + (sD dt).length = 0 then some "parties" else
  if rightsD (sD dp ++ sD dt) dr = false then some "rights" else none
def flds (p t r : Addr) : List (Str × V) := putF "rights" (.ref r) (putF "things" (.ref t) (putF "people" (.ref p) []))
theorem f_pt : ¬ (("people" : Str) = "things") := by decide +kernel
theorem f_pr : ¬ (("people" : Str) = "rights") := by decide +kernel
theorem f_tr : ¬ (("things" : Str) = "rights") := by decide +kernel
theorem flds_p (p t r : Addr) : (flds p t r).lookup ("people" : Str) = some (.ref p) := by
  unfold flds
  rw [lookup_putF, if_neg f_pr, lookup_putF, if_neg f_pt, lookup_putF, if_pos rfl]
theorem flds_t (p t r : Addr) : (flds p t r).lookup ("things" : Str) = some (.ref t) := by
  unfold flds
  rw [lookup_putF, if_neg f_tr, lookup_putF, if_pos rfl]
theorem flds_r (p t r : Addr) : (flds p t r).lookup ("rights" : Str) = some (.ref r) := by
  unfold flds
  rw [lookup_putF, if_pos rfl]
theorem flds_no (p t r : Addr) {m : Str} (h1 : ¬ m = "people") (h2 : ¬ m = "things") (h3 : ¬ m = "rights") : (flds p t r).lookup m = none := by
  unfold flds
  rw [lookup_putF, if_neg h3, lookup_putF, if_neg h2, lookup_putF, if_neg h1]
  all_goals rfl
/-- a state at a -/
structure StAt (K : PySem.W.Frag) (CS : Addr) (H : Hp) (a : Addr) (ps ts : List Str) (rs : List R3) : Prop where
  ex : ∃ (dx p t r : Addr) (xs : List V), H a = some (.ins CS dx (flds p t r)) ∧ H p = some (.lst (ps.map V.str)) ∧ H t = some (.lst (ts.map V.str)) ∧ H r = some (.lst xs) ∧ DaAll K H xs (rs.map dtR)
  lp : ∀ x ∈ ps, x.length ≤ 1000
  lt : ∀ x ∈ ts, x.length ≤ 1000
  sp : ps.length < 1000
  st : ts.length < 1000
  sr : rs.length < 64
theorem StAt.same {K : PySem.W.Frag} {CS : Addr} {H H' : Hp} {a : Addr} {ps ts : List Str} {rs : List R3} (S : StAt K CS H a ps ts rs) (s : Same H H') : StAt K CS H' a ps ts rs := by
  obtain ⟨⟨dx, p, t, r, xs, h1, h2, h3, h4, h5⟩, lp, lt, sp, st, sr⟩ := S
  exact ⟨⟨dx, p, t, r, xs, s _ _ h1, s _ _ h2, s _ _ h3, s _ _ h4, DaAll.same s h5⟩, lp, lt, sp, st, sr⟩
/-- the error of class C with field f = v lies at d -/
def ErrAt (H : Hp) (d : Addr) (f : Str) (v : V) : Prop := H d = some (.xd [(f, v)])
/-- State(people, things, rights) -/
def spInit (K : PySem.W.Frag) (CS CB : Addr) : Sp := fun vs H Q E => ∃ (a dx : Addr) (vp vt vr : V) (dp dt dr : Dt), vs = [.ref a, vp, vt, vr] ∧ H a = some (.ins CS dx []) ∧ Da K H vp dp ∧ Da K H vt dt ∧ Da K H vr dr ∧
  (∀ l, rowD dp = some l → l.length < 1000) ∧ (∀ l, rowD dt = some l → l.length < 1000) ∧ (∀ l, rowD dr = some l → l.length < 64) ∧
  (∀ e, errD dp dt dr = some e → ∀ d H', Same H H' → H d = none → ErrAt H' d "part" (.str e) → E (.ref CB) (some d) H') ∧
  (errD dp dt dr = none → ∀ H', But a H H' → StAt K CS H' a ((sD dp).mergeSort leT) ((sD dt).mergeSort leT) (nrm (r3s (lD dr))) → Q .non H')
structure TxtS (P : Program) (K : PySem.W.Frag) (mg : Str → Option Value) (fR fW fT fAW fAR CS CB fB cB cdB : Addr) (fdB : FuncData) : Prop where
  r : TxtR K mg fR fW fT
  gAW : mg "are_words" = some (.ref fAW)
  kAW : PySem.W.keepIn K (.ref fAW) = true
  gAR : mg "are_rights" = some (.ref fAR)
  kAR : PySem.W.keepIn K (.ref fAR) = true
  cl : Cls K CS
  nP : NoAttr K CS "people"
  nT : NoAttr K CS "things"
  nR : NoAttr K CS "rights"
  gS : mg "State" = some (.ref CS)
  gB : mg "BadState" = some (.ref CB)
  B : BadTxt P K mg CB fB cB cdB "part" "this is no state" "BadState.__init__" fdB
  bB : Binds K fdB ["self", "part"] []
theorem SqX.butI {K : PySem.W.Frag} {H H' : Hp} {b : Bool} {d a C dx : Addr} {fs : List (Str × V)} {xs : List V} (h : SqX K H b a xs) (hi : H d = some (.ins C dx fs)) (s : But d H H') : SqX K H' b a xs := by
  have ne : ∀ {o : HO}, H a = some o → (∀ C dx fs, o ≠ .ins C dx fs) → a ≠ d := fun {o} e n z => by
    rw [z, hi] at e
    cases e
    exact n _ _ _ rfl
  cases b with
  | true =>
    rcases (show SqL K H a xs from h) with (h | ⟨o, h⟩) | h
    · exact SqX.list (.inl (.inl (s _ _ (ne h (fun _ _ _ z => nomatch z)) h)))
    · exact SqX.list (.inl (.inr ⟨o, s _ _ (ne h (fun _ _ _ z => nomatch z)) h⟩))
    · exact SqX.list (.inr h)
  | false =>
    rcases (show SqT K H a xs from h) with (h | ⟨o, h⟩) | h
    · exact SqX.tup (.inl (.inl (s _ _ (ne h (fun _ _ _ z => nomatch z)) h)))
    · exact SqX.tup (.inl (.inr ⟨o, s _ _ (ne h (fun _ _ _ z => nomatch z)) h⟩))
    · exact SqX.tup (.inr h)
mutual
theorem Da.butI {K : PySem.W.Frag} {H H' : Hp} {d C dx : Addr} {fs : List (Str × V)} (hi : H d = some (.ins C dx fs)) (s : But d H H') : ∀ {v : V} {t : Dt}, Da K H v t → Da K H' v t
  | _, _, .non => .non
  | _, _, .dct (a := a) h => .dct (s _ _ (fun z => by rw [z, hi] at h; cases h) h)
  | _, _, .int i => .int i
  | _, _, .str x l => .str x l
  | _, _, .lst h l => .lst (SqX.butI (b := true) h hi s) (DaAll.butI hi s l)
  | _, _, .tup h l => .tup (s _ _ (fun z => by rw [z, hi] at h; cases h) h) (DaAll.butI hi s l)
  | _, _, .nul h => .nul (SqX.butI (b := false) h hi s)
theorem DaAll.butI {K : PySem.W.Frag} {H H' : Hp} {d C dx : Addr} {fs : List (Str × V)} (hi : H d = some (.ins C dx fs)) (s : But d H H') : ∀ {v : List V} {t : List Dt}, DaAll K H v t → DaAll K H' v t
  | _, _, .nil => .nil
  | _, _, .cons h t => .cons (Da.butI hi s h) (DaAll.butI hi s t)
end
theorem Same.no {H H1 : Hp} {d : Addr} (s : Same H H1) (h : H1 d = none) : H d = none := by
  cases e : H d with
  | none => rfl
  | some o => rw [s d o e] at h; cases h
theorem fld_part : FldN "part" := ⟨by decide, by decide, by decide, by decide, by decide⟩
theorem inV_strs (x : Str) : ∀ l : List Str, inV (.str x) (l.map V.str) = decide (x ∈ l)
  | [] => rfl
  | y :: l => by
    show (eqV (.str y) (.str x) || inV (.str x) (l.map V.str)) = _
    rw [inV_strs x l]
    have e : eqV (.str y) (.str x) = decide (y = x) := by
      show (y == x) = _
      rw [Bool.eq_iff_iff, beq_iff_eq, decide_eq_true_eq]
    rw [e, Bool.eq_iff_iff, Bool.or_eq_true, decide_eq_true_eq, decide_eq_true_eq, decide_eq_true_eq, List.mem_cons]
    exact ⟨fun z => z.elim (fun e => .inl e.symm) .inr, fun z => z.elim (fun e => .inl e.symm) .inr⟩
theorem flat_strs : ∀ l : List Str, (l.map V.str).all flatV = true
  | [] => rfl
  | _ :: l => flat_strs l
/-- a value that are_words takes -/
theorem words_facts {K : PySem.W.Frag} {H : Hp} {v : V} {d : Dt} (h : Da K H v d) (w : wordsD 8 d = true) : ∃ b a, v = .ref a ∧ SqX K H b a ((sD d).map V.str) ∧ (∀ x ∈ sD d, x.length ≤ 1000) ∧ rowD d = some ((sD d).map Dt.str) ∧ (sD d).Nodup := by
  unfold wordsD at w
  cases er : rowD d with
  | none => rw [er] at w; cases w
  | some l =>
    rw [er] at w
    simp only [Bool.and_eq_true, decide_eq_true_eq] at w
    have el := strs_of w.1
    have es : sD d = strsD l := by unfold sD lD; rw [er]; rfl
    obtain ⟨b, a, xs, rfl, hx, hl⟩ := h.row er
    rw [es]
    rw [el] at hl
    have ex := hl.strs
    subst ex
    refine ⟨b, a, rfl, hx, fun x hx => ?_, by rw [← el], w.2⟩
    obtain ⟨i, hi, ei⟩ := List.getElem_of_mem hx
    obtain ⟨d0, e0, da0⟩ := hl.at (i := i) (x := .str x) (by rw [List.getElem?_map, List.getElem?_eq_getElem hi, ei]; rfl)
    rw [List.getElem?_map, List.getElem?_eq_getElem hi, ei] at e0
    cases e0
    cases da0 with
    | str _ hz => exact hz
section
variable {P : Program} {w : World} {K : PySem.W.Frag} {mg : Str → Option Value} {base : Heap} {f fR fW fT fAW fAR CS CB fB cB cdB : Addr} {fd fdAW fdAR fdB : FuncData} {ds dsT : List Value} {vT : V}
abbrev nSI : List Str := ["self", "people", "things", "rights", "name"]
theorem scInit : FnScope nSI ["self", "people", "things", "rights"] (defScope sInit) := ⟨rfl, rfl, rfl, by decide +kernel, rfl, by decide +kernel, by decide +kernel⟩
theorem ok_init (F : FunD K "__init__" "State.__init__" (defArgs sInit) (defBody sInit) (defScope sInit) [vT] [] f fd) (T : TxtS P K mg fR fW fT fAW fAR CS CB fB cB cdB fdB)
    (GAW : FnOk P w K mg base CX0 2 fAW fdAW ["value", "longest"] (spAreWords K)) (bAW : Binds K fdAW ["value", "longest"] ds) (vAW : Vals [.int 8] ds)
    (GAR : FnOk P w K mg base CX0 2 fAR fdAR ["value", "names"] (spAreRights K)) (bAR : Binds K fdAR ["value", "names"] []) :
    FnOk P w K mg base (L2.CX P w) 3 f fd ["self", "people", "things", "rights"] (spInit K CS CB) := by
  refine F.ok scInit (fun vs H Q E h => ?_) (fun cdv A outer s H vs Q E hr h => ?_)
  · obtain ⟨a, dx, vp, vt, vr, dp, dt, dr, rfl, _⟩ := h
    rfl
  · obtain ⟨a, dx, vp, vt, vr, dp, dt, dr, rfl, ha, hp, ht, hR, sp, st, sr, qe, qk⟩ := h
    refine ⟨_, pss_cons (ps_if (pt_not (pt_val (pe_call GAW hr (by rfl) T.gAW T.kAW bAW vAW pass0 (pa_cons (pv 1) pa_nil)))) (pss_one (ps_raiseBad rfl (takes_of rfl rfl rfl rfl) T.B fld_part T.bB hr (by rfl) T.gB (pa_cons pe_str pa_nil))) pss_nil)
      (pss_cons (ps_if (PW.pt (pw_or (pt_not (pt_val (pe_call GAW hr (by rfl) T.gAW T.kAW bAW vAW pass0 (pa_cons (pv 2) pa_nil))))
        (pw_or1 (pt_val (pe_callB (cr_any rfl) (by rfl) T.r.w.f.any (by decide +kernel) (pa_cons
          (pe_lc (own := [("name", 4)]) (g := gName 4) (tt := tYes) (te := tOp (rIn K false) (tVar 4) (tVar 1)) rfl scInit.nd (pi_seq (pv 2)) (blkOk_by (N := nSI) (sc := defScope sInit) (by decide +kernel))
            (fun _ _ _ _ _ => pg_name (i := 4) scInit.nd rfl (Or.inl rfl)) (fun _ _ _ _ _ => pts_nil)
            (fun _ _ _ _ _ => pe_cmpR op_in_seq (pv 4) (pv 1) rfl)) pa_nil)))))) (pss_one (ps_raiseBad rfl (takes_of rfl rfl rfl rfl) T.B fld_part T.bB hr (by rfl) T.gB (pa_cons pe_str pa_nil))) pss_nil)
      (pss_cons (ps_if (pt_cmpR op_eq (pe_op op_add (pe_callB call_len_seq (by rfl) T.r.w.f.len PySem.boot_len (pa_cons (pv 1) pa_nil)) (pe_callB call_len_seq (by rfl) T.r.w.f.len PySem.boot_len (pa_cons (pv 2) pa_nil))) pe_int (nomark _))
        (pss_one (ps_raiseBad rfl (takes_of rfl rfl rfl rfl) T.B fld_part T.bB hr (by rfl) T.gB (pa_cons pe_str pa_nil))) pss_nil)
      (pss_cons (ps_if (pt_not (pt_val (pe_call GAR hr (by rfl) T.gAR T.kAR bAR .nil pass0 (pa_cons (pv 3) (pa_cons
          (pe_op op_cat (pe_callTy call_list_of (by rfl) T.r.w.f.list (by decide +kernel) (pa_cons (pv 1) pa_nil)) (pe_callTy call_list_of (by rfl) T.r.w.f.list (by decide +kernel) (pa_cons (pv 2) pa_nil))) pa_nil)))))
        (pss_one (ps_raiseBad rfl (takes_of rfl rfl rfl rfl) T.B fld_part T.bB hr (by rfl) T.gB (pa_cons pe_str pa_nil))) pss_nil)
      (pss_cons (ps_fld (pv 0) (pe_callB (cr_sortX hr.units) (by rfl) T.r.w.f.sorted (by decide +kernel) (pa_cons (pv 1) pa_nil)) rfl)
      (pss_cons (ps_fld (pv 0) (pe_callB (cr_sortX hr.units) (by rfl) T.r.w.f.sorted (by decide +kernel) (pa_cons (pv 2) pa_nil)) rfl)
      (pss_one (ps_fld (pv 0) (pe_callB (cr_sortKO rfl hr.units) (by rfl) T.r.w.f.sorted (by decide +kernel) (pa_cons (pe_callTy (cr_setT rfl hr.units) (by rfl) T.r.w.f.set (by decide +kernel) (pa_cons (pv 3) pa_nil)) pa_nil)) rfl))))))), ?_⟩
    have fin : ∀ {H1 : Hp} (e : Str), Same H H1 → errD dp dt dr = some e → ∃ v, [V.str e] = [v] ∧ ∀ d, H1 d = none → E (.ref CB) (some d) (upd H1 d (.xd [(("part" : Str), v)])) := fun {H1} e s1 h => ⟨_, rfl, fun d hd => qe e h d _ (Same.fresh s1 hd) (Same.no s1 hd) upd_same⟩
    refine ⟨_, rfl, vp, dp, 8, rfl, hp, fun l e => by have := sp l e; omega, fun H1 s1 => ⟨_, rfl, ?_⟩⟩
    cases w1 : wordsD 8 dp with
    | false => exact iteT (fin "people" s1 (by unfold errD; rw [if_pos w1]))
    | true =>
      refine iteF ?_
      obtain ⟨bp, ap, rfl, hxp, lp, rp, ndp⟩ := words_facts hp w1
      refine ⟨_, rfl, vt, dt, 8, rfl, Da.same s1 ht, fun l e => by have := st l e; omega, fun H2 s2 => ⟨_, rfl, ?_⟩⟩
      have s02 := s1.trans s2
      cases w2 : wordsD 8 dt with
      | false => exact iteT (iteT (fin "things" s02 (by unfold errD; rw [if_neg (by rw [w1]; decide), if_pos w2])))
      | true =>
        refine iteF ?_
        obtain ⟨bt, at_, rfl, hxt, lt, rt, ndt⟩ := words_facts ht w2
        have kp : (sD dp).length < 1000 := by
          have := sp _ rp
          rwa [List.length_map] at this
        have kt : (sD dt).length < 1000 := by
          have := st _ rt
          rwa [List.length_map] at this
        refine ⟨_, rfl, bt, at_, _, rfl, hxt.same s02, fun J wk D hD => lcX wk hD (fun i acc H => acc = (((sD dt).take i).map fun x => decide (x ∈ sD dp)).map V.bl) (by rw [List.length_map, sizeLine_eq]; omega) (fun _ _ _ _ r _ => r) (by simp) (fun H3 s3 => (hxt.same s02).same s3) ?_ ?_⟩
        · intro i x H3 acc hi ex s3 e r Nx yes no
          rw [List.getElem?_map] at ex
          obtain ⟨z, ez, rfl⟩ := Option.map_eq_some_iff.mp ex
          refine ⟨rfl, tYes_ok ⟨_, rfl, _, rfl, ap, _, rfl, (hxp.same (s02.trans s3)).either, rfl, flat_strs _, yes _ _ (Same.refl _) ?_⟩⟩
          rw [r, take_up ez, if_neg Bool.false_ne_true, inV_strs]
          simp
        · intro H3 acc s3 e r
          rw [List.length_map, List.take_length] at r
          rw [r] at e
          refine ⟨D, _, rfl, SqL.of e, _, rfl, ?_⟩
          have s03 := s02.trans s3
          have ea : ((sD dt).map fun x => decide (x ∈ sD dp)).any id = (sD dt).any fun x => decide (x ∈ sD dp) := by rw [List.any_map]; rfl
          rw [ea]
          cases w3 : (sD dt).any fun x => decide (x ∈ sD dp) with
          | true => exact iteT (fin "things" s03 (by unfold errD; rw [if_neg (by rw [w1]; decide), if_neg (by rw [w2]; decide), if_pos w3]))
          | false =>
            refine iteF ?_
            refine ⟨_, rfl, ap, _, rfl, (hxp.same s03).either, _, rfl, at_, _, rfl, (hxt.same s03).either, _, _, rfl, rfl, rfl, _, rfl, ?_⟩
            rw [List.length_map, List.length_map]
            refine ite2 (fun c => ?_) (fun c => ?_)
            · have c0 : (sD dp).length + (sD dt).length = 0 := by
                have c1 := of_decide_eq_true c
                rw [V.int.injEq] at c1
                omega
              exact fin "parties" s03 (by unfold errD; rw [if_neg (by rw [w1]; decide), if_neg (by rw [w2]; decide), if_neg (by rw [w3]; decide), if_pos c0])
            · have c0 : ¬ (sD dp).length + (sD dt).length = 0 := fun z => c (decide_eq_true (by rw [V.int.injEq]; omega))
              refine ⟨_, rfl, _, rfl, ap, _, rfl, (hxp.same s03).either, fun l1 hl1 => ?_⟩
              have s4 := Same.fresh (o := .lst ((sD dp).map V.str)) s03 hl1
              refine ⟨_, rfl, at_, _, rfl, (hxt.same s4).either, fun l2 hl2 => ?_⟩
              have s5 := Same.fresh (o := .lst ((sD dt).map V.str)) s4 hl2
              have n12 : l1 ≠ l2 := fun z => by
                rw [z, upd_same] at hl2
                cases hl2
              refine ⟨l1, l2, _, _, rfl, rfl, by rw [upd_ne n12, upd_same], upd_same, by rw [List.length_map, List.length_map, sizeLine_eq]; omega, fun l3 hl3 => ?_⟩
              have s6 := Same.fresh (o := .lst ((sD dp).map V.str ++ (sD dt).map V.str)) s5 hl3
              refine ⟨vr, dr, l3, sD dp ++ sD dt, rfl, Da.same s6 hR, SqL.of (by rw [upd_same, List.map_append]), fun l e => by have := sr l e; omega, by rw [List.length_append]; omega, fun H4 s7 => ⟨_, rfl, ?_⟩⟩
              have s8 := s6.trans s7
              cases w4 : rightsD (sD dp ++ sD dt) dr with
              | false => exact iteT (fin "rights" s8 (by unfold errD; rw [if_neg (by rw [w1]; decide), if_neg (by rw [w2]; decide), if_neg (by rw [w3]; decide), if_neg c0, if_pos w4]))
              | true =>
                refine iteF ?_
                have ok : errD dp dt dr = none := by unfold errD; rw [if_neg (by rw [w1]; decide), if_neg (by rw [w2]; decide), if_neg (by rw [w3]; decide), if_neg c0, if_neg (by rw [w4]; decide)]
                -- self.people = sorted(people)
                refine ⟨_, rfl, ap, sD dp, rfl, (hxp.same s8).either, fun p0 hp0 => ?_⟩
                have b1 : But a H (upd H4 p0 (.lst (((sD dp).mergeSort leT).map V.str))) := (But.of s8).new hp0
                have pa : a ≠ p0 := fun z => by rw [← z, s8 _ _ ha] at hp0; cases hp0
                refine ⟨_, rfl, a, CS, dx, [], rfl, (by rw [upd_ne pa]; exact s8 _ _ ha), T.cl, T.nP, (by show 0 < 1000; decide), ?_⟩
                have b2 := b1.upd (o := .ins CS dx (putF "people" (.ref p0) []))
                refine ⟨_, rfl, at_, sD dt, rfl, (SqX.butI hxt ha b2).either, fun t0 ht0 => ?_⟩
                have b3 := b2.new (o := .lst (((sD dt).mergeSort leT).map V.str)) ht0
                have ta : a ≠ t0 := fun z => by rw [← z, upd_same] at ht0; cases ht0
                have tp : p0 ≠ t0 := fun z => by rw [← z, upd_ne pa.symm, upd_same] at ht0; cases ht0
                refine ⟨_, rfl, a, CS, dx, _, rfl, (by rw [upd_ne ta, upd_same]), T.cl, T.nT, (by show 1 < 1000; decide), ?_⟩
                have b4 := b3.upd (o := .ins CS dx (putF "things" (.ref t0) (putF "people" (.ref p0) [])))
                -- self.rights = sorted(set(rights))
                obtain ⟨lr, er, wr⟩ : ∃ l, rowD dr = some l ∧ l.all tripD = true := by
                  unfold rightsD at w4
                  cases er : rowD dr with
                  | none => rw [er] at w4; cases w4
                  | some l =>
                    rw [er] at w4
                    simp only [Bool.and_eq_true] at w4
                    exact ⟨l, rfl, w4.1⟩
                obtain ⟨br, ar, xr, rfl, hxr, hlr⟩ := (Da.butI ha b4 hR).row er
                have elr : lD dr = lr := by unfold lD; rw [er]; rfl
                have len3 := tripsLen wr
                rw [trips_of wr] at hlr
                refine ⟨_, rfl, ?_⟩
                unfold tNil
                refine set_sortC (P := P) (w := w) (fun y H1 h => h) hxr.either hlr (by have := sr lr er; omega) fun H5 r0 ys s9 nr0 hr0 hys => ?_
                have a4 := s9 a _ upd_same
                have ra : a ≠ r0 := fun z => by rw [← z, upd_same] at nr0; cases nr0
                refine ⟨_, rfl, a, CS, dx, _, rfl, a4, T.cl, T.nR, (by
                  show (putF "things" (.ref t0) (putF "people" (.ref p0) [])).length < 1000
                  have : putF "things" (V.ref t0) (putF "people" (V.ref p0) []) = [(("people" : Str), V.ref p0), (("things" : Str), V.ref t0)] := by
                    show (if ("people" : Str) = "things" then _ else (("people" : Str), V.ref p0) :: putF "things" (V.ref t0) []) = _
                    rw [if_neg f_pt]
                    rfl
                  rw [this]
                  show 2 < 1000
                  decide), ?_⟩
                have b5 : But a H (upd H5 a (.ins CS dx (flds p0 t0 r0))) := (b4.trans (But.of s9)).upd
                have b6 : But a H5 (upd H5 a (.ins CS dx (flds p0 t0 r0))) := But.rfl'.upd
                refine qk ok _ b5 ⟨⟨dx, p0, t0, r0, ys, upd_same, ?_, ?_, ?_, ?_⟩, fun x hx => lp x ((sortT_perm _).mem_iff.mp hx), fun x hx => lt x ((sortT_perm _).mem_iff.mp hx), by rw [(sortT_perm _).length_eq]; exact kp, by rw [(sortT_perm _).length_eq]; exact kt, Nat.lt_of_le_of_lt (nrm_len _) (by rw [elr]; have := sr lr er; omega)⟩
                · rw [upd_ne pa.symm]
                  refine s9 _ _ ?_
                  rw [upd_ne pa.symm, upd_ne tp, upd_ne pa.symm, upd_same]
                · rw [upd_ne ta.symm]
                  refine s9 _ _ ?_
                  rw [upd_ne ta.symm, upd_same]
                · rw [upd_ne ra.symm, hr0]
                · rw [elr]
                  exact DaAll.butI a4 b6 hys
end
end K
set_option Elab.async false
set_option linter.all false
set_option maxRecDepth 100000
set_option maxHeartbeats 4000000
/-! States: parties, words. -/
namespace K
open PySem L2 Hk
def sortT (l : List Str) : List Str := l.mergeSort leT
def spParties (K : PySem.W.Frag) (CS : Addr) : Sp := fun vs H Q _ => ∃ (a : Addr) (ps ts : List Str) (rs : List R3), vs = [.ref a] ∧ StAt K CS H a ps ts rs ∧ ∀ H' p, Same H H' → H p = none → H' p = some (.lst ((sortT (ps ++ ts)).map V.str)) → Q (.ref p) H'
/-- the words of one on the other -/
def wordsOf (rs : List R3) (x y : Str) : List Str := (rs.filter fun r => decide (r.1 = x) && decide (r.2.2 = y)).map fun r => r.2.1
def spWords (K : PySem.W.Frag) (CS CQ : Addr) : Sp := fun vs H Q E => ∃ (a : Addr) (ps ts : List Str) (rs : List R3) (x y : Str), vs = [.ref a, .str x, .str y] ∧ StAt K CS H a ps ts rs ∧
  (¬ x ∈ ps ++ ts → ∀ d H', Same H H' → H d = none → ErrAt H' d "name" (.str x) → E (.ref CQ) (some d) H') ∧
  (x ∈ ps ++ ts → ¬ y ∈ ps ++ ts → ∀ d H', Same H H' → H d = none → ErrAt H' d "name" (.str y) → E (.ref CQ) (some d) H') ∧
  (x ∈ ps ++ ts → y ∈ ps ++ ts → ∀ H' p, Same H H' → H p = none → H' p = some (.lst ((wordsOf rs x y).map V.str)) → Q (.ref p) H')
structure TxtQ (P : Program) (K : PySem.W.Frag) (mg : Str → Option Value) (CQ fQ cQ cdQ : Addr) (fdQ : FuncData) : Prop where
  gQ : mg "BadParty" = some (.ref CQ)
  B : BadTxt P K mg CQ fQ cQ cdQ "name" "this is no such party" "BadParty.__init__" fdQ
  bB : Binds K fdQ ["self", "name"] []
theorem trip_at {K : PySem.W.Frag} {H : Hp} {xs : List V} {rs : List R3} (h : DaAll K H xs (rs.map dtR)) {i : Nat} {x : V} (e : xs[i]? = some x) :
    ∃ (a : Addr) (r : R3), rs[i]? = some r ∧ x = .ref a ∧ SqT K H a [.str r.1, .str r.2.1, .str r.2.2] ∧ lenR r ∧ H a = some (.tup [.str r.1, .str r.2.1, .str r.2.2]) := by
  obtain ⟨d, ed, da⟩ := h.at e
  rw [List.getElem?_map] at ed
  obtain ⟨r, er, rfl⟩ := Option.map_eq_some_iff.mp ed
  cases da with
  | tup hx hl =>
    obtain ⟨x, y, z, rfl, h1, h2, h3⟩ := hl.three
    cases h1 with
    | str _ l1 =>
    cases h2 with
    | str _ l2 =>
    cases h3 with
    | str _ l3 => exact ⟨_, r, er, rfl, .inl (.inl hx), ⟨l1, l2, l3⟩, hx⟩
theorem wordsOf_snoc (l : List R3) (r : R3) (x y : Str) : wordsOf (l ++ [r]) x y = if (decide (r.1 = x) && decide (r.2.2 = y)) = true then wordsOf l x y ++ [r.2.1] else wordsOf l x y := by
  unfold wordsOf
  rw [List.filter_append]
  cases h : decide (r.1 = x) && decide (r.2.2 = y)
  · simp [List.filter_cons, h]
  · simp [List.filter_cons, h]
theorem dec_str (x y : Str) : decide (V.str x = V.str y) = decide (x = y) := by
  rw [Bool.eq_iff_iff, decide_eq_true_eq, decide_eq_true_eq]
  exact ⟨fun e => by cases e; rfl, fun e => by rw [e]⟩
theorem fld_name : FldN "name" := ⟨by decide, by decide, by decide, by decide, by decide⟩
section
variable {P : Program} {w : World} {K : PySem.W.Frag} {mg : Str → Option Value} {base : Heap} {f fR fW fT fAW fAR CS CB fB cB cdB CQ fQ cQ cdQ fPa : Addr} {fd fdB fdQ fdPa : FuncData}
theorem scParties : FnScope ["self"] ["self"] (defScope sParties) := ⟨rfl, rfl, rfl, by decide +kernel, rfl, by decide +kernel, by decide +kernel⟩
theorem ok_parties (F : Fun K "parties" "State.parties" sParties f fd) (T : TxtS P K mg fR fW fT fAW fAR CS CB fB cB cdB fdB) : FnOk P w K mg base CX0 1 f fd ["self"] (spParties K CS) := by
  refine F.ok scParties (fun vs H Q E h => ?_) (fun cdv A outer s H vs Q E hr h => ?_)
  · obtain ⟨a, ps, ts, rs, rfl, _⟩ := h
    rfl
  · obtain ⟨a, ps, ts, rs, rfl, S, q⟩ := h
    obtain ⟨⟨dx, p, t, r, xs, h1, h2, h3, h4, h5⟩, lp, lt, sp, st, sr⟩ := S
    refine ⟨_, pss_one (ps_ret (pe_callB (cr_sortX hr.units) (by rfl) T.r.w.f.sorted (by decide +kernel) (pa_cons (pe_op op_cat (pe_fld (pv 0) rfl) (pe_fld (pv 0) rfl)) pa_nil))), ?_⟩
    refine ⟨_, rfl, a, CS, dx, _, _, rfl, h1, T.cl, T.nP, flds_p _ _ _, _, rfl, a, CS, dx, _, _, rfl, h1, T.cl, T.nT, flds_t _ _ _, p, t, _, _, rfl, rfl, h2, h3, by rw [List.length_map, List.length_map, sizeLine_eq]; omega, fun l hl => ?_⟩
    refine ⟨l, ps ++ ts, rfl, .inl (SqL.of (by rw [upd_same, List.map_append])), fun p2 hp2 => ?_⟩
    have s1 : Same H (upd H l (.lst (ps.map V.str ++ ts.map V.str))) := Same.fresh (Same.refl _) hl
    exact q _ p2 (Same.fresh s1 hp2) (Same.no s1 hp2) upd_same
abbrev nWo : List Str := ["self", "one", "other", "parties", "name", "first", "word", "second"]
theorem scWords : FnScope nWo ["self", "one", "other"] (defScope sWords) := ⟨rfl, rfl, rfl, by decide +kernel, rfl, by decide +kernel, by decide +kernel⟩
theorem ok_words (F : Fun K "words" "State.words" sWords f fd) (T : TxtS P K mg fR fW fT fAW fAR CS CB fB cB cdB fdB) (TQ : TxtQ P K mg CQ fQ cQ cdQ fdQ)
    (GP : FnOk P w K mg base CX0 1 fPa fdPa ["self"] (spParties K CS)) (bP : Binds K fdPa ["self"] []) (mP : Meth K CS "parties" fPa) : FnOk P w K mg base (L2.CX P w) 3 f fd ["self", "one", "other"] (spWords K CS CQ) := by
  refine F.okX scWords (fun vs H Q E h => ?_) (fun cdv A outer s H vs Q E hr h => ?_)
  · obtain ⟨a, ps, ts, rs, x, y, rfl, _⟩ := h
    rfl
  · obtain ⟨a, ps, ts, rs, x, y, rfl, S, qx, qy, q⟩ := h
    have S0 := S
    obtain ⟨⟨dx, p, t, r, xs, h1, h2, h3, h4, h5⟩, lp, lt, sp, st, sr⟩ := S
    have hr1 : Room 1 _ := hr.mono (by decide)
    refine ⟨_, pss_cons (ps_set (i := 3) scWords.nd rfl (Or.inl rfl) (pe_meth0 (pv 0) T.cl mP GP hr1 bP .nil pass0))
      (pss_cons (ps_for (passes_of rfl) rfl (pi_tup (pe_tup (pa_cons (pv 1) (pa_cons (pv 2) pa_nil)))) (pg_name (i := 4) scWords.nd rfl (Or.inl rfl))
        (pss_one (ps_if (pt_cmpR op_notIn_seq (pv 4) (pv 3) rfl) (pss_one (ps_raiseBad rfl (takes_of rfl rfl rfl rfl) TQ.B fld_name TQ.bB hr (by rfl) TQ.gQ (pa_cons (pv 4) pa_nil))) pss_nil)))
      (pss_one (ps_ret (pe_lc (own := [("first", 5), ("word", 6), ("second", 7)]) (g := gTup K 3 (gCons (gName 5) (gCons (gName 6) (gCons (gName 7) gNil)))) (tt := tAnd (tTest (tOp rEq (tVar 5) (tVar 1))) (tTest (tOp rEq (tVar 7) (tVar 2)))) rfl scWords.nd (pi_seq (pe_fld (pv 0) rfl)) (blkOk_by (N := nWo) (sc := defScope sWords) (by decide +kernel))
            (fun _ _ _ _ _ => pg_tup rfl (pgs_cons (pg_name (i := 5) scWords.nd rfl (Or.inl rfl)) (pgs_cons (pg_name (i := 6) scWords.nd rfl (Or.inl rfl)) (pgs_cons (pg_name (i := 7) scWords.nd rfl (Or.inl rfl)) pgs_nil))))
            (fun _ _ _ _ _ => pts_one (PW.pt (pw_and (pt_cmpR op_eq (pv 5) (pv 1) (nomark _)) (pw_and1 (pt_cmpR op_eq (pv 7) (pv 2) (nomark _))))))
            (fun _ _ _ _ _ => pv 6))))), ?_⟩
    refine ⟨_, rfl, a, dx, _, rfl, h1, flds_no _ _ _ (by decide) (by decide) (by decide), a, ps, ts, rs, rfl, S0, fun H1 l s1 nl hl => ?_⟩
    refine ⟨_, rfl, _, rfl, by show 2 ≤ sizeLine; decide, fun q0 hq0 => ⟨q0, rfl, ⟨_, .inl (.inl upd_same)⟩, ?_⟩⟩
    have s2 : Same H1 (upd H1 q0 (.tup [.str x, .str y])) := Same.fresh (Same.refl _) hq0
    have hin : ∀ z : Str, z ∈ sortT (ps ++ ts) ↔ z ∈ ps ++ ts := fun z => (sortT_perm _).mem_iff
    refine for_tup (K := K) (a := q0) (xs := [.str x, .str y]) (fun i σ H' => ∃ v, σ = [some (.ref a), some (.str x), some (.str y), some (.ref l), v, none, none, none] ∧ Same (upd H1 q0 (.tup [.str x, .str y])) H' ∧ (1 ≤ i → x ∈ ps ++ ts) ∧ (2 ≤ i → y ∈ ps ++ ts))
      ⟨none, rfl, Same.refl _, fun z => absurd z (by decide), fun z => absurd z (by decide)⟩ (fun i σ H' _ ⟨_, _, s3, _⟩ => .inl (.inl (s3 _ _ upd_same))) ?_ ?_
    · rintro i z σ H' hi ⟨v, rfl, s3, hx, hy⟩
      have sA : Same H H' := s1.trans (s2.trans s3)
      have hl' := s3 _ _ (s2 _ _ hl)
      obtain ⟨u, rfl, hu⟩ : ∃ u : Str, z = .str u ∧ ((i = 0 ∧ u = x) ∨ (i = 1 ∧ u = y)) := by
        match i, hi with
        | 0, hi => cases hi; exact ⟨x, rfl, .inl ⟨rfl, rfl⟩⟩
        | 1, hi => cases hi; exact ⟨y, rfl, .inr ⟨rfl, rfl⟩⟩
        | i + 2, hi => simp at hi
      refine ⟨_, rfl, _, rfl, l, _, rfl, .inl (SqL.of hl'), rfl, flat_strs _, _, rfl, ?_⟩
      rw [if_pos rfl, inV_strs]
      by_cases hm : u ∈ ps ++ ts
      · have e1 : decide (u ∈ sortT (ps ++ ts)) = true := decide_eq_true ((hin u).mpr hm)
        rw [e1]
        refine iteF ⟨some (.str u), rfl, s3, fun _ => ?_, fun _ => ?_⟩
        · rcases hu with ⟨_, rfl⟩ | ⟨rfl, _⟩
          · exact hm
          · exact hx (by omega)
        · rcases hu with ⟨rfl, _⟩ | ⟨_, rfl⟩
          · omega
          · exact hm
      · have e1 : decide (u ∈ sortT (ps ++ ts)) = false := decide_eq_false fun z => hm ((hin u).mp z)
        rw [e1]
        refine iteT ⟨_, rfl, _, rfl, fun d hd => ?_⟩
        rcases hu with ⟨_, rfl⟩ | ⟨rfl, rfl⟩
        · exact qx hm d _ (Same.fresh sA hd) (Same.no sA hd) upd_same
        · exact qy (hx (by omega)) hm d _ (Same.fresh sA hd) (Same.no sA hd) upd_same
    · rintro σ H' ⟨v, rfl, s3, hx, hy⟩
      have sA : Same H H' := s1.trans (s2.trans s3)
      have lx := DaAll.len h5
      rw [List.length_map] at lx
      have xr := SqX.list (SqL.of (K := K) (sA _ _ h4))
      refine ⟨_, rfl, a, CS, dx, _, _, rfl, sA _ _ h1, T.cl, T.nR, flds_r _ _ _, true, r, xs, rfl, xr, fun J wk D hD => lcX wk hD (fun i acc H => acc = (wordsOf (rs.take i) x y).map V.str) (by rw [sizeLine_eq]; omega) (fun _ _ _ _ r _ => r) (by simp [wordsOf]) (fun H3 s3 => xr.same s3) ?_ ?_⟩
      · intro i z H4 acc hi ex s4 e r0 Nx yes no
        obtain ⟨t0, r1, hr1', rfl, ht, _⟩ := trip_at (DaAll.same (sA.trans s4) h5) ex
        have up : wordsOf (rs.take (i + 1)) x y = if (decide (r1.1 = x) && decide (r1.2.2 = y)) = true then wordsOf (rs.take i) x y ++ [r1.2.1] else wordsOf (rs.take i) x y := by rw [take_up hr1', wordsOf_snoc]
        refine ⟨t0, _, rfl, ht, rfl, _, _, rfl, _, _, rfl, _, _, rfl, rfl, rfl, ?_⟩
        refine ⟨_, rfl, _, rfl, rfl, _, rfl, ?_⟩
        have c1 : decide (V.str r1.1 = V.str x) = decide (r1.1 = x) := dec_str _ _
        have c2 : decide (V.str r1.2.2 = V.str y) = decide (r1.2.2 = y) := dec_str _ _
        rw [c1]
        cases e1 : decide (r1.1 = x) with
        | false =>
          refine iteF (iteF (no _ (Same.refl _) ?_))
          rw [up, e1, r0]
          rfl
        | true =>
          refine iteT ⟨_, rfl, _, rfl, rfl, _, rfl, ?_⟩
          rw [c2]
          cases e2 : decide (r1.2.2 = y) with
          | false =>
            refine iteF (no _ (Same.refl _) ?_)
            rw [up, e1, e2, r0]
            rfl
          | true =>
            refine iteT ⟨_, rfl, yes _ _ (Same.refl _) ?_⟩
            rw [up, e1, e2, r0]
            simp
      · intro H3 acc s4 e r0
        rw [lx, List.take_length] at r0
        rw [r0] at e
        exact q (hx (by show 1 ≤ 2; decide)) (hy (by show 2 ≤ 2; decide)) H3 D (sA.trans s4) (Same.no sA hD) e
end
end K
set_option Elab.async false
set_option linter.all false
set_option maxRecDepth 100000
set_option maxHeartbeats 4000000
/-! Rights and words as data: ==, in. -/
namespace K
open PySem L2 Hk
def encR (r : R3) : PyData := .tuple [.str r.1, .str r.2.1, .str r.2.2]
theorem eqv_strs : ∀ l m : List Str, PyData.eqvAll (l.map PyData.str) (m.map PyData.str) = decide (l = m)
  | [], [] => rfl
  | [], _ :: _ => rfl
  | _ :: _, [] => rfl
  | x :: l, y :: m => by
    rw [List.map_cons, List.map_cons, PyData.eqvAll, PyData.eqv, eqv_strs l m, Bool.eq_iff_iff, Bool.and_eq_true, decide_eq_true_eq, decide_eq_true_eq, beq_iff_eq, List.cons.injEq]
theorem encR_map (r : R3) : encR r = .tuple ((kR r).map PyData.str) := rfl
theorem eqv_R (r s : R3) : PyData.eqv (encR r) (encR s) = decide (r = s) := by
  rw [encR_map, encR_map, PyData.eqv, eqv_strs, Bool.eq_iff_iff, decide_eq_true_eq, decide_eq_true_eq]
  exact ⟨kR_inj, fun e => by rw [e]⟩
theorem eqv_Rs : ∀ l m : List R3, PyData.eqvAll (l.map encR) (m.map encR) = decide (l = m)
  | [], [] => rfl
  | [], _ :: _ => rfl
  | _ :: _, [] => rfl
  | x :: l, y :: m => by
    rw [List.map_cons, List.map_cons, PyData.eqvAll, eqv_R, eqv_Rs l m, Bool.eq_iff_iff, Bool.and_eq_true, decide_eq_true_eq, decide_eq_true_eq, decide_eq_true_eq, List.cons.injEq]
theorem any_R (r : R3) (l : List R3) : ((l.map encR).any fun e => PyData.eqv e (encR r)) = decide (r ∈ l) := by
  rw [List.any_map, Bool.eq_iff_iff, List.any_eq_true, decide_eq_true_eq]
  constructor
  · rintro ⟨x, hx, e⟩
    have e2 : PyData.eqv (encR x) (encR r) = true := e
    rw [eqv_R, decide_eq_true_eq] at e2
    rw [← e2]
    exact hx
  · intro h
    refine ⟨r, h, ?_⟩
    show PyData.eqv (encR r) (encR r) = true
    rw [eqv_R]
    simp
theorem lay_strs : ∀ l : List Str, PyData.plainAll (l.map PyData.str) = true
  | [] => rfl
  | _ :: l => by
    rw [List.map_cons, PyData.plainAll, lay_strs l]
    rfl
theorem lay_R (r : R3) : PyData.plain (encR r) = true := lay_strs (kR r)
theorem lay_Rs : ∀ l : List R3, PyData.plainAll (l.map encR) = true
  | [] => rfl
  | r :: l => by
    rw [List.map_cons, PyData.plainAll, lay_R, lay_Rs l]
    rfl
theorem lay_lR (l : List R3) : PyData.plain (.list (l.map encR)) = true := lay_Rs l
theorem lay_lS (l : List Str) : PyData.plain (.list (l.map PyData.str)) = true := lay_strs l
theorem dep_R (r : R3) : (encR r).depth = 1 := by
  rw [encR_map, PyData.depth, depth_strs]
theorem dep_Rs : ∀ l : List R3, PyData.depthAll (l.map encR) ≤ 1
  | [] => by decide
  | r :: l => by
    rw [List.map_cons, PyData.depthAll, dep_R]
    exact Nat.max_le.mpr ⟨Nat.le_refl _, dep_Rs l⟩
theorem dep_lR (l : List R3) : (PyData.list (l.map encR)).depth ≤ 60 := by
  have := dep_Rs l
  rw [PyData.depth]
  omega
theorem dep_lS (l : List Str) : (PyData.list (l.map PyData.str)).depth ≤ 60 := by
  rw [PyData.depth, depth_strs]
  omega
theorem eqv_lS (l m : List Str) : PyData.eqv (.list (l.map PyData.str)) (.list (m.map PyData.str)) = decide (l = m) := by rw [PyData.eqv, eqv_strs]
theorem eqv_lR (l m : List R3) : PyData.eqv (.list (l.map encR)) (.list (m.map encR)) = decide (l = m) := by rw [PyData.eqv, eqv_Rs]
section
variable {K : PySem.W.Frag} {H : Hp}
theorem dp_strs : ∀ l : List Str, DpAll K H (l.map V.str) (l.map PyData.str)
  | [] => .nil
  | x :: l => .cons (.str x) (dp_strs l)
theorem dp_R {v : V} {r : R3} (h : Da K H v (dtR r)) : Dp K H v (encR r) := by
  cases h with
  | tup hx hl =>
    obtain ⟨x, y, z, rfl, h1, h2, h3⟩ := hl.three
    cases h1
    cases h2
    cases h3
    exact .tup (.inl (.inl hx)) (.cons (.str _) (.cons (.str _) (.cons (.str _) .nil)))
theorem dp_Rs : ∀ {xs : List V} {rs : List R3}, DaAll K H xs (rs.map dtR) → DpAll K H xs (rs.map encR)
  | _, [], .nil => .nil
  | _, _ :: _, .cons h t => .cons (dp_R h) (dp_Rs t)
end
end K
set_option Elab.async false
set_option linter.all false
set_option maxRecDepth 100000
set_option maxHeartbeats 4000000
/-! States: len, in, ==. -/
namespace K
open PySem L2 Hk
def spLen (K : PySem.W.Frag) (CS : Addr) : Sp := fun vs H Q _ => ∃ (a : Addr) (ps ts : List Str) (rs : List R3), vs = [.ref a] ∧ StAt K CS H a ps ts rs ∧ Q (.int rs.length) H
def spIn (K : PySem.W.Frag) (CS : Addr) : Sp := fun vs H Q _ => ∃ (a : Addr) (ps ts : List Str) (rs : List R3) (v : V) (r : R3), vs = [.ref a, v] ∧ StAt K CS H a ps ts rs ∧ Da K H v (dtR r) ∧ Q (.bl (decide (r ∈ rs))) H
def spEq (K : PySem.W.Frag) (CS : Addr) : Sp := fun vs H Q _ => ∃ (a b : Addr) (ps ts : List Str) (rs : List R3) (ps2 ts2 : List Str) (rs2 : List R3), vs = [.ref a, .ref b] ∧ StAt K CS H a ps ts rs ∧ StAt K CS H b ps2 ts2 rs2 ∧
  Q (.bl (decide (ps = ps2) && (decide (ts = ts2) && decide (rs = rs2)))) H
structure ClsI (K : PySem.W.Frag) (C : Addr) : Prop where
  ha : PySem.W.findIn K (.ref C) "__class__" = some (some (.builtin "object.__class__"))
  hn : PySem.W.specialIn K (.builtin "object.__class__") "__get__" = some (some (.builtin "getset_descriptor.__get__"))
  htk : PySem.W.takesIn K (.builtin "object.__class__") = some true
  hm : PySem.W.mroIn K C (.type "object") = some true
theorem kit_self {K : PySem.W.Frag} (C : Addr) : PySem.W.kitOne K (.ref C) (.ref C) = some true := by
  unfold PySem.W.kitOne
  rw [if_pos (by simp)]
section
variable {P : Program} {w : World} {K : PySem.W.Frag} {mg : Str → Option Value} {base : Heap} {f fR fW fT fAW fAR CS CB fB cB cdB : Addr} {fd fdB : FuncData}
theorem scLen : FnScope ["self"] ["self"] (defScope sLen) := ⟨rfl, rfl, rfl, by decide +kernel, rfl, by decide +kernel, by decide +kernel⟩
theorem ok_len (F : Fun K "__len__" "State.__len__" sLen f fd) (T : TxtS P K mg fR fW fT fAW fAR CS CB fB cB cdB fdB) : FnOk P w K mg base CX0 1 f fd ["self"] (spLen K CS) := by
  refine F.ok scLen (fun vs H Q E h => ?_) (fun cdv A outer s H vs Q E hr h => ?_)
  · obtain ⟨a, ps, ts, rs, rfl, _⟩ := h
    rfl
  · obtain ⟨a, ps, ts, rs, rfl, ⟨⟨dx, p, t, r, xs, h1, h2, h3, h4, h5⟩, _, _, _, _, _⟩, q⟩ := h
    refine ⟨_, pss_one (ps_ret (pe_callB call_len_seq (by rfl) T.r.w.f.len PySem.boot_len (pa_cons (pe_fld (pv 0) rfl) pa_nil))), ?_⟩
    refine ⟨_, rfl, a, CS, dx, _, _, rfl, h1, T.cl, T.nR, flds_r _ _ _, r, xs, rfl, .inl (SqL.of h4), ?_⟩
    rw [DaAll.len h5, List.length_map]
    exact q
theorem scIn : FnScope ["self", "right"] ["self", "right"] (defScope sContains) := ⟨rfl, rfl, rfl, by decide +kernel, rfl, by decide +kernel, by decide +kernel⟩
theorem ok_in (F : Fun K "__contains__" "State.__contains__" sContains f fd) (T : TxtS P K mg fR fW fT fAW fAR CS CB fB cB cdB fdB) : FnOk P w K mg base CX0 1 f fd ["self", "right"] (spIn K CS) := by
  refine F.ok scIn (fun vs H Q E h => ?_) (fun cdv A outer s H vs Q E hr h => ?_)
  · obtain ⟨a, ps, ts, rs, v, r, rfl, _⟩ := h
    rfl
  · obtain ⟨a, ps, ts, rs, v, r0, rfl, ⟨⟨dx, p, t, r, xs, h1, h2, h3, h4, h5⟩, _, _, _, _, _⟩, da, q⟩ := h
    refine ⟨_, pss_one (ps_ret (pe_cmpR (op_inD hr.units) (pv 1) (pe_fld (pv 0) rfl) rfl)), ?_⟩
    refine ⟨_, rfl, _, rfl, a, CS, dx, _, _, rfl, h1, T.cl, T.nR, flds_r _ _ _, r, xs, _, _, rfl, SqL.of h4, dp_Rs h5, dp_R da, lay_Rs _, lay_R _, by rw [dep_R]; decide, ?_⟩
    rw [if_neg Bool.false_ne_true, any_R]
    exact q
theorem scEq : FnScope ["self", "other"] ["self", "other"] (defScope sEq) := ⟨rfl, rfl, rfl, by decide +kernel, rfl, by decide +kernel, by decide +kernel⟩
theorem ok_eq (F : Fun K "__eq__" "State.__eq__" sEq f fd) (T : TxtS P K mg fR fW fT fAW fAR CS CB fB cB cdB fdB) (TI : ClsI K CS) : FnOk P w K mg base CX0 1 f fd ["self", "other"] (spEq K CS) := by
  refine F.ok scEq (fun vs H Q E h => ?_) (fun cdv A outer s H vs Q E hr h => ?_)
  · obtain ⟨a, b, ps, ts, rs, ps2, ts2, rs2, rfl, _⟩ := h
    rfl
  · obtain ⟨a, b, ps, ts, rs, ps2, ts2, rs2, rfl, ⟨⟨dx, p, t, r, xs, h1, h2, h3, h4, h5⟩, _, _, _, _, _⟩, ⟨⟨dx2, p2, t2, r2, xs2, k1, k2, k3, k4, k5⟩, _, _, _, _, _⟩, q⟩ := h
    refine ⟨_, pss_one (ps_ret (pe_and (pe_callB call_isi (by rfl) T.r.w.f.isi (by decide +kernel) (pa_cons (pv 1) (pa_cons (pe_glob (v := .ref CS) (by rfl) T.gS rfl) pa_nil)))
      (pe_and (pe_cmpR (op_eqP hr.units) (pe_fld (pv 0) rfl) (pe_fld (pv 1) rfl) (nomark _)) (pe_and (pe_cmpR (op_eqP hr.units) (pe_fld (pv 0) rfl) (pe_fld (pv 1) rfl) (nomark _)) (pe_one (pe_cmpR (op_eqP hr.units) (pe_fld (pv 0) rfl) (pe_fld (pv 1) rfl) (nomark _))))))), ?_⟩
    refine ⟨_, rfl, .ref b, .ref CS, .ref CS, .ref CS, true, rfl, .own CS, .base (.ins k1 T.cl TI.ha TI.hn TI.htk TI.hm), kit_self CS, _, rfl, iteT ?_⟩
    refine ⟨_, rfl, a, CS, dx, _, _, rfl, h1, T.cl, T.nP, flds_p _ _ _, _, rfl, b, CS, dx2, _, _, rfl, k1, T.cl, T.nP, flds_p _ _ _, _, _, .lst (SqL.of h2) (dp_strs _), .lst (SqL.of k2) (dp_strs _), lay_lS _, lay_lS _, dep_lS _, ?_⟩
    rw [if_neg Bool.false_ne_true, eqv_lS]
    cases e1 : decide (ps = ps2) with
    | false =>
      rw [e1] at q
      exact ⟨_, rfl, iteF q⟩
    | true =>
      rw [e1] at q
      refine ⟨_, rfl, iteT ⟨_, rfl, a, CS, dx, _, _, rfl, h1, T.cl, T.nT, flds_t _ _ _, _, rfl, b, CS, dx2, _, _, rfl, k1, T.cl, T.nT, flds_t _ _ _, _, _, .lst (SqL.of h3) (dp_strs _), .lst (SqL.of k3) (dp_strs _), lay_lS _, lay_lS _, dep_lS _, ?_⟩⟩
      rw [if_neg Bool.false_ne_true, eqv_lS]
      cases e2 : decide (ts = ts2) with
      | false =>
        rw [e2] at q
        exact ⟨_, rfl, iteF q⟩
      | true =>
        rw [e2] at q
        refine ⟨_, rfl, iteT ⟨_, rfl, a, CS, dx, _, _, rfl, h1, T.cl, T.nR, flds_r _ _ _, _, rfl, b, CS, dx2, _, _, rfl, k1, T.cl, T.nR, flds_r _ _ _, _, _, .lst (SqL.of h4) (dp_Rs h5), .lst (SqL.of k4) (dp_Rs k5), lay_lR _, lay_lR _, dep_lR _, ?_⟩⟩
        rw [if_neg Bool.false_ne_true, eqv_lR]
        exact q
end
end K
set_option Elab.async false
set_option linter.all false
set_option maxRecDepth 100000
set_option maxHeartbeats 4000000
/-! States: made anew, added to. -/
namespace K
open PySem L2 Hk
/-- a state of given values is made (the reading of the class's call) -/
theorem mk_read {K : PySem.W.Frag} {CS CB : Addr} {H1 : Hp} {vp vt vr : V} {dp dt dr : Dt} {Q : VK} {E : XK} (hp : Da K H1 vp dp) (ht : Da K H1 vt dt) (hR : Da K H1 vr dr)
    (sp : ∀ l, rowD dp = some l → l.length < 1000) (st : ∀ l, rowD dt = some l → l.length < 1000) (sr : ∀ l, rowD dr = some l → l.length < 64)
    (qe : ∀ e, errD dp dt dr = some e → ∀ d H', Same H1 H' → H1 d = none → ErrAt H' d "part" (.str e) → E (.ref CB) (some d) H')
    (qk : errD dp dt dr = none → ∀ H' x, Same H1 H' → H1 x = none → StAt K CS H' x (sortT (sD dp)) (sortT (sD dt)) (nrm (r3s (lD dr))) → Q (.ref x) H') :
    ∀ x dx, H1 x = none → H1 dx = none → dx ≠ x → spInit K CS CB (.ref x :: ([vp, vt, vr] ++ [])) (upd (upd H1 dx (.own x)) x (.ins CS dx [])) (fun v H2 => v = .non ∧ Q (.ref x) H2) E := by
  intro x dx hx hdx ne
  have s1 : Same H1 (upd (upd H1 dx (.own x)) x (.ins CS dx [])) := fun b o e => by
    rw [upd_ne (ne_of_none e hx), upd_ne (ne_of_none e hdx)]
    exact e
  refine ⟨x, dx, vp, vt, vr, dp, dt, dr, rfl, upd_same, Da.same s1 hp, Da.same s1 ht, Da.same s1 hR, sp, st, sr, fun e he d H' s2 hd er => qe e he d H' (s1.trans s2) (Same.no s1 hd) er, fun ok H' b S => ⟨rfl, qk ok H' x (fun c o e => b c o (ne_of_none e hx) (s1 c o e)) hx S⟩⟩
theorem da_list {K : PySem.W.Frag} {H : Hp} {a : Addr} {l : List Str} (h : H a = some (.lst (l.map V.str))) (hl : ∀ x ∈ l, x.length ≤ 1000) : Da K H (.ref a) (.lst (l.map Dt.str)) := .lst (SqL.of h) (DaAll.ofStrs hl)
theorem sD_strs (l : List Str) : sD (.lst (l.map Dt.str)) = l := by
  show strsD (l.map Dt.str) = l
  induction l with
  | nil => rfl
  | cons x l ih =>
    show x :: strsD (l.map Dt.str) = x :: l
    rw [ih]
theorem DaAll.app {K : PySem.W.Frag} {H : Hp} : ∀ {xs ys : List V} {l m : List Dt}, DaAll K H xs l → DaAll K H ys m → DaAll K H (xs ++ ys) (l ++ m)
  | _, _, _, _, .nil, h => h
  | _, _, _, _, .cons a t, h => .cons a (DaAll.app t h)
def dS (l : List Str) : Dt := .lst (l.map Dt.str)
/-- state + v -/
def spAdd (K : PySem.W.Frag) (CS CB : Addr) : Sp := fun vs H Q E => ∃ (a : Addr) (ps ts : List Str) (rs : List R3) (v : V) (d : Dt) (l : List Dt), vs = [.ref a, v] ∧ StAt K CS H a ps ts rs ∧ Da K H v d ∧ rowD d = some l ∧ rs.length + l.length < 64 ∧
  (∀ e, errD (dS ps) (dS ts) (.lst (rs.map dtR ++ l)) = some e → ∀ d H', Same H H' → H d = none → ErrAt H' d "part" (.str e) → E (.ref CB) (some d) H') ∧
  (errD (dS ps) (dS ts) (.lst (rs.map dtR ++ l)) = none → ∀ H' x, Same H H' → H x = none → StAt K CS H' x (sortT ps) (sortT ts) (nrm (r3s (rs.map dtR ++ l))) → Q (.ref x) H')
section
variable {P : Program} {w : World} {K : PySem.W.Frag} {mg : Str → Option Value} {base : Heap} {f fR fW fT fAW fAR CS CB fB cB cdB fI : Addr} {fd fdB fdI fdR : FuncData}
abbrev pSI : List Str := ["self", "people", "things", "rights"]
theorem scAdd : FnScope ["self", "rights"] ["self", "rights"] (defScope sAdd) := ⟨rfl, rfl, rfl, by decide +kernel, rfl, by decide +kernel, by decide +kernel⟩
theorem ok_add (F : Fun K "__add__" "State.__add__" sAdd f fd) (T : TxtS P K mg fR fW fT fAW fAR CS CB fB cB cdB fdB)
    (GI : FnOk P w K mg base (L2.CX P w) 3 fI fdI pSI (spInit K CS CB)) (bI : Binds K fdI pSI []) (MK : Mk K CS fI)
    (GR : FnOk P w K mg base CX0 1 fR fdR ["value"] (spIsRow K)) (bR : Binds K fdR ["value"] []) : FnOk P w K mg base (L2.CX P w) 5 f fd ["self", "rights"] (spAdd K CS CB) := by
  refine F.okX scAdd (fun vs H Q E h => ?_) (fun cdv A outer s H vs Q E hr h => ?_)
  · obtain ⟨a, ps, ts, rs, v, d, l, rfl, _⟩ := h
    rfl
  · obtain ⟨a, ps, ts, rs, v, d, l, rfl, S, da, er, sz, qe, qk⟩ := h
    obtain ⟨⟨dx, p, t, r, xs, h1, h2, h3, h4, h5⟩, lp, lt, sp, st, sr⟩ := S
    have hr1 : Room 1 _ := hr.mono (by decide)
    have hr2 : Room 2 _ := hr.mono (by decide)
    refine ⟨_, pss_cons (ps_if (pt_not (pt_val (pe_call GR hr1 (by rfl) T.r.w.gR T.r.w.kR bR .nil pass0 (pa_cons (pv 1) pa_nil)))) (pss_one (ps_raiseBad rfl (takes_of rfl rfl rfl rfl) T.B fld_part T.bB hr2 (by rfl) T.gB (pa_cons pe_str pa_nil))) pss_nil)
      (pss_one (ps_ret (pe_make (E := E) MK GI hr (by rfl) T.gS bI .nil (passes_call (takes_of rfl rfl rfl rfl) fun _ _ _ _ h => h) (pa_cons (pe_fld (pv 0) rfl) (pa_cons (pe_fld (pv 0) rfl) (pa_cons
        (pe_op op_cat (pe_fld (pv 0) rfl) (pe_callTy call_list_of (by rfl) T.r.w.f.list (by decide +kernel) (pa_cons (pv 1) pa_nil))) pa_nil)))))), ?_⟩
    obtain ⟨b0, c, ys, rfl, hy, hl⟩ := da.row er
    refine ⟨_, rfl, .ref c, tyOf d, (rowD d).isSome, rfl, da.ty, kit_row K d, fun H1 s1 => ⟨_, rfl, ?_⟩⟩
    rw [er]
    refine iteF ?_
    have hlen := hl.len
    have h5l := h5.len
    rw [List.length_map] at h5l
    refine ⟨_, rfl, a, CS, dx, _, _, rfl, s1 _ _ h1, T.cl, T.nP, flds_p _ _ _, _, rfl, a, CS, dx, _, _, rfl, s1 _ _ h1, T.cl, T.nT, flds_t _ _ _, _, rfl, a, CS, dx, _, _, rfl, s1 _ _ h1, T.cl, T.nR, flds_r _ _ _, _, rfl, c, ys, rfl, (hy.same s1).either, fun l1 hl1 => ?_⟩
    have s2 := Same.fresh (o := .lst ys) s1 hl1
    refine ⟨r, l1, xs, ys, rfl, rfl, s2 _ _ h4, upd_same, by rw [sizeLine_eq]; omega, fun l2 hl2 => ?_⟩
    have s3 := Same.fresh (o := .lst (xs ++ ys)) s2 hl2
    refine mk_read (da_list (s3 _ _ h2) lp) (da_list (s3 _ _ h3) lt) (.lst (SqL.of upd_same) (DaAll.app (DaAll.same s3 h5) (DaAll.same s3 hl))) (fun l e => ?_) (fun l e => ?_) (fun l e => ?_) (fun e he d H' s4 hd er => qe e he d H' (s3.trans s4) (Same.no s3 hd) er) (fun ok H' x s4 hx S => ?_)
    · cases e
      rw [List.length_map]
      exact sp
    · cases e
      rw [List.length_map]
      exact st
    · cases e
      rw [List.length_append, List.length_map]
      exact sz
    · rw [sD_strs, sD_strs] at S
      exact qk ok H' x (s3.trans s4) (Same.no s3 hx) S
end
end K
set_option Elab.async false
set_option linter.all false
set_option maxRecDepth 100000
set_option maxHeartbeats 4000000
/-! States: with other names. -/
namespace K
open PySem L2 Hk
theorem sortT_len (l : List Str) : (sortT l).length = l.length := (sortT_perm l).length_eq
theorem r3s_map : ∀ l : List R3, r3s (l.map dtR) = l
  | [] => rfl
  | r :: l => by
    show r :: r3s (l.map dtR) = r :: l
    rw [r3s_map l]
/-- the heap without D -/
def less (D : Addr) (H : Hp) : Hp := fun b => if b = D then none else H b
theorem less_same {D : Addr} {H : Hp} : Same (less D H) H := fun b o e => by
  unfold less at e
  split at e
  · cases e
  · exact e
theorem less_ne {D b : Addr} {H : Hp} (h : b ≠ D) : less D H b = H b := if_neg h
theorem less_but {D : Addr} {H H' : Hp} (s : But D H H') : Same (less D H) (less D H') := fun b o e => by
  by_cases h : b = D
  · rw [h] at e
    unfold less at e
    rw [if_pos rfl] at e
    cases e
  · rw [less_ne h] at e ⊢
    exact s b o h e
theorem less_mono {D : Addr} {H H' : Hp} (s : Same H H') : Same (less D H) (less D H') := less_but (But.of s)
def kvD (ls : List (Str × Str)) : List (Key × V) := ls.map fun p => ((Sum.inr p.1 : Key), V.str p.2)
def lk (ls : List (Str × Str)) (x : Str) : Option Str := (ls.find? fun p => decide (p.1 = x)).map (·.2)
def ren (ls : List (Str × Str)) (x : Str) : Str := (lk ls x).getD x
def renR (ls : List (Str × Str)) (r : R3) : R3 := (ren ls r.1, r.2.1, ren ls r.2.2)
theorem kvD_get (x : Str) : ∀ ls : List (Str × Str), valV (kvD ls) (Sum.inr x) = (lk ls x).map V.str
  | [] => rfl
  | p :: ls => by
    have ih := kvD_get x ls
    unfold valV lk kvD at ih ⊢
    rw [List.map_cons, List.find?_cons, List.find?_cons]
    have e : decide ((Sum.inr p.1 : Key) = Sum.inr x) = decide (p.1 = x) := by
      rw [Bool.eq_iff_iff, decide_eq_true_eq, decide_eq_true_eq]
      exact ⟨fun z => Sum.inr.inj z, fun z => by rw [z]⟩
    show Option.map (·.2) (match decide ((Sum.inr p.1 : Key) = Sum.inr x) with | true => some ((Sum.inr p.1 : Key), V.str p.2) | false => _) = _
    rw [e]
    cases decide (p.1 = x) with
    | true => rfl
    | false => exact ih
theorem lk_mem {x y : Str} {ls : List (Str × Str)} (h : lk ls x = some y) : ∃ p ∈ ls, p.2 = y := by
  unfold lk at h
  obtain ⟨p, hp, e⟩ := Option.map_eq_some_iff.mp h
  exact ⟨p, List.mem_of_find?_eq_some hp, e⟩
theorem ren_len {ls : List (Str × Str)} (h : ∀ p ∈ ls, p.2.length ≤ 1000) {x : Str} (hx : x.length ≤ 1000) : (ren ls x).length ≤ 1000 := by
  unfold ren
  cases e : lk ls x with
  | none => exact hx
  | some y =>
    obtain ⟨p, hp, rfl⟩ := lk_mem e
    exact h p hp
theorem getD_str (ls : List (Str × Str)) (x : Str) : ((lk ls x).map V.str).getD (.str x) = V.str (ren ls x) := by
  unfold ren
  cases lk ls x <;> rfl
/-- state.renamed(v): v no dict, or a dict of texts -/
def spRen (K : PySem.W.Frag) (CS CB : Addr) : Sp := fun vs H Q E => ∃ (a : Addr) (ps ts : List Str) (rs : List R3) (v : V), vs = [.ref a, v] ∧ StAt K CS H a ps ts rs ∧ (∀ r ∈ rs, r.1 ∈ ps ++ ts ∧ r.2.2 ∈ ps ++ ts) ∧
  ((∃ T : String, TyX K H v (.type T) ∧ kitB T "dict" = some false ∧ ∀ d H', Same H H' → H d = none → ErrAt H' d "part" (.str "names") → E (.ref CB) (some d) H') ∨
  ∃ (b : Addr) (ls : List (Str × Str)), v = .ref b ∧ H b = some (.dK (kvD ls)) ∧ (∀ p ∈ ls, p.2.length ≤ 1000) ∧ ls.length < 1000 ∧
    ((ls.all fun p => decide (p.1 ∈ ps ++ ts)) = false → ∀ d H', Same H H' → H d = none → ErrAt H' d "part" (.str "names") → E (.ref CB) (some d) H') ∧
    ((ls.all fun p => decide (p.1 ∈ ps ++ ts)) = true → (∀ e, errD (dS (ps.map (ren ls))) (dS (ts.map (ren ls))) (.lst ((rs.map (renR ls)).map dtR)) = some e → ∀ d H', Same H H' → H d = none → ErrAt H' d "part" (.str e) → E (.ref CB) (some d) H') ∧
      (errD (dS (ps.map (ren ls))) (dS (ts.map (ren ls))) (.lst ((rs.map (renR ls)).map dtR)) = none → ∀ H' x, Same H H' → H x = none → StAt K CS H' x (sortT (ps.map (ren ls))) (sortT (ts.map (ren ls))) (nrm (rs.map (renR ls))) → Q (.ref x) H')))
section
variable {P : Program} {w : World} {K : PySem.W.Frag} {mg : Str → Option Value} {base : Heap} {f fR fW fT fAW fAR CS CB fB cB cdB fI fPa : Addr} {fd fdB fdI fdPa : FuncData}
abbrev nRe : List Str := ["self", "names", "parties", "new", "people", "things", "name", "one", "word", "other"]
theorem scRen : FnScope nRe ["self", "names"] (defScope sRenamed) := ⟨rfl, rfl, rfl, by decide +kernel, rfl, by decide +kernel, by decide +kernel⟩
theorem ok_ren (F : Fun K "renamed" "State.renamed" sRenamed f fd) (T : TxtS P K mg fR fW fT fAW fAR CS CB fB cB cdB fdB)
    (GI : FnOk P w K mg base (L2.CX P w) 3 fI fdI pSI (spInit K CS CB)) (bI : Binds K fdI pSI []) (MK : Mk K CS fI)
    (GP : FnOk P w K mg base CX0 1 fPa fdPa ["self"] (spParties K CS)) (bP : Binds K fdPa ["self"] []) (mP : Meth K CS "parties" fPa) : FnOk P w K mg base (L2.CX P w) 5 f fd ["self", "names"] (spRen K CS CB) := by
  refine F.okX scRen (fun vs H Q E h => ?_) (fun cdv A outer s H vs Q E hr h => ?_)
  · obtain ⟨a, ps, ts, rs, v, rfl, _⟩ := h
    rfl
  · obtain ⟨a, ps, ts, rs, v, rfl, S, inR, hv⟩ := h
    have hr1 : Room 1 _ := hr.mono (by decide)
    have hr2 : Room 2 _ := hr.mono (by decide)
    have hu := hu_of hr
    refine ⟨_, pss_cons (ps_set (i := 2) scRen.nd rfl (Or.inr rfl) (pe_meth0 (pv 0) T.cl mP GP hr1 bP .nil pass0))
      (pss_cons (ps_if (PW.pt (pw_or (pt_not (pt_val (pe_callB call_isi (by rfl) T.r.w.f.isi (by decide +kernel) (pa_cons (pv 1) (pa_cons (pe_bltn (v := .ty "dict") (by rfl) T.r.w.f.dict (by decide +kernel) rfl) pa_nil)))))
          (pw_or1 (pt_not (pt_val (pe_callB (cr_all rfl) (by rfl) T.r.w.f.all (by decide +kernel) (pa_cons (pe_lock
            (pe_lc (own := [("name", 6)]) (g := gName 6) (tt := tYes) (te := tOp (rIn K false) (tVar 6) (tVar 2)) rfl scRen.nd (pi_keys (pv 1)) (blkOk_by (N := nRe) (sc := defScope sRenamed) (by decide +kernel))
              (fun _ _ _ _ _ => pg_name (i := 6) scRen.nd rfl (Or.inl rfl)) (fun _ _ _ _ _ => pts_nil)
              (fun _ _ _ _ _ => pe_cmpR op_in_seq (pv 6) (pv 2) rfl))) pa_nil))))))) (pss_one (ps_raiseBad rfl (takes_of rfl rfl rfl rfl) T.B fld_part T.bB hr2 (by rfl) T.gB (pa_cons pe_str pa_nil))) pss_nil)
      (pss_cons (ps_set (i := 3) scRen.nd rfl (Or.inr rfl)
        (pe_dc (own := [("name", 6)]) (g := gName 6) (tt := tYes) rfl scRen.nd (pi_seq (pv 2)) (blkOk_by (N := nRe) (sc := defScope sRenamed) (by decide +kernel))
          (fun _ _ _ _ _ => pg_name (i := 6) scRen.nd rfl (Or.inl rfl)) (fun _ _ _ _ _ => pts_nil) (fun _ _ _ _ _ => pv 6) (fun _ _ _ _ _ => pe_dget2 (hu_of hr) (pv 1) (pv 6) (pv 6) ⟨rfl, rfl, rfl, rfl⟩)))
      (pss_cons (ps_setLc (i := 4) (own := [("name", 6)]) (g := gName 6) (tt := tYes) (te := tDGet (tVar 3) (tVar 6)) rfl scRen.nd rfl rfl (sw_true rfl rfl rfl (by decide +kernel)) (pi_seq (pe_fld (pv 0) rfl)) (blkOk_by (N := nRe) (sc := defScope sRenamed) (by decide +kernel))
          (fun _ _ _ _ _ => pg_name (i := 6) scRen.nd rfl (Or.inl rfl)) (fun _ _ _ _ _ => pts_nil) (fun _ _ _ _ _ => pe_dget (hu_of hr) (pv 3) (pv 6) (fun _ _ => rfl)))
      (pss_cons (ps_setLc (i := 5) (own := [("name", 6)]) (g := gName 6) (tt := tYes) (te := tDGet (tVar 3) (tVar 6)) rfl scRen.nd rfl rfl (sw_true rfl rfl rfl (by decide +kernel)) (pi_seq (pe_fld (pv 0) rfl)) (blkOk_by (N := nRe) (sc := defScope sRenamed) (by decide +kernel))
          (fun _ _ _ _ _ => pg_name (i := 6) scRen.nd rfl (Or.inl rfl)) (fun _ _ _ _ _ => pts_nil) (fun _ _ _ _ _ => pe_dget (hu_of hr) (pv 3) (pv 6) (fun _ _ => rfl)))
      (pss_one (ps_ret (pe_make (E := E) MK GI hr (by rfl) T.gS bI .nil (passes_call (takes_of rfl rfl rfl rfl) fun _ _ _ _ h => h) (pa_cons (pv 4) (pa_cons (pv 5) (pa_cons
        (pe_lc (own := [("one", 7), ("word", 8), ("other", 9)]) (g := gTup K 3 (gCons (gName 7) (gCons (gName 8) (gCons (gName 9) gNil)))) (tt := tYes) (te := tTup (tCons (tDGet (tVar 3) (tVar 7)) (tCons (tVar 8) (tCons (tDGet (tVar 3) (tVar 9)) tNil)))) rfl scRen.nd (pi_seq (pe_fld (pv 0) rfl)) (blkOk_by (N := nRe) (sc := defScope sRenamed) (by decide +kernel))
            (fun _ _ _ _ _ => pg_tup rfl (pgs_cons (pg_name (i := 7) scRen.nd rfl (Or.inl rfl)) (pgs_cons (pg_name (i := 8) scRen.nd rfl (Or.inl rfl)) (pgs_cons (pg_name (i := 9) scRen.nd rfl (Or.inl rfl)) pgs_nil)))) (fun _ _ _ _ _ => pts_nil)
            (fun _ _ _ _ _ => pe_tup (pa_cons (pe_dget (hu_of hr) (pv 3) (pv 7) (fun _ _ => rfl)) (pa_cons (pv 8) (pa_cons (pe_dget (hu_of hr) (pv 3) (pv 9) (fun _ _ => rfl)) pa_nil))))) pa_nil)))))))))), ?_⟩
    have S0 := S
    obtain ⟨⟨dx, p, t, r, xs, h1, h2, h3, h4, h5⟩, lp, lt, sp, st, sr⟩ := S
    refine ⟨_, rfl, a, dx, _, rfl, h1, flds_no _ _ _ (by decide) (by decide) (by decide), a, ps, ts, rs, rfl, S0, fun H1 l s1 nl hl => ?_⟩
    have hin : ∀ z : Str, z ∈ sortT (ps ++ ts) ↔ z ∈ ps ++ ts := fun z => (sortT_perm _).mem_iff
    rcases hv with ⟨T0, ty, kb, qe⟩ | ⟨b, ls, rfl, hb, lv, nls, qe, qok⟩
    · refine ⟨_, rfl, v, .ty "dict", .type T0, .type "dict", false, rfl, .ty "dict", tyX_same ty s1, kit_ty kb, _, rfl, ?_⟩
      exact iteT (iteT ⟨_, rfl, fun d hd => qe d _ (Same.fresh s1 hd) (Same.no s1 hd) upd_same⟩)
    · have hb1 := s1 _ _ hb
      refine ⟨_, rfl, .ref b, .ty "dict", .type "dict", .type "dict", true, rfl, .ty "dict", .base (.dK hb1), kit_ty (by decide +kernel), _, rfl, iteF ?_⟩
      -- all([name in parties for name in names])
      have lb : l ≠ b := fun z => by rw [z, hb1] at hl; cases hl
      refine ⟨b, .dK (kvD ls), hb1, trivial, fun od => ?_⟩
      have klen : (kvD ls).length = ls.length := List.length_map ..
      refine ⟨_, rfl, b, od, rfl, .inl ⟨kvD ls, upd_same, fun D hD => lcX walk_keysX hD (fun i acc H => acc = ((ls.take i).map fun p => decide (p.1 ∈ ps ++ ts)).map V.bl) (by rw [klen, sizeLine_eq]; omega) (fun _ _ _ _ r _ => r) (by simp) (fun H6 s => s _ _ upd_same) ?_ ?_⟩⟩
      · intro i x H6 acc hi ex s6 e6 r6 Nx yes no
        rw [List.getElem?_map] at ex
        obtain ⟨q, eq, rfl⟩ := Option.map_eq_some_iff.mp ex
        unfold kvD at eq
        rw [List.getElem?_map] at eq
        obtain ⟨pr, epr, rfl⟩ := Option.map_eq_some_iff.mp eq
        have hl6 : H6 l = some (.lst ((sortT (ps ++ ts)).map V.str)) := s6 _ _ (by rw [upd_ne lb]; exact hl)
        refine ⟨rfl, tYes_ok ⟨_, rfl, _, rfl, l, _, rfl, .inl (SqL.of hl6), rfl, flat_strs _, yes _ _ (Same.refl _) ?_⟩⟩
        rw [r6, take_up epr, if_neg Bool.false_ne_true]
        show _ ++ [V.bl (inV (V.str pr.1) _)] = _
        rw [inV_strs]
        have e1 : decide (pr.1 ∈ sortT (ps ++ ts)) = decide (pr.1 ∈ ps ++ ts) := by
          rw [Bool.eq_iff_iff, decide_eq_true_eq, decide_eq_true_eq]
          exact hin _
        rw [e1]
        simp
      · intro H6 acc s6 e6 r6
        rw [klen, List.take_length] at r6
        rw [r6] at e6
        have ne : D ≠ b := fun z => by
          rw [z, upd_same] at hD
          cases hD
        have s7 : Same H1 (upd H6 b (.dK (kvD ls))) := fun c o e => by
          by_cases hc : c = b
          · rw [hc] at e ⊢
            rw [hb1] at e
            cases e
            exact upd_same
          · rw [upd_ne hc]
            refine s6 _ _ ?_
            rw [upd_ne hc]
            exact e
        refine ⟨s6 _ _ upd_same, D, _, rfl, SqL.of (by rw [upd_ne ne, e6]), _, rfl, ?_⟩
        generalize upd H6 b (.dK (kvD ls)) = H7 at s7 ⊢
        have s07 := s1.trans s7
        have ea : (ls.map fun p => decide (p.1 ∈ ps ++ ts)).all id = ls.all fun p => decide (p.1 ∈ ps ++ ts) := by rw [List.all_map]; rfl
        rw [ea]
        cases w1 : ls.all fun p => decide (p.1 ∈ ps ++ ts) with
        | false => exact iteT ⟨_, rfl, fun d hd => qe w1 d _ (Same.fresh s07 hd) (Same.no s07 hd) upd_same⟩
        | true =>
          refine iteF ?_
          obtain ⟨qf, qk⟩ := qok w1
          have hl7 := s7 _ _ hl
          have hb7 := s7 _ _ hb1
          have xl := SqX.list (SqL.of (K := K) hl7)
          -- new = {name: names.get(name, name) for name in parties}
          refine ⟨_, rfl, true, l, _, rfl, xl, fun J wk D2 hD2 => dcX wk hD2 (fun i kvs H => ∀ x, valV kvs (Sum.inr x) = if x ∈ (sortT (ps ++ ts)).take i then some (V.str (ren ls x)) else none) (by rw [List.length_map, sortT_len, List.length_append, sizeLine_eq]; omega) (fun _ _ _ _ r _ => r) (fun x => by simp; rfl) (fun H3 s => xl.same s) ?_ ?_⟩
          · intro i x H8 kvs hi ex s8 e8 r8 Nx yes no
            rw [List.getElem?_map] at ex
            obtain ⟨z, ez, rfl⟩ := Option.map_eq_some_iff.mp ex
            refine ⟨rfl, tYes_ok2 ⟨_, rfl, _, rfl, b, rfl, .inl ⟨_, .inl (s8 _ _ hb7)⟩, _, rfl, _, rfl, _, DGet.k (k := Sum.inr z) (s8 _ _ hb7), ?_⟩⟩
            rw [kvD_get, getD_str]
            refine yes (Sum.inr z) _ H8 (Same.refl _) fun x => ?_
            rw [valV_put, take_up ez, r8 x]
            by_cases hx : x = z
            · subst hx
              rw [if_pos rfl, if_pos (by simp)]
            · rw [if_neg (fun e => hx (Sum.inr.inj e))]
              simp [hx]
          · intro H8 kvs s8 e8 r8
            rw [List.length_map, List.take_length] at r8
            have s08 := s07.trans s8
            have get : ∀ {H9 : Hp} {x : Str}, Same H8 H9 → x ∈ ps ++ ts → DGet H9 D2 (.str x) (some (V.str (ren ls x))) := fun {H9 x} s9 hx => by
              have e := r8 x
              rw [if_pos ((hin x).mpr hx)] at e
              rw [← e]
              exact DGet.k (k := Sum.inr x) (s9 _ _ e8)
            have comp : ∀ {H9 : Hp} {q : Addr} {us : List Str} {J : It} {D3 : Addr} {Qd : Hp → Prop}, Same H8 H9 → H9 q = some (.lst (us.map V.str)) → us.length < 1000 → (∀ x ∈ us, x ∈ ps ++ ts) → Walk J (us.map V.str).length (fun H => SqX K H true q (us.map V.str)) (YAt (us.map V.str)) → H9 D3 = none →
                (∀ o4 o5 : Option V, (∀ H', Same H9 H' → H' D3 = some (.lst ((us.map (ren ls)).map V.str)) → Qd H') →
                ∃ W : Nat → Nat → Hp → Prop, (∃ m, W 0 m (L2.upd H9 D3 (.lst []))) ∧ ∀ i m H, W i m H →
      (J.stop i H ∧ Qd H) ∨ (J.go i H ∧ ∃ Nx : Hp → Prop, (∀ H', Nx H' → ∃ m', m' < m ∧ W (i + 1) m' H') ∧ ∀ x H', J.yld i H x H' → gName 6 x (wipe [some (V.ref a), some (.ref b), some (.ref l), some (.ref D2), o4, o5, none, none, none, none] [6]) H' fun σ2 H2 => wipe σ2 [6] = wipe [some (V.ref a), some (.ref b), some (.ref l), some (.ref D2), o4, o5, none, none, none, none] [6] ∧ tYes σ2 H2 fun b H3 =>
        if b = true then tDGet (tVar 3) (tVar 6) σ2 H3 fun y H4 => ∃ acc, H4 D3 = some (.lst acc) ∧ acc.length < sizeLine ∧ Nx (L2.upd H4 D3 (.lst (acc ++ [y]))) else Nx H3)) := by
              intro H9 q us J D3 Qd s9 hq lu iu wk hD3 o4 o5 fin
              have xq := SqX.list (SqL.of (K := K) hq)
              refine lcX wk hD3 (fun i acc H => acc = (((us.take i).map (ren ls))).map V.str) (by rw [List.length_map, sizeLine_eq]; omega) (fun _ _ _ _ r _ => r) (by simp) (fun H3 s => xq.same s) ?_ ?_
              · intro i x H4 acc hi ex s10 e10 r10 Nx yes no
                rw [List.getElem?_map] at ex
                obtain ⟨z, ez, rfl⟩ := Option.map_eq_some_iff.mp ex
                have zi : z ∈ us := List.mem_of_getElem? ez
                refine ⟨rfl, tYes_ok ⟨_, rfl, _, rfl, D2, _, rfl, get (s9.trans s10) (iu z zi), yes _ _ (Same.refl _) ?_⟩⟩
                rw [r10, take_up ez]
                simp
              · intro H4 acc s10 e10 r10
                rw [List.length_map, List.take_length] at r10
                rw [r10] at e10
                exact fin _ s10 e10
            -- people = [new[name] for name in self.people]
            refine ⟨_, rfl, a, CS, dx, _, _, rfl, s08 _ _ h1, T.cl, T.nP, flds_p _ _ _, true, p, _, rfl, SqX.list (SqL.of (s08 _ _ h2)), fun J wk D3 hD3 => comp (Same.refl _) (s08 _ _ h2) sp (fun x hx => List.mem_append_left _ hx) wk hD3 none none fun H9 s9 e9 => ?_⟩
            have s09 := s08.trans s9
            refine ⟨_, rfl, a, CS, dx, _, _, rfl, s09 _ _ h1, T.cl, T.nT, flds_t _ _ _, true, t, _, rfl, SqX.list (SqL.of (s09 _ _ h3)), fun J wk D4 hD4 => comp s9 (s09 _ _ h3) st (fun x hx => List.mem_append_right _ hx) wk hD4 (some (.ref D3)) none fun HA sA eA => ?_⟩
            have s0A := s09.trans sA
            have e9A := sA _ _ e9
            have s8A := s9.trans sA
            have h5A := DaAll.same s0A h5
            have lx := h5.len
            rw [List.length_map] at lx
            have xr := SqX.list (SqL.of (K := K) (s0A _ _ h4))
            refine ⟨_, rfl, _, rfl, _, rfl, a, CS, dx, _, _, rfl, s0A _ _ h1, T.cl, T.nR, flds_r _ _ _, true, r, xs, rfl, xr, fun J wk D5 hD5 => lcX wk hD5 (fun i acc H => DaAll K (less D5 H) acc (((rs.take i).map (renR ls)).map dtR)) (by rw [sizeLine_eq]; omega) (fun _ _ _ _ r b => DaAll.same (less_but b) r) .nil (fun H3 s => xr.same s) ?_ ?_⟩
            · intro i x HB acc hi ex sB eB rB Nx yes no
              obtain ⟨t0, r1, hr1', rfl, ht, lr1, _⟩ := trip_at (DaAll.same sB h5A) ex
              have m1 := inR r1 (List.mem_of_getElem? hr1')
              refine ⟨t0, _, rfl, ht, rfl, _, _, rfl, _, _, rfl, _, _, rfl, rfl, rfl, tYes_ok ?_⟩
              have D5B : ∀ q, HB q = none → q ≠ D5 := fun q hq z => by rw [z, eB] at hq; cases hq
              refine ⟨_, rfl, _, rfl, D2, _, rfl, get (s8A.trans sB) m1.1, _, rfl, _, rfl, _, rfl, D2, _, rfl, get (s8A.trans sB) m1.2, by show 3 ≤ sizeLine; decide, fun q hq => ?_⟩
              have sq : Same HB (upd HB q (.tup [.str (ren ls r1.1), .str r1.2.1, .str (ren ls r1.2.2)])) := Same.fresh (Same.refl _) hq
              refine yes _ _ sq ?_
              rw [take_up hr1', List.map_append, List.map_append]
              refine DaAll.app (DaAll.same (less_mono sq) rB) (.cons (da_trip (r := renR ls r1) ?_ ⟨ren_len lv lr1.1, lr1.2.1, ren_len lv lr1.2.2⟩) .nil)
              rw [less_ne (D5B q hq), upd_same]
              rfl
            · intro HB acc sB eB rB
              rw [lx, List.take_length] at rB
              have s0B := s0A.trans sB
              have rB2 := DaAll.same less_same rB
              refine mk_read (da_list (l := ps.map (ren ls)) (sB _ _ e9A) (fun x hx => ?_)) (da_list (l := ts.map (ren ls)) (sB _ _ eA) (fun x hx => ?_)) (.lst (SqL.of eB) rB2) (fun l e => ?_) (fun l e => ?_) (fun l e => ?_) (fun e he d H' s4 hd er => qf e he d H' (s0B.trans s4) (Same.no s0B hd) er) (fun ok H' x s4 hx S => ?_)
              · obtain ⟨y, hy, rfl⟩ := List.mem_map.mp hx
                exact ren_len lv (lp y hy)
              · obtain ⟨y, hy, rfl⟩ := List.mem_map.mp hx
                exact ren_len lv (lt y hy)
              · cases e
                rw [List.length_map, List.length_map]
                exact sp
              · cases e
                rw [List.length_map, List.length_map]
                exact st
              · cases e
                rw [List.length_map, List.length_map]
                exact sr
              · rw [sD_strs, sD_strs] at S
                have e3 : r3s (lD (.lst ((rs.map (renR ls)).map dtR))) = rs.map (renR ls) := r3s_map _
                rw [e3] at S
                exact qk ok H' x (s0B.trans s4) (Same.no s0B hx) S
end
end K
set_option Elab.async false
set_option linter.all false
set_option maxRecDepth 100000
set_option maxHeartbeats 4000000
/-! States: iter. -/
namespace K
open PySem L2 Hk
def spIter (CS : Addr) : Sp := fun vs H Q _ => ∃ (a dx p t r : Addr) (xs : List V), vs = [.ref a] ∧ H a = some (.ins CS dx (flds p t r)) ∧ H r = some (.lst xs) ∧ ∀ it, H it = none → Q (.ref it) (upd H it (ItO r it 0))
section
variable {P : Program} {w : World} {K : PySem.W.Frag} {mg : Str → Option Value} {base : Heap} {f fR fW fT fAW fAR CS CB fB cB cdB : Addr} {fd fdB : FuncData}
theorem scIter : FnScope ["self"] ["self"] (defScope sIter) := ⟨rfl, rfl, rfl, by decide +kernel, rfl, by decide +kernel, by decide +kernel⟩
theorem ok_iter (F : Fun K "__iter__" "State.__iter__" sIter f fd) (T : TxtS P K mg fR fW fT fAW fAR CS CB fB cB cdB fdB) : FnOk P w K mg base CX0 1 f fd ["self"] (spIter CS) := by
  refine F.ok scIter (fun vs H Q E h => ?_) (fun cdv A outer s H vs Q E hr h => ?_)
  · obtain ⟨a, dx, p, t, r, xs, rfl, _⟩ := h
    rfl
  · obtain ⟨a, dx, p, t, r, xs, rfl, h1, h2, q⟩ := h
    refine ⟨_, pss_one (ps_ret (pe_callB call_iterL (by rfl) T.r.w.f.iter (by decide +kernel) (pa_cons (pe_fld (pv 0) rfl) pa_nil))), ?_⟩
    exact ⟨_, rfl, a, CS, dx, _, _, rfl, h1, T.cl, T.nR, flds_r _ _ _, r, xs, rfl, SqL.of h2, q⟩
/-- list(state): the reading -/
theorem list_read {H : Hp} {a : Addr} {pn tn : List Str} {rs : List R3} {E : XK} {Q : VK} (S : StAt K CS H a pn tn rs) (q : ∀ l H' xs, Same H H' → H l = none → H' l = some (.lst xs) → DaAll K H' xs (rs.map dtR) → Q (.ref l) H') :
    rListI CS (spIter CS) (spLen K CS) E [.ref a] H Q := by
  have S0 := S
  obtain ⟨⟨dx, p, t, r, xs, h1, h2, h3, h4, h5⟩, lp, lt, sp, st, sr⟩ := S
  have lx := h5.len
  rw [List.length_map] at lx
  refine ⟨a, dx, _, r, xs, rfl, h1, h4, by omega, fun H' s Q' k => ⟨a, dx, p, t, r, xs, rfl, s _ _ h1, s _ _ h4, k⟩, fun H' s Q' k => ⟨a, pn, tn, rs, rfl, S0.same s, by rw [← lx]; exact k⟩, fun l H' s n e => q l H' xs s n e (DaAll.same s h5)⟩
end
end K
set_option Elab.async false
set_option linter.all false
set_option maxRecDepth 100000
set_option maxHeartbeats 4000000
/-! The law's _law_error. -/
namespace K
open PySem L2 Hk LamX
abbrev nEr : List Str := ["call", "found", "e"]
theorem scError : FnScope nEr ["call"] (defScope sError) := ⟨rfl, rfl, rfl, by decide +kernel, rfl, by decide +kernel, by decide +kernel⟩
/-- what the written part says of the three errors -/
structure TxtE (K : PySem.W.Frag) (mg : Str → Option Value) (CR CB CQ : Addr) : Prop where
  isi : mg "isinstance" = none
  gR : mg "RightError" = some (.ref CR)
  gB : mg "BadState" = some (.ref CB)
  gQ : mg "BadParty" = some (.ref CQ)
  eB : PySem.W.exmOne K (.ref CB) (.ref CR) = some true
  eQ : PySem.W.exmOne K (.ref CQ) (.ref CR) = some true
  xB : XfC K CB
  xQ : XfC K CQ
  nB : PySem.W.findIn K (.ref CB) "part" = some none
  nQ : PySem.W.findIn K (.ref CQ) "name" = some none
  cB : ExcC K CB
  cQ : ExcC K CQ
  kBQ : PySem.W.kitOne K (.ref CB) (.ref CQ) = some false
  kQB : PySem.W.kitOne K (.ref CQ) (.ref CB) = some false
/-- the list that tells an error -/
def Told (H : Hp) (l : Addr) (tag v : Str) : Prop := ∃ t, H l = some (.lst [.ref t]) ∧ H t = some (.tup [.str tag, .str v])
/-- what _law_error makes of a lambda that is refused -/
def TErr (CB CQ : Addr) : (XK → Hp → VK → Prop) → Hp → VK → Prop := fun tl H Q => ∀ p, H p = none → ∀ Q' : VK,
  tl (fun cls d H' => ∃ (dd : Addr) (v : Str), d = some dd ∧ H' p = some (.lst []) ∧ ((cls = .ref CB ∧ ErrAt H' dd "part" (.str v) ∧ ∀ H2, But p H' H2 → Told H2 p "state" v → Q (.ref p) H2) ∨ (cls = .ref CQ ∧ ErrAt H' dd "name" (.str v) ∧ ∀ H2, But p H' H2 → Told H2 p "party" v → Q (.ref p) H2)))
    (upd H p (.lst [])) Q'
/-- the suite's two ifs -/
def tApp (K : PySem.W.Frag) (a : Addr) (cls : Value) (d : Option Addr) (tag : Str) (C : Addr) (fld : Str) : TS :=
  tIfS (tB (tCB (rIsD K cls a d) (tCons (tVar 2) (tCons (tC (.ref C)) tNil)))) (tDrop (tBM K "list" rAppend (tVar 1) (tCons (tTup (tCons (tC (.str tag)) (tCons (tXf a cls d C fld (tVar 2)) tNil))) tNil))) tNext
def tSuite (K : PySem.W.Frag) (CB CQ : Addr) : Addr → Value → Option Addr → TS := fun a cls d => tSeq (tApp K a cls d "state" CB "part") (tApp K a cls d "party" CQ "name")
theorem ne_of_none' {H : Hp} {p c : Addr} {o : HO} (h : H p = none) (e : H c = some o) : p ≠ c := fun z => by
  rw [z, e] at h
  cases h
section
variable {X : Cx} {g CR CB CQ : Addr} {cdg : Value} {q : Str} {j : Nat}
theorem error_gives (T : TxtE X.K X.mg CR CB CQ) : GivesS X nEr "_law_error" (defScope sError) g cdg (defBody sError) "call" q j (TErr CB CQ) := by
  intro f c' s H Q tl hr act hc h
  refine ⟨_, pss_cons (ps_set (i := 1) scError.nd rfl (Or.inl rfl) (pe_lst pa_nil))
    (pss_cons (ps_try_as (i := 2) (c := .ref CR) (ts := tSuite X.K CB CQ) (Wout := fun _ _ _ _ => False) rfl rfl scError.nd rfl rfl ⟨by rfl, by decide, .inl T.gR⟩ L2.takes0
      (fun W pn xe tk _ => pss_one (ps_expr (act W pn xe _ _ tk)))
      (fun a oe cls d pn hz hf => pss_cons (ps_if (pt_val (pe_callB (call_isD hz hf) (by rfl) T.isi (by decide +kernel) (pa_cons (pv 2) (pa_cons (pe_glob (v := .ref CB) (by rfl) T.gB rfl) pa_nil))))
          (pss_one (ps_expr (pe_bm PySem.F.plainAttrs_list PySem.F.slot_list_append PySem.F.type_list_append mt_append (pv 1) (pa_cons (pe_tup (pa_cons pe_str (pa_cons (pe_xf T.xB T.nB hz hf (pv 2)) pa_nil))) pa_nil)))) pss_nil)
        (pss_one (ps_if (pt_val (pe_callB (call_isD hz hf) (by rfl) T.isi (by decide +kernel) (pa_cons (pv 2) (pa_cons (pe_glob (v := .ref CQ) (by rfl) T.gQ rfl) pa_nil))))
          (pss_one (ps_expr (pe_bm PySem.F.plainAttrs_list PySem.F.slot_list_append PySem.F.type_list_append mt_append (pv 1) (pa_cons (pe_tup (pa_cons pe_str (pa_cons (pe_xf T.xQ T.nQ hz hf (pv 2)) pa_nil))) pa_nil)))) pss_nil))))
    (pss_one (ps_ret (pv 1)))), ?_⟩
  refine ⟨by show 0 ≤ sizeLine; exact Nat.zero_le _, fun p hp => ?_⟩
  have np : p ≠ c' := ne_of_none' hp hc
  refine ⟨_, fun cls d H' hE => ?_, rfl, (by rw [upd_ne np.symm]; exact hc), h p hp _⟩
  obtain ⟨dd, v, rfl, hp', hE⟩ := hE
  have lk : ∀ (f : Str) (v : V), List.lookup f [(f, v)] = some v := fun f v => by simp [List.lookup]
  rcases hE with ⟨rfl, he, q⟩ | ⟨rfl, he, q⟩
  · refine ⟨true, T.eB, fun _ a0 n0 => ?_, fun z => by cases z⟩
    refine ⟨_, rfl, CB, dd, _, .ref CB, .ref CB, true, rfl, T.cB, rfl, he, rfl, fun u r => r, kit_self CB, _, rfl, iteT ?_⟩
    refine ⟨_, rfl, .inl ⟨rfl, _, SqL.of hp'⟩, _, rfl, rfl, rfl, dd, _, _, rfl, he, lk _ _, by show 2 ≤ sizeLine; decide, fun t ht => ?_⟩
    have npt : p ≠ t := fun z => by rw [z, ht] at hp'; cases hp'
    have b1 : But p H' (upd (upd H' t (.tup [.str "state", .str v])) p (.lst [.ref t])) := (But.rfl'.new ht).upd
    have nd : dd ≠ p := fun z => by unfold ErrAt at he; rw [z, hp'] at he; cases he
    refine ⟨p, [], .ref t, rfl, rfl, by rw [upd_ne npt]; exact hp', by rw [sizeLine_eq]; show 0 < _; decide, ?_⟩
    refine ⟨_, rfl, CB, dd, _, .ref CQ, .ref CQ, false, rfl, T.cB, rfl, b1 _ _ nd he, rfl, fun u r => r, T.kBQ, _, rfl, iteF ?_⟩
    exact ⟨_, rfl, q _ b1 ⟨t, upd_same, by rw [upd_ne npt.symm, upd_same]⟩⟩
  · refine ⟨true, T.eQ, fun _ a0 n0 => ?_, fun z => by cases z⟩
    refine ⟨_, rfl, CQ, dd, _, .ref CB, .ref CB, false, rfl, T.cQ, rfl, he, rfl, fun u r => r, T.kQB, _, rfl, iteF ?_⟩
    refine ⟨_, rfl, CQ, dd, _, .ref CQ, .ref CQ, true, rfl, T.cQ, rfl, he, rfl, fun u r => r, kit_self CQ, _, rfl, iteT ?_⟩
    refine ⟨_, rfl, .inl ⟨rfl, _, SqL.of hp'⟩, _, rfl, rfl, rfl, dd, _, _, rfl, he, lk _ _, by show 2 ≤ sizeLine; decide, fun t ht => ?_⟩
    have npt : p ≠ t := fun z => by rw [z, ht] at hp'; cases hp'
    have b1 : But p H' (upd (upd H' t (.tup [.str "party", .str v])) p (.lst [.ref t])) := (But.rfl'.new ht).upd
    refine ⟨p, [], .ref t, rfl, rfl, by rw [upd_ne npt]; exact hp', by rw [sizeLine_eq]; show 0 < _; decide, ?_⟩
    exact ⟨_, rfl, q _ b1 ⟨t, upd_same, by rw [upd_ne npt.symm, upd_same]⟩⟩
end
end K
set_option Elab.async false
set_option linter.all false
set_option maxRecDepth 100000
set_option maxHeartbeats 4000000
/-! States: taken from. -/
namespace K
open PySem L2 Hk
/-- state - v: v a list or a tuple of rights -/
def spSub (K : PySem.W.Frag) (CS CB : Addr) : Sp := fun vs H Q E => ∃ (a : Addr) (ps ts : List Str) (rs : List R3) (v : V) (d : Dt) (ls : List R3), vs = [.ref a, v] ∧ StAt K CS H a ps ts rs ∧ Da K H v d ∧ rowD d = some (ls.map dtR) ∧ ls.length < 1000 ∧
  (∀ e, errD (dS ps) (dS ts) (.lst ((rs.filter fun r => !decide (r ∈ ls)).map dtR)) = some e → ∀ d H', Same H H' → H d = none → ErrAt H' d "part" (.str e) → E (.ref CB) (some d) H') ∧
  (errD (dS ps) (dS ts) (.lst ((rs.filter fun r => !decide (r ∈ ls)).map dtR)) = none → ∀ H' x, Same H H' → H x = none → StAt K CS H' x (sortT ps) (sortT ts) (nrm (rs.filter fun r => !decide (r ∈ ls))) → Q (.ref x) H')
section
variable {P : Program} {w : World} {K : PySem.W.Frag} {mg : Str → Option Value} {base : Heap} {f fR fW fT fAW fAR CS CB fB cB cdB fI : Addr} {fd fdB fdI fdT : FuncData}
abbrev nSu : List Str := ["self", "rights", "gone", "right"]
theorem scSub : FnScope nSu ["self", "rights"] (defScope sSub) := ⟨rfl, rfl, rfl, by decide +kernel, rfl, by decide +kernel, by decide +kernel⟩
theorem filter_snoc {α : Type} (l : List α) (x : α) (p : α → Bool) : (l ++ [x]).filter p = if p x = true then l.filter p ++ [x] else l.filter p := by
  rw [List.filter_append]
  cases h : p x <;> simp [List.filter_cons, h]
theorem ok_sub (F : Fun K "__sub__" "State.__sub__" sSub f fd) (T : TxtS P K mg fR fW fT fAW fAR CS CB fB cB cdB fdB)
    (GI : FnOk P w K mg base (L2.CX P w) 3 fI fdI pSI (spInit K CS CB)) (bI : Binds K fdI pSI []) (MK : Mk K CS fI)
    (GT : FnOk P w K mg base CX0 1 fT fdT ["value"] (spIsTriple K)) (bT : Binds K fdT ["value"] []) : FnOk P w K mg base (L2.CX P w) 5 f fd ["self", "rights"] (spSub K CS CB) := by
  refine F.okX scSub (fun vs H Q E h => ?_) (fun cdv A outer s H vs Q E hr h => ?_)
  · obtain ⟨a, ps, ts, rs, v, d, ls, rfl, _⟩ := h
    rfl
  · obtain ⟨a, ps, ts, rs, v, d, ls, rfl, S, da, er, sz, qe, qk⟩ := h
    obtain ⟨⟨dx, p, t, r, xs, h1, h2, h3, h4, h5⟩, lp, lt, sp, st, sr⟩ := S
    have hr1 : Room 1 _ := hr.mono (by decide)
    refine ⟨_, pss_cons (ps_set (i := 2) scSub.nd rfl (Or.inr rfl)
        (pe_dcT (own := [("right", 3)]) (g := gName 3) (tt := tB (tCall (spIsTriple K) [] E0 (tCons (tVar 3) tNil))) rfl (hu_of hr) scSub.nd (pi_seq (pv 1)) (blkOk_by (N := nSu) (sc := defScope sSub) (by decide +kernel))
          (fun _ _ _ _ _ => pg_name (i := 3) scSub.nd rfl (Or.inl rfl)) (fun _ _ _ _ _ => pts_one (pt_val (pe_call GT hr1 (by rfl) T.r.gT T.r.kT bT .nil pass0 (pa_cons (pv 3) pa_nil)))) (fun _ _ _ _ _ => pv 3) (fun _ _ _ _ _ => pe_bl)))
      (pss_one (ps_ret (pe_make (E := E) MK GI hr (by rfl) T.gS bI .nil (passes_call (takes_of rfl rfl rfl rfl) fun _ _ _ _ h => h) (pa_cons (pe_fld (pv 0) rfl) (pa_cons (pe_fld (pv 0) rfl) (pa_cons
        (pe_lc (own := [("right", 3)]) (g := gName 3) (tt := tTest (tDNotIn (tVar 3) (tVar 2))) rfl scSub.nd (pi_seq (pe_fld (pv 0) rfl)) (blkOk_by (N := nSu) (sc := defScope sSub) (by decide +kernel))
            (fun _ _ _ _ _ => pg_name (i := 3) scSub.nd rfl (Or.inl rfl)) (fun _ _ _ _ _ => pts_one (pt_cmp (pc_dnotin (hu_of hr) (pv 3) (pv 2))))
            (fun _ _ _ _ _ => pv 3)) pa_nil)))))), ?_⟩
    obtain ⟨b0, c, ys, rfl, hy, hl⟩ := da.row er
    have ly := hl.len
    rw [List.length_map] at ly
    refine ⟨_, rfl, b0, c, ys, rfl, hy, fun J wk D hD => dcTX wk hD (fun i kvs H => ∀ x : R3, (valV kvs (kK x)).isSome = decide (x ∈ ls.take i)) (by rw [sizeLine_eq]; omega) (fun _ _ _ _ r _ => r) (fun x => by simp; rfl) (fun H3 s => hy.same s) ?_ ?_⟩
    · intro i x H2 kvs hi ex s2 e2 r2 Nx yes no
      have hl2 := DaAll.same s2 hl
      obtain ⟨t0, r1, hr1', rfl, ht, lr1, htt⟩ := trip_at hl2 ex
      obtain ⟨dd, ed, dax⟩ := hl2.at ex
      rw [List.getElem?_map, hr1'] at ed
      cases ed
      refine ⟨rfl, ?_⟩
      refine ⟨_, rfl, .ref t0, dtR r1, rfl, dax, true, rfl, iteT ⟨_, rfl, ?_⟩⟩
      refine yes (kK r1) (.bl true) t0 H2 (Same.refl _) htt fun x => ?_
      rw [valV_put, take_up hr1']
      by_cases hx : x = r1
      · subst hx
        rw [if_pos rfl]
        simp
      · rw [if_neg (fun e => hx (kK_inj e)), r2 x, Bool.eq_iff_iff, decide_eq_true_eq, decide_eq_true_eq, List.mem_append, List.mem_singleton]
        exact ⟨.inl, fun z => z.elim id fun z => absurd z hx⟩
    · intro H2 kvs s2 e2 r2
      rw [ly, List.take_length] at r2
      have lx := h5.len
      rw [List.length_map] at lx
      have xr := SqX.list (SqL.of (K := K) (s2 _ _ h4))
      refine ⟨_, rfl, a, CS, dx, _, _, rfl, s2 _ _ h1, T.cl, T.nP, flds_p _ _ _, _, rfl, a, CS, dx, _, _, rfl, s2 _ _ h1, T.cl, T.nT, flds_t _ _ _, _, rfl, a, CS, dx, _, _, rfl, s2 _ _ h1, T.cl, T.nR, flds_r _ _ _, true, r, xs, rfl, xr, fun J wk D3 hD3 =>
        lcX wk hD3 (fun i acc H => DaAll K (less D3 H) acc (((rs.take i).filter fun r => !decide (r ∈ ls)).map dtR)) (by rw [sizeLine_eq]; omega) (fun _ _ _ _ r b => DaAll.same (less_but b) r) .nil (fun H3 s => xr.same s) ?_ ?_⟩
      · intro i x H3 acc hi ex s3 e3 r3 Nx yes no
        have h53 := DaAll.same (s2.trans s3) h5
        obtain ⟨t0, r1, hr1', rfl, ht, lr1, htt⟩ := trip_at h53 ex
        have up : (rs.take (i + 1)).filter (fun r => !decide (r ∈ ls)) = if (!decide (r1 ∈ ls)) = true then (rs.take i).filter (fun r => !decide (r ∈ ls)) ++ [r1] else (rs.take i).filter (fun r => !decide (r ∈ ls)) := by rw [take_up hr1', filter_snoc]
        refine ⟨rfl, ?_⟩
        refine ⟨_, rfl, _, rfl, D, _, rfl, DGet.t (k := kK r1) (s3 _ _ e2) htt, _, rfl, ?_⟩
        rw [r2 r1]
        cases e1 : decide (r1 ∈ ls) with
        | true =>
          refine iteF (no _ (Same.refl _) ?_)
          rw [up, e1]
          exact r3
        | false =>
          refine iteT ⟨_, rfl, yes _ _ (Same.refl _) ?_⟩
          rw [up, e1, if_pos (show (!false) = true from rfl), List.map_append]
          refine DaAll.app r3 (.cons (da_trip (r := r1) ?_ lr1) .nil)
          rw [less_ne (fun z => by rw [z, e3] at htt; cases htt)]
          exact htt
      · intro H3 acc s3 e3 r3
        rw [lx, List.take_length] at r3
        have s03 := s2.trans s3
        refine mk_read (da_list (s03 _ _ h2) lp) (da_list (s03 _ _ h3) lt) (.lst (SqL.of e3) (DaAll.same less_same r3)) (fun l e => ?_) (fun l e => ?_) (fun l e => ?_) (fun e he d H' s4 hd er => qe e he d H' (s03.trans s4) (Same.no s03 hd) er) (fun ok H' x s4 hx S => ?_)
        · cases e
          rw [List.length_map]
          exact sp
        · cases e
          rw [List.length_map]
          exact st
        · cases e
          rw [List.length_map]
          exact Nat.lt_of_le_of_lt (List.length_filter_le _ _) sr
        · rw [sD_strs, sD_strs] at S
          have e4 : r3s (lD (.lst ((rs.filter fun r => !decide (r ∈ ls)).map dtR))) = rs.filter fun r => !decide (r ∈ ls) := r3s_map _
          rw [e4] at S
          exact qk ok H' x (s03.trans s4) (Same.no s03 hx) S
end
end K
set_option Elab.async false
set_option linter.all false
set_option maxRecDepth 100000
set_option maxHeartbeats 4000000
/-! The law's _law_rights. -/
namespace K
open PySem L2 Hk
def lws : List Str := ["r", "use", "w"]
/-- rights between names -/
def RtsOk (names : List Str) (rs : List R3) : Prop := rs.length ≤ 10 ∧ ∀ r ∈ rs, r.1 ∈ names ∧ r.2.1 ∈ lws ∧ r.2.2 ∈ names
def spLRights (K : PySem.W.Frag) : Sp := fun vs H Q _ => ∃ (d n : Addr) (names : List Str), vs = [.ref d, .ref n] ∧ Dr K H d ∧ H n = some (.lst (names.map V.str)) ∧ names ≠ [] ∧ (∀ x ∈ names, x.length ≤ 1000) ∧
  ∀ (H' : Hp) (l : Addr) (xs : List V) (rs : List R3), But d H H' → Dr K H' d → H l = none → l ≠ d → H' l = some (.lst xs) → DaAll K H' xs (rs.map dtR) → RtsOk names rs → Q (.ref l) H'
structure TxtLR (K : PySem.W.Frag) (mg : Str → Option Value) (fX fP : Addr) : Prop where
  gX : mg "_law_next" = some (.ref fX)
  kX : PySem.W.keepIn K (.ref fX) = true
  gP : mg "_law_pick" = some (.ref fP)
  kP : PySem.W.keepIn K (.ref fP) = true
  range : mg "range" = none
theorem lws_len {x : Str} (h : x ∈ lws) : x.length ≤ 1000 := by
  unfold lws at h
  simp only [List.mem_cons, List.not_mem_nil, or_false] at h
  rcases h with rfl | rfl | rfl <;> decide
theorem DaAll.take {K : PySem.W.Frag} {H : Hp} : ∀ {xs : List V} {l : List Dt} (n : Nat), DaAll K H xs l → DaAll K H (xs.take n) (l.take n)
  | _, _, 0, _ => .nil
  | _, _, n + 1, .nil => .nil
  | _, _, n + 1, .cons h t => .cons h (DaAll.take n t)
theorem cut_first (xs : List V) (k : Int) (h : 0 ≤ k) : cutV xs none (some k) = xs.take (min k.toNat xs.length) := by
  unfold cutV
  rw [HT.sIx_none]
  have e : HT.sIx xs.length xs.length (some k) = min k.toNat xs.length := by
    show (if k < 0 then (k + (xs.length : Int)).toNat else min k.toNat xs.length) = min k.toNat xs.length
    rw [if_neg (by omega)]
  rw [e]
  simp
section
variable {P : Program} {w : World} {K : PySem.W.Frag} {mg : Str → Option Value} {base : Heap} {f fX fP : Addr} {fd fdX fdP : FuncData}
abbrev nLR : List Str := ["draw", "names", "found", "turn"]
theorem scLR : FnScope nLR ["draw", "names"] (defScope sRights) := ⟨rfl, rfl, rfl, by decide +kernel, rfl, by decide +kernel, by decide +kernel⟩
theorem ok_lrights (F : Fun K "_law_rights" "_law_rights" sRights f fd) (T : TxtLR K mg fX fP) (GX : FnOk P w K mg base CX0 3 fX fdX ["draw", "bound"] (spNext K)) (bX : Binds K fdX ["draw", "bound"] [])
    (GP : FnOk P w K mg base CX0 4 fP fdP ["draw", "things"] (spPick K)) (bP : Binds K fdP ["draw", "things"] []) : FnOk P w K mg base CX0 5 f fd ["draw", "names"] (spLRights K) := by
  refine F.ok scLR (fun vs H Q E h => ?_) (fun cdv A outer s H vs Q E hr h => ?_)
  · obtain ⟨d, n, names, rfl, _⟩ := h
    rfl
  · obtain ⟨d, n, names, rfl, D, hn, ne, ln, q0⟩ := h
    have hr3 : Room 3 _ := hr.mono (by decide)
    refine ⟨_, pss_cons (ps_set (i := 2) scLR.nd rfl (Or.inl rfl) (pe_lst pa_nil))
      (pss_cons (ps_for PassesOwn.never rfl (pi_range1 (by rfl) T.range (pa_cons (pe_call GX hr3 (by rfl) T.gX T.kX bX .nil pass0 (pa_cons (pv 0) (pa_cons pe_int pa_nil))) pa_nil)) (pg_name (i := 3) scLR.nd rfl (Or.inl rfl))
        (pss_one (ps_expr (pe_bm PySem.F.plainAttrs_list PySem.F.slot_list_append PySem.F.type_list_append mt_append (pv 2) (pa_cons (pe_tup (pa_cons (pe_call GP hr (by rfl) T.gP T.kP bP .nil pass0 (pa_cons (pv 0) (pa_cons (pv 1) pa_nil)))
          (pa_cons (pe_call GP hr (by rfl) T.gP T.kP bP .nil pass0 (pa_cons (pv 0) (pa_cons (pe_lst (pa_cons pe_str (pa_cons pe_str (pa_cons pe_str pa_nil)))) pa_nil))) (pa_cons (pe_call GP hr (by rfl) T.gP T.kP bP .nil pass0 (pa_cons (pv 0) (pa_cons (pv 1) pa_nil))) pa_nil)))) pa_nil)))))
      (pss_one (ps_ret (pe_op op_cat (pv 2) (pe_slice sl_list (pv 2) po_none (po_some (pe_call GX hr3 (by rfl) T.gX T.kX bX .nil pass0 (pa_cons (pv 0) (pa_cons pe_int pa_nil))))))))), ?_⟩
    refine ⟨by show 0 ≤ sizeLine; exact Nat.zero_le _, fun p hp => ?_⟩
    obtain ⟨hdd, hdo⟩ : ∃ o, H d = some o := let ⟨_, _, _, h, _⟩ := D; ⟨_, h⟩
    have pd : p ≠ d := ne_of_none' hp hdo
    have pn : p ≠ n := ne_of_none' hp hn
    have nd : n ≠ d := fun z => by
      obtain ⟨a, ns, k, h, _⟩ := D
      rw [← z, hn] at h
      have e := HO.lst.inj (Option.some.inj h)
      cases names with
      | nil => exact ne rfl
      | cons x l => cases e
    have s1 : Same H (upd H p (.lst [])) := Same.fresh (Same.refl _) hp
    have step : ∀ {H2 : Hp}, But d H H2 → H2 n = some (.lst (names.map V.str)) := fun b => b _ _ nd hn
    refine ⟨_, rfl, d, 9, rfl, D.same s1, by decide, fun k0 H2 h0 h9 b2 D2 g2 => ⟨k0, rfl, by omega, by omega, ?_⟩⟩
    have bH2 : But d H H2 := (But.of s1).trans b2
    have p2 : H2 p = some (.lst []) := b2 _ _ pd upd_same
    refine for_range (lo := 0) (n := k0.toNat) (fun i σ H' => ∃ (v : Option V) (xs : List V) (rs : List R3), σ = [some (.ref d), some (.ref n), some (.ref p), v] ∧ But d H H' ∧ Go H H' d ∧ H' p = some (.lst xs) ∧ DaAll K (less p (less d H')) xs (rs.map dtR) ∧ rs.length = i ∧ ∀ r ∈ rs, r.1 ∈ names ∧ r.2.1 ∈ lws ∧ r.2.2 ∈ names)
      ⟨none, [], [], rfl, bH2, (Go.rfl'.same fun o e => s1 _ _ e).trans g2, p2, .nil, rfl, fun r h => (List.not_mem_nil h).elim⟩ ?_ ?_
    · rintro i σ H3 hi ⟨v, xs, rs, rfl, b3, g3, p3, da, lr, ok⟩
      have D3 := D.go b3 g3
      have lx := da.len
      rw [List.length_map] at lx
      have nes : names.map V.str ≠ [] := fun z => ne (List.map_eq_nil_iff.mp z)
      refine ⟨_, rfl, .inl ⟨rfl, _, SqL.of p3⟩, ?_⟩
      refine ⟨_, rfl, _, rfl, d, n, _, rfl, D3, nd, .inl (SqL.of (step b3)), nes, fun v1 H4 m1 b4 D4 g4 => ?_⟩
      obtain ⟨x1, hx1, rfl⟩ := List.mem_map.mp m1
      have b04 := b3.trans b4
      refine ⟨_, rfl, by show 3 ≤ sizeLine; decide, fun q hq => ?_⟩
      have qd : q ≠ d := by
        obtain ⟨_, _, _, h, _⟩ := D4
        exact ne_of_none' hq h
      have s5 : Same H4 (upd H4 q (.lst [.str "r", .str "use", .str "w"])) := Same.fresh (Same.refl _) hq
      refine ⟨d, q, _, rfl, D4.same s5, qd, .inl (SqL.of upd_same), by simp, fun v2 H6 m2 b6 D6 g6 => ?_⟩
      obtain ⟨x2, hx2, rfl⟩ : ∃ x ∈ lws, V.str x = v2 := List.mem_map.mp (show v2 ∈ lws.map V.str from m2)
      have b06 := (b04.trans (But.of s5)).trans b6
      refine ⟨_, rfl, _, rfl, d, n, _, rfl, D6, nd, .inl (SqL.of (step b06)), nes, fun v3 H7 m3 b7 D7 g7 => ?_⟩
      obtain ⟨x3, hx3, rfl⟩ := List.mem_map.mp m3
      have b07 := b06.trans b7
      have b37 : But d H3 H7 := ((b4.trans (But.of s5)).trans b6).trans b7
      refine ⟨by show 3 ≤ sizeLine; decide, fun t ht => ?_⟩
      have p7 := b37 _ _ pd p3
      have pt : t ≠ p := fun z => by rw [z, p7] at ht; cases ht
      have td : t ≠ d := by
        obtain ⟨_, _, _, h, _⟩ := D7
        exact ne_of_none' ht h
      have s8 : Same H7 (upd H7 t (.tup [.str x1, .str x2, .str x3])) := Same.fresh (Same.refl _) ht
      refine ⟨p, xs, .ref t, rfl, rfl, by rw [upd_ne pt.symm]; exact p7, by rw [sizeLine_eq]; omega, ?_⟩
      have bF : But d H (upd (upd H7 t (.tup [.str x1, .str x2, .str x3])) p (.lst (xs ++ [.ref t]))) := But.put (b07.trans (But.of s8)) hp
      have g37 : Go H3 H7 d := ((g4.same fun o e => s5 _ _ e).trans g6).trans g7
      have gF : Go H (upd (upd H7 t (.tup [.str x1, .str x2, .str x3])) p (.lst (xs ++ [.ref t]))) d := (g3.trans g37).same fun o e => by rw [upd_ne pd.symm]; exact s8 _ _ e
      refine ⟨some (.int (0 + i)), xs ++ [.ref t], rs ++ [(x1, x2, x3)], rfl, bF, gF, upd_same, ?_, by rw [List.length_append, lr]; rfl, fun r hr0 => ?_⟩
      · rw [List.map_append]
        have m1 : Same (less p (less d H3)) (less p (less d (upd H7 t (.tup [.str x1, .str x2, .str x3])))) := less_mono ((less_but b37).trans (less_mono s8))
        have m2 : Same (less p (less d (upd H7 t (.tup [.str x1, .str x2, .str x3])))) (less p (less d (upd (upd H7 t (.tup [.str x1, .str x2, .str x3])) p (.lst (xs ++ [.ref t]))))) := less_but fun b o hb e => by
          by_cases hbd : b = d
          · rw [hbd] at e
            unfold less at e
            rw [if_pos rfl] at e
            cases e
          · rw [less_ne hbd] at e ⊢
            rw [upd_ne hb]
            exact e
        refine DaAll.app (DaAll.same (m1.trans m2) da) (.cons (da_trip (r := (x1, x2, x3)) ?_ ⟨ln _ hx1, lws_len hx2, ln _ hx3⟩) .nil)
        rw [less_ne pt, less_ne td, upd_ne pt, upd_same]
        rfl
      · rcases List.mem_append.mp hr0 with h | h
        · exact ok r h
        · rw [List.mem_singleton] at h
          subst h
          exact ⟨hx1, hx2, hx3⟩
    · rintro σ H3 ⟨v, xs, rs, rfl, b3, g3, p3, da, lr, ok⟩
      have D3 := D.go b3 g3
      have lx := da.len
      rw [List.length_map] at lx
      refine ⟨_, rfl, _, rfl, _, rfl, d, 3, rfl, D3, by decide, fun k1 H4 h10 h13 b4 D4 g4 => ⟨k1, rfl, p, xs, rfl, SqL.of (b4 _ _ pd p3), fun q hq => ?_⟩⟩
      rw [cut_first xs k1 h10]
      have p4 := b4 _ _ pd p3
      have qp : p ≠ q := fun z => by rw [← z, p4] at hq; cases hq
      have lm : (min k1.toNat xs.length) ≤ 2 := by omega
      have s5 : Same H4 (upd H4 q (.lst (xs.take (min k1.toNat xs.length)))) := Same.fresh (Same.refl _) hq
      refine ⟨p, q, xs, xs.take (min k1.toNat xs.length), rfl, rfl, s5 _ _ p4, upd_same, by rw [List.length_take, sizeLine_eq]; omega, fun l hl => ?_⟩
      have s6 := Same.fresh (o := .lst (xs ++ xs.take (min k1.toNat xs.length))) s5 hl
      have b6 := (b3.trans b4).trans (But.of s6)
      have daF : DaAll K (upd (upd H4 q (.lst (xs.take (min k1.toNat xs.length)))) l (.lst (xs ++ xs.take (min k1.toNat xs.length)))) xs (rs.map dtR) :=
        DaAll.same (((less_mono (less_but b4)).trans (less_same.trans less_same)).trans s6) da
      have lH : H l = none := by
        cases e : H l with
        | none => rfl
        | some o =>
          by_cases hld : l = d
          · obtain ⟨_, _, _, h, _⟩ := D4.same s5
            rw [hld, h] at hl
            cases hl
          · rw [((b3.trans b4).trans (But.of s5)) l o hld e] at hl
            cases hl
      have hld : l ≠ d := fun z => by
        obtain ⟨_, _, _, h, _⟩ := D4.same s5
        rw [z, h] at hl
        cases hl
      refine q0 _ l _ (rs ++ rs.take (min k1.toNat xs.length)) b6 (D4.same s6) lH hld upd_same ?_ ⟨?_, fun r hr0 => ?_⟩
      · rw [List.map_append, List.map_take]
        exact DaAll.app daF (DaAll.take _ daF)
      · rw [List.length_append, List.length_take, lr]
        omega
      · rcases List.mem_append.mp hr0 with h | h
        · exact ok r h
        · exact ok r (List.mem_of_mem_take h)
end
end K
set_option Elab.async false
set_option linter.all false
set_option maxRecDepth 100000
set_option maxHeartbeats 4000000
/-! What stays where a lambda is made; the told error compared. -/
namespace K
open PySem L2 Hk LamX
section
variable {K : PySem.W.Frag} {H H' : Hp}
theorem SqX.ext {b : Bool} {a : Addr} {xs : List V} (x : ExtN H H') (h : SqX K H b a xs) : SqX K H' b a xs := by
  cases b with
  | true =>
    rcases (show SqL K H a xs from h) with (h | ⟨o, h⟩) | h
    · exact SqX.list (.inl (.inl (x _ _ h (fun _ z => nomatch z))))
    · exact SqX.list (.inl (.inr ⟨o, x _ _ h (fun _ z => nomatch z)⟩))
    · exact SqX.list (.inr h)
  | false =>
    rcases (show SqT K H a xs from h) with (h | ⟨o, h⟩) | h
    · exact SqX.tup (.inl (.inl (x _ _ h (fun _ z => nomatch z))))
    · exact SqX.tup (.inl (.inr ⟨o, x _ _ h (fun _ z => nomatch z)⟩))
    · exact SqX.tup (.inr h)
mutual
theorem Da.ext (x : ExtN H H') : ∀ {v : V} {t : Dt}, Da K H v t → Da K H' v t
  | _, _, .non => .non
  | _, _, .dct h => .dct (x _ _ h (fun _ z => nomatch z))
  | _, _, .int i => .int i
  | _, _, .str z l => .str z l
  | _, _, .lst h l => .lst (SqX.ext (b := true) x h) (DaAll.ext x l)
  | _, _, .tup h l => .tup (x _ _ h (fun _ z => nomatch z)) (DaAll.ext x l)
  | _, _, .nul h => .nul (SqX.ext (b := false) x h)
theorem DaAll.ext (x : ExtN H H') : ∀ {v : List V} {t : List Dt}, DaAll K H v t → DaAll K H' v t
  | _, _, .nil => .nil
  | _, _, .cons h t => .cons (Da.ext x h) (DaAll.ext x t)
end
theorem StAt.ext {CS a : Addr} {ps ts : List Str} {rs : List R3} (x : ExtN H H') (S : StAt K CS H a ps ts rs) : StAt K CS H' a ps ts rs := by
  obtain ⟨⟨dx, p, t, r, xs, h1, h2, h3, h4, h5⟩, lp, lt, sp, st, sr⟩ := S
  exact ⟨⟨dx, p, t, r, xs, x _ _ h1 (fun _ z => nomatch z), x _ _ h2 (fun _ z => nomatch z), x _ _ h3 (fun _ z => nomatch z), x _ _ h4 (fun _ z => nomatch z), DaAll.ext x h5⟩, lp, lt, sp, st, sr⟩
theorem Dr.ext {d : Addr} (x : ExtN H H') (D : Dr K H d) : Dr K H' d := by
  obtain ⟨a, ns, k, h1, h2, h3, h4⟩ := D
  exact ⟨a, ns, k, x _ _ h1 (fun _ z => nomatch z), SqX.ext (b := true) x h2, h3, h4⟩
theorem Tabs.same {T : List (Addr × Str)} (t : Tabs T H) (s : Same H H') : Tabs T H' := t.ext s
theorem ExtN.same {H H1 H2 : Hp} (x : ExtN H H1) (s : Same H1 H2) : ExtN H H2 := x.trans (ExtN.of s)
/-- the told error against a written one -/
theorem told_cmp {σ : L2.St} {p : Addr} {tag v tag' v' : Str} {neg : Bool} {Q : VK} (ht : Told H p tag v)
    (q : ∀ H3, Same H H3 → Q (.bl (if neg then !decide (tag = tag' ∧ v = v') else decide (tag = tag' ∧ v = v'))) H3) :
    tLst (tCons (tTup (tCons (tC (.str tag')) (tCons (tC (.str v')) tNil))) tNil) σ H (fun y H3 => rEqP K neg (.ref p) y H3 Q) := by
  obtain ⟨t, h1, h2⟩ := ht
  refine ⟨by show 2 ≤ sizeLine; decide, fun q1 hq1 => ⟨by show 1 ≤ sizeLine; decide, fun q2 hq2 => ?_⟩⟩
  have s1 : Same H (upd H q1 (.tup [.str tag', .str v'])) := Same.fresh (Same.refl _) hq1
  have s2 := Same.fresh (o := .lst [.ref q1]) s1 hq2
  have n12 : q1 ≠ q2 := fun z => by
    rw [← z, upd_same] at hq2
    cases hq2
  refine ⟨.list [.tuple [.str tag, .str v]], .list [.tuple [.str tag', .str v']], .lst (SqL.of (s2 _ _ h1)) (.cons (.tup (.inl (.inl (s2 _ _ h2))) (.cons (.str _) (.cons (.str _) .nil))) .nil),
    .lst (SqL.of upd_same) (.cons (.tup (.inl (.inl (by rw [upd_ne n12, upd_same]))) (.cons (.str _) (.cons (.str _) .nil))) .nil), rfl, rfl, by show 2 ≤ 60; decide, ?_⟩
  have e : PyData.eqv (.list [.tuple [.str tag, .str v]]) (.list [.tuple [.str tag', .str v']]) = decide (tag = tag' ∧ v = v') := by
    simp only [PyData.eqv, PyData.eqvAll, Bool.and_true]
    rw [Bool.eq_iff_iff, Bool.and_eq_true, beq_iff_eq, beq_iff_eq, decide_eq_true_eq]
  rw [e]
  exact q _ s2
end
end K
set_option Elab.async false
set_option linter.all false
set_option maxRecDepth 100000
set_option maxHeartbeats 4000000
/-! One check of a refusal. -/
namespace K
open PySem L2 Hk LamX
/-- which error: its class, its field, its tag -/
inductive Knd where | st | pa
def Knd.c (CB CQ : Addr) : Knd → Addr | .st => CB | .pa => CQ
def Knd.f : Knd → Str | .st => "part" | .pa => "name"
def Knd.t : Knd → Str | .st => "state" | .pa => "party"
/-- the lambda's body ends in the error k of v, the rest goes on -/
def Refs (CB CQ : Addr) (k : Knd) (v : Str) (t : XK → TE) (σ : L2.St) (H : Hp) : Prop :=
  ∀ H1, ExtN H H1 → ∀ E : XK, (∀ d H', Same H1 H' → H1 d = none → ErrAt H' d k.f (.str v) → E (.ref (k.c CB CQ)) (some d) H') → ∀ Q', t E σ H1 Q'
def chkR (T : List (Addr × Str)) (CB CQ : Addr) (k : Knd) (v : Str) (t : XK → TE) : TS := fun D σ H => Tabs T H ∧ Refs CB CQ k v t σ H ∧ ∀ H3, ExtN H H3 → Tabs T H3 → D.nx σ H3
def chkE (T : List (Addr × Str)) (CB CQ : Addr) (k : Knd) (v : Str) (t : XK → TE) : TS := fun D σ H => Tabs T H ∧ Refs CB CQ k v t σ H ∧ ∀ H3, ExtN H H3 → Tabs T H3 → D.rt (.bl true) H3
/-- the heart: the lambda's call, then the comparison -/
theorem chk_read {T : List (Addr × Str)} {CB CQ : Addr} {k : Knd} {v : Str} {t : XK → TE} {K : PySem.W.Frag} {neg : Bool} {σ : L2.St} {H : Hp} {Q : VK} (hT : Tabs T H) (hr : Refs CB CQ k v t σ H)
    (q : ∀ H3, ExtN H H3 → Tabs T H3 → Q (.bl (!neg)) H3) :
    tLam T (TErr CB CQ) t σ H (fun x H1 => tLst (tCons (tTup (tCons (tC (.str k.t)) (tCons (tC (.str v)) tNil))) tNil) σ H1 fun y H2 => rEqP K neg x y H2 Q) := by
  refine ⟨hT, fun H1 x1 T1 p hp Q' => ?_⟩
  have s0 : Same H1 (upd H1 p (.lst [])) := Same.fresh (Same.refl _) hp
  refine hr _ (ExtN.same x1 s0) _ (fun d H' s1 hd he => ?_) Q'
  have hp' : H' p = some (.lst []) := s1 _ _ upd_same
  have fin : ∀ H2, But p H' H2 → Told H2 p k.t v → tLst (tCons (tTup (tCons (tC (.str k.t)) (tCons (tC (.str v)) tNil))) tNil) σ H2 fun y H3 => rEqP K neg (.ref p) y H3 Q := fun H2 b2 tl => by
    have s2 : Same H1 H2 := fun c o e => b2 c o (ne_of_none e hp) (s1 c o (s0 c o e))
    refine told_cmp tl fun H3 s3 => ?_
    have e : (if neg then !decide (k.t = k.t ∧ v = v) else decide (k.t = k.t ∧ v = v)) = !neg := by
      cases neg <;> simp
    rw [e]
    exact q H3 (ExtN.same x1 (s2.trans s3)) (Tabs.same T1 (s2.trans s3))
  cases k with
  | st => exact ⟨d, v, rfl, hp', .inl ⟨rfl, he, fin⟩⟩
  | pa => exact ⟨d, v, rfl, hp', .inr ⟨rfl, he, fin⟩⟩
section
variable {X : Cx} {T : List (Addr × Str)} {CB CQ : Addr} {t : XK → TE} {e : Expr} {k : Knd} {v : Str}
theorem ps_chk {j1 j2 j3 : Nat} {b1 b2 b3 b4 b5 b6 b7 b8 : Pos} {x1} (hu : X.A.units + 64 < cLine) (L : PE X e (tLam T (TErr CB CQ) t)) (hn : behindInMarks .NotEq (.List [.Tuple [.Constant (.str k.t) j1 b1, .Constant (.str v) j2 b2] x1 b3] b4) = false) :
    PS X (.If (.Compare e [.NotEq] [.List [.Tuple [.Constant (.str k.t) j1 b1, .Constant (.str v) j2 b2] x1 b3] b4] b5) [.Return (some (.Constant (.bool false) j3 b6)) b7] [] b8) (chkR T CB CQ k v t) := by
  have P0 := ps_if (pos := b8) (pt_cmpR (pos := b5) (op_neP hu) L (pe_lst (pos := b4) (pa_cons (pe_tup (x1 := x1) (pos := b3) (pa_cons (pe_str (x := k.t) (j := j1) (pos := b1)) (pa_cons (pe_str (x := v) (j := j2) (pos := b2)) pa_nil))) pa_nil)) hn) (pss_one (ps_ret (pos := b7) (pe_bl (X := X) (b := false) (j := j3) (pos := b6)))) pss_nil
  refine ⟨fun pins s σ H D I ⟨hT, hr, q⟩ => P0.run pins s σ H D I ?_⟩
  exact chk_read hT hr fun H3 x3 T3 => ⟨_, rfl, iteF (q H3 x3 T3)⟩
theorem ps_chkE {j1 j2 : Nat} {b1 b2 b3 b4 b5 b6 : Pos} {x1} (hu : X.A.units + 64 < cLine) (L : PE X e (tLam T (TErr CB CQ) t)) (hn : behindInMarks .Eq (.List [.Tuple [.Constant (.str k.t) j1 b1, .Constant (.str v) j2 b2] x1 b3] b4) = false) :
    PS X (.Return (some (.Compare e [.Eq] [.List [.Tuple [.Constant (.str k.t) j1 b1, .Constant (.str v) j2 b2] x1 b3] b4] b5)) b6) (chkE T CB CQ k v t) := by
  have P0 := ps_ret (pos := b6) (pe_cmpR (pos := b5) (op_eqP hu) L (pe_lst (pos := b4) (pa_cons (pe_tup (x1 := x1) (pos := b3) (pa_cons (pe_str (x := k.t) (j := j1) (pos := b1)) (pa_cons (pe_str (x := v) (j := j2) (pos := b2)) pa_nil))) pa_nil)) hn)
  refine ⟨fun pins s σ H D I ⟨hT, hr, q⟩ => P0.run pins s σ H D I ?_⟩
  exact chk_read (neg := false) hT hr q
end
end K
set_option Elab.async false
set_option linter.all false
set_option maxRecDepth 100000
set_option maxHeartbeats 4000000
/-! Written data, read; what the checks of a refusal ask. -/
namespace K
open PySem L2 Hk LamX
mutual
def teD : Dt → TE
  | .non => tC .non
  | .dct => tDNewK
  | .int i => tC (.int i)
  | .str x => tC (.str x)
  | .lst l => tLst (taD l)
  | .tup l => tTup (taD l)
def taD : List Dt → TA
  | [] => tNil
  | d :: l => tCons (teD d) (taD l)
end
mutual
def okD : Dt → Bool
  | .non => true
  | .dct => true
  | .int _ => true
  | .str x => decide (x.length ≤ 1000)
  | .lst l => okA l && decide (l.length ≤ 1000)
  | .tup l => okA l && decide (l.length ≤ 1000)
def okA : List Dt → Bool
  | [] => true
  | d :: l => okD d && okA l
end
section
variable {K : PySem.W.Frag} {d : Addr}
theorem less_fresh {H : Hp} {a : Addr} {o o2 : HO} (hd : H d = some o) (ha : H a = none) : less d (upd H a o2) a = some o2 := by
  have n : a ≠ d := fun z => by rw [z, hd] at ha; cases ha
  rw [less_ne n, upd_same]
theorem DaAll.length {H : Hp} : ∀ {xs : List V} {l : List Dt}, DaAll K H xs l → xs.length = l.length
  | _, _, .nil => rfl
  | _, _, .cons _ t => by rw [List.length_cons, List.length_cons, DaAll.length t]
mutual
/-- written data, made; d is none of it -/
theorem teD_read {σ : L2.St} : ∀ (t : Dt), okD t = true → ∀ {H : Hp} {o : HO} {R : VK}, H d = some o → (∀ v H', Same H H' → Da K (less d H') v t → R v H') → teD t σ H R
  | .non, _, H, _, _, _, q => q .non H (Same.refl _) .non
  | .dct, _, H, _, _, hd, q => fun a ha => q _ _ (Same.fresh (Same.refl _) ha) (.dct (less_fresh hd ha))
  | .int i, _, H, _, _, _, q => q _ H (Same.refl _) (.int i)
  | .str x, h, H, _, _, _, q => q _ H (Same.refl _) (.str x (of_decide_eq_true h))
  | .lst l, h, H, _, R, hd, q => by
    have h2 : (okA l && decide (l.length ≤ 1000)) = true := h
    rw [Bool.and_eq_true, decide_eq_true_eq] at h2
    refine taD_read (R := fun xs H1 => xs.length ≤ sizeLine ∧ ∀ p, H1 p = none → R (.ref p) (upd H1 p (.lst xs))) l h2.1 hd fun vs H1 s1 da => ⟨by rw [sizeLine_eq, da.length]; omega, fun p hp => ?_⟩
    have s2 : Same H1 (upd H1 p (.lst vs)) := Same.fresh (Same.refl _) hp
    exact q _ _ (s1.trans s2) (.lst (SqL.of (less_fresh (s1 _ _ hd) hp)) (DaAll.same (less_mono s2) da))
  | .tup l, h, H, _, R, hd, q => by
    have h2 : (okA l && decide (l.length ≤ 1000)) = true := h
    rw [Bool.and_eq_true, decide_eq_true_eq] at h2
    refine taD_read (R := fun xs H1 => xs.length ≤ sizeLine ∧ ∀ p, H1 p = none → R (.ref p) (upd H1 p (.tup xs))) l h2.1 hd fun vs H1 s1 da => ⟨by rw [sizeLine_eq, da.length]; omega, fun p hp => ?_⟩
    have s2 : Same H1 (upd H1 p (.tup vs)) := Same.fresh (Same.refl _) hp
    exact q _ _ (s1.trans s2) (.tup (less_fresh (s1 _ _ hd) hp) (DaAll.same (less_mono s2) da))
theorem taD_read {σ : L2.St} : ∀ (l : List Dt), okA l = true → ∀ {H : Hp} {o : HO} {R : List V → Hp → Prop}, H d = some o → (∀ vs H', Same H H' → DaAll K (less d H') vs l → R vs H') → taD l σ H R
  | [], _, H, _, _, _, q => q [] H (Same.refl _) .nil
  | t :: l, h, H, _, R, hd, q => by
    have h2 : (okD t && okA l) = true := h
    rw [Bool.and_eq_true] at h2
    refine teD_read (R := fun x H1 => taD l σ H1 fun xs H2 => R (x :: xs) H2) t h2.1 hd fun v H1 s1 da => ?_
    refine taD_read (R := fun xs H2 => R (v :: xs) H2) l h2.2 (s1 _ _ hd) fun vs H2 s2 das => q _ _ (s1.trans s2) (.cons (Da.same (less_mono s2) da) das)
end
theorem DaAll.mem {H : Hp} {v : V} : ∀ {xs : List V} {l : List Dt}, DaAll K H xs l → v ∈ xs → ∃ t ∈ l, Da K H v t
  | _, _, .nil, h => (List.not_mem_nil h).elim
  | _, _, .cons h t, m => by
    rcases List.mem_cons.mp m with rfl | m
    · exact ⟨_, List.mem_cons_self, h⟩
    · obtain ⟨t, ht, da⟩ := DaAll.mem t m
      exact ⟨t, List.mem_cons_of_mem _ ht, da⟩
/-- rights, but for what is at d -/
theorem DaAll.lessR {H : Hp} (hd : ∃ xs, H d = some (.lst xs)) {xs : List V} {rs : List R3} (h : DaAll K H xs (rs.map dtR)) : DaAll K (less d H) xs (rs.map dtR) := by
  obtain ⟨xs0, hd⟩ := hd
  obtain ⟨ks, rfl, e2, e3, e4⟩ := trip_kt h
  have e5 : (ks.map fun q => unR q.2) = rs := by
    have := congrArg (List.map unR) e2
    rw [List.map_map, List.map_map] at this
    have e6 : rs.map (unR ∘ kK) = rs := by
      conv => rhs; rw [← List.map_id rs]
      rfl
    rw [e6] at this
    exact this
  rw [← e5]
  refine kt_trip fun q hq => ?_
  have m : q.2 ∈ rs.map kK := by
    rw [← e2]
    exact List.mem_map.mpr ⟨q, hq, rfl⟩
  obtain ⟨r, hr, e⟩ := List.mem_map.mp m
  refine ⟨r, e.symm, e4 r hr, ?_⟩
  have h3 := e3 q hq
  rw [less_ne (fun z => by rw [z, hd] at h3; cases h3)]
  exact h3
/-- a draw leaves a state as it is -/
theorem StAt.but {CS a : Addr} {ps ts : List Str} {rs : List R3} {H H' : Hp} (S : StAt K CS H a ps ts rs) (D : Dr K H d) (b : But d H H') : StAt K CS H' a ps ts rs := by
  obtain ⟨⟨dx, p, t, r, xs, h1, h2, h3, h4, h5⟩, lp, lt, sp, st, sr⟩ := S
  obtain ⟨A, ns, k, hd, _⟩ := D
  have nS : ∀ {c : Addr} {l : List Str}, H c = some (.lst (l.map V.str)) → c ≠ d := fun {c l} e z => by
    rw [z, hd] at e
    have e2 := HO.lst.inj (Option.some.inj e)
    cases l with
    | nil => cases e2
    | cons x l => cases e2
  have nr : r ≠ d := fun z => by
    rw [z, hd] at h4
    have e2 := HO.lst.inj (Option.some.inj h4)
    rw [← e2] at h5
    obtain ⟨ks, e, _⟩ := trip_kt h5
    match ks, e with
    | [], e => cases e
    | [_], e => cases e
    | _ :: _ :: _, e => cases e
  refine ⟨⟨dx, p, t, r, xs, b _ _ (fun z => by rw [z, hd] at h1; cases h1) h1, b _ _ (nS h2) h2, b _ _ (nS h3) h3, b _ _ nr h4, ?_⟩, lp, lt, sp, st, sr⟩
  exact DaAll.same ((less_but b).trans less_same) (h5.lessR ⟨_, hd⟩)
/-- State(..) in a lambda is refused -/
theorem refs_make {CS CB CQ : Addr} {e : Str} {dp dt dr : Dt} {dvs : List V} {ta : TA} {σ : L2.St} {H : Hp} (he : errD dp dt dr = some e)
    (sp : ∀ l, rowD dp = some l → l.length < 1000) (st : ∀ l, rowD dt = some l → l.length < 1000) (sr : ∀ l, rowD dr = some l → l.length < 64)
    (h : ∀ H1, ExtN H H1 → ∀ R : List V → Hp → Prop, (∀ vs H2 vp vt vr, vs ++ dvs = [vp, vt, vr] → Same H1 H2 → Da K H2 vp dp → Da K H2 vt dt → Da K H2 vr dr → R vs H2) → ta σ H1 R) :
    Refs CB CQ .st e (fun E' => tMake CS (spInit K CS CB) dvs E' ta) σ H := by
  intro H1 x1 E hE Q'
  refine h H1 x1 _ fun vs H2 vp vt vr ev s2 d1 d2 d3 x dx hx hdx ne => ?_
  rw [ev]
  exact mk_read (E := E) d1 d2 d3 sp st sr (fun e' he' d H' s hd er => by rw [he] at he'; cases he'; exact hE d H' (s2.trans s) (Same.no s2 hd) er) (fun ok => by rw [he] at ok; cases ok) x dx hx hdx ne
/-- written data in a list of its own -/
theorem lstD_read {σ : L2.St} {l : List Dt} (h : okA l = true) (hz : l.length ≤ 1000) {H : Hp} {o : HO} {R : VK} (hd : H d = some o) (q : ∀ p vs H', Same H H' → p ≠ d → H' p = some (.lst vs) → DaAll K (less d H') vs l → R (.ref p) H') : tLst (taD l) σ H R := by
  refine taD_read (K := K) (R := fun xs H1 => xs.length ≤ sizeLine ∧ ∀ p, H1 p = none → R (.ref p) (upd H1 p (.lst xs))) l h hd fun vs H1 s1 da => ⟨by rw [sizeLine_eq, da.length]; omega, fun p hp => ?_⟩
  have s2 : Same H1 (upd H1 p (.lst vs)) := Same.fresh (Same.refl _) hp
  exact q p vs _ (s1.trans s2) (fun z => by have := s1 _ _ hd; rw [← z, hp] at this; cases this) upd_same (DaAll.same (less_mono s2) da)
/-- State(two written values) in a lambda is refused -/
theorem refs_lit {CS CB CQ T0 : Addr} {e : Str} {dp dt : Dt} {σ : L2.St} {H : Hp} {xs : List V} (hd : H d = some (.lst xs)) (hT0 : ∀ H, SqT K H T0 []) (ok : okA [dp, dt] = true) (he : errD dp dt (.tup []) = some e)
    (sp : ∀ l, rowD dp = some l → l.length < 1000) (st : ∀ l, rowD dt = some l → l.length < 1000) :
    Refs CB CQ .st e (fun E' => tMake CS (spInit K CS CB) [.ref T0] E' (taD [dp, dt])) σ H :=
  refs_make he sp st (fun l e => by cases e; decide) fun H1 x1 R hR => taD_read (K := K) [dp, dt] ok (x1 _ _ hd (fun _ z => nomatch z)) fun vs H2 s da => by
    cases da with
    | cons a b =>
      cases b with
      | cons c e =>
        cases e
        exact hR [_, _] H2 _ _ _ rfl s (Da.same less_same a) (Da.same less_same c) (.nul (hT0 _))
theorem rowS {d : Dt} {n : Nat} (h : (match rowD d with | some l => decide (l.length < n) | none => true) = true) : ∀ l, rowD d = some l → l.length < n := fun l e => by
  rw [e] at h
  exact of_decide_eq_true h
theorem Tabs.but {T : List (Addr × Str)} {H H' : Hp} {xs : List V} (hd : H d = some (.lst xs)) (t : Tabs T H) (b : But d H H') : Tabs T H' := fun p hp => by
  obtain ⟨ps, h, ok, q⟩ := t p hp
  refine ⟨ps, b _ _ (fun z => by rw [z, hd] at h; cases h) h, ok, fun pos cv hc => ?_⟩
  obtain ⟨c, e, hc2⟩ := q pos cv hc
  exact ⟨c, e, b _ _ (fun z => by rw [z, hd] at hc2; unfold CodeO at hc2; cases hc2) hc2⟩
theorem Dr.lst {H : Hp} (D : Dr K H d) : ∃ xs, H d = some (.lst xs) := let ⟨_, _, _, h, _⟩ := D; ⟨_, h⟩
/-- a state is made -/
theorem make_run {CS CB : Addr} {dp dt dr : Dt} {dvs : List V} {ta : TA} {σ : L2.St} {H : Hp} {E : XK} {Q : VK} (he : errD dp dt dr = none)
    (sp : ∀ l, rowD dp = some l → l.length < 1000) (st : ∀ l, rowD dt = some l → l.length < 1000) (sr : ∀ l, rowD dr = some l → l.length < 64)
    (h : ∀ R : List V → Hp → Prop, (∀ vs H2 vp vt vr, vs ++ dvs = [vp, vt, vr] → Same H H2 → Da K H2 vp dp → Da K H2 vt dt → Da K H2 vr dr → R vs H2) → ta σ H R)
    (q : ∀ H' x, Same H H' → H x = none → StAt K CS H' x (sortT (sD dp)) (sortT (sD dt)) (nrm (r3s (lD dr))) → Q (.ref x) H') : tMake CS (spInit K CS CB) dvs E ta σ H Q := by
  refine h _ fun vs H2 vp vt vr ev s2 d1 d2 d3 x dx hx hdx ne => ?_
  rw [ev]
  exact mk_read (E := E) d1 d2 d3 sp st sr (fun e' he' => by rw [he] at he'; cases he') (fun ok H' x s hx S => q H' x (s2.trans s) (Same.no s2 hx) S) x dx hx hdx ne
end
end K
set_option Elab.async false
set_option linter.all false
set_option maxRecDepth 100000
set_option maxHeartbeats 4000000
/-! The law's _law_refused_right. -/
namespace K
open PySem L2 Hk LamX
abbrev qRf : Str := Str.ofString "_law_refused_right" ++ ".<locals>." ++ "<lambda>"
structure TxtRf (P : Program) (K : PySem.W.Frag) (mg : Str → Option Value) (CS CB CQ CR fP fEr fI fWo fRe fAd fPa : Addr) : Prop where
  gP : mg "_law_pick" = some (.ref fP)
  kP : PySem.W.keepIn K (.ref fP) = true
  gE : mg "_law_error" = some (.ref fEr)
  kE : PySem.W.keepIn K (.ref fEr) = true
  e : TxtE K mg CR CB CQ
  made : Mk K CS fI
  mW : Meth K CS "words" fWo
  mR : Meth K CS "renamed" fRe
  oL : OwnOp K CS fAd .Add "list"
  oT : OwnOp K CS fAd .Add "tuple"
def spRefused (K : PySem.W.Frag) (CS P : Addr) : Sp := fun vs H Q _ => ∃ (d a : Addr), vs = [.ref d, .ref a] ∧ Dr K H d ∧ StAt K CS H a ["ann"] ["box"] [("ann", "r", "box")] ∧ Tabs [(P, qRf)] H ∧ ∀ H', Q (.bl true) H'
def wrongL : List Dt := [.int 7, .non, .str "ann", .dct, .lst [.str "ann", .str "ann"], .lst [.str "Ann"], .lst [.int 7], .lst [.str "toolongname"], .lst [.str ""]]
def oddL : List Dt := [.int 7, .non, .str "r", .dct, .lst [.int 7], .lst [.tup [.str "a", .str "r"]], .lst [.tup [.str "a", .str "r", .str "z"]], .lst [.tup [.str "a", .str "R", .str "a"]], .lst [.lst [.str "a", .str "r", .str "a"]], .lst [.tup [.str "a", .str "r", .str "a", .str "a"]], .lst [.tup [.str "a", .int 7, .str "a"]]]
theorem wrong_bad : ∀ t ∈ wrongL, wordsD 8 t = false ∧ (match rowD t with | some l => decide (l.length < 1000) | none => true) = true := by decide +kernel
theorem odd_bad : ∀ t ∈ oddL, rightsD ["a"] t = false ∧ (match rowD t with | some l => decide (l.length < 64) | none => true) = true := by decide +kernel
def abcS : Str := "abcdefghijklmnopqrstuvwxyz"
def lsL : List Str := abcS.cps.toList.map fun c => (⟨#[c]⟩ : Str) ++ "x"
def letL : List Str := lsL ++ (["a", "b", "c", "d", "e"] : List Str)
theorem lsL_len : lsL.length = 26 := by decide +kernel
theorem abcS_len : abcS.cps.size = 26 := by decide +kernel
abbrev nRf : List Str := ["draw", "state", "wrong", "letters", "odd", "one"]
theorem scRf : FnScope nRf ["draw", "state"] (defScope sRefused) := ⟨rfl, rfl, rfl, by decide +kernel, rfl, by decide +kernel, by decide +kernel⟩
section
variable {P : Program} {w : World} {K : PySem.W.Frag} {mg : Str → Option Value} {base : Heap} {f fR fW fT fAW fAR CS CB fB cB cdB CQ fQ cQ cdQ CR fP fEr fI fWo fRe fAd fPa cc PP T0 : Addr} {fd fdB fdQ fdP fdE fdI fdWo fdRe fdAd fdPa : FuncData} {dsI : List Value}
theorem ok_refused (F : Fun K "_law_refused_right" "_law_refused_right" sRefused f fd) (hcode : fd.code = .ref cc) (TB : TabB base mg cc PP) (T : TxtS P K mg fR fW fT fAW fAR CS CB fB cB cdB fdB) (TQ : TxtQ P K mg CQ fQ cQ cdQ fdQ) (TR : TxtRf P K mg CS CB CQ CR fP fEr fI fWo fRe fAd fPa)
    (FE : Fun K "_law_error" "_law_error" sError fEr fdE) (bE : Binds K fdE ["call"] [])
    (GP : FnOk P w K mg base CX0 4 fP fdP ["draw", "things"] (spPick K)) (bP : Binds K fdP ["draw", "things"] [])
    (GI : FnOk P w K mg base (L2.CX P w) 3 fI fdI pSI (spInit K CS CB)) (bI : Binds K fdI pSI []) (bI1 : Binds K fdI pSI dsI) (vI1 : Vals [.ref T0] dsI) (hT0 : ∀ H, SqT K H T0 [])
    (GW : FnOk P w K mg base (L2.CX P w) 3 fWo fdWo ["self", "one", "other"] (spWords K CS CQ)) (bW : Binds K fdWo ["self", "one", "other"] [])
    (GR : FnOk P w K mg base (L2.CX P w) 5 fRe fdRe ["self", "names"] (spRen K CS CB)) (bR : Binds K fdRe ["self", "names"] [])
    (GA : FnOk P w K mg base (L2.CX P w) 5 fAd fdAd ["self", "rights"] (spAdd K CS CB)) (bA : Binds K fdAd ["self", "rights"] []) :
    FnOk P w K mg base CX0 8 f fd ["draw", "state"] (spRefused K CS PP) := by
  obtain ⟨oc, od, kV, doc, pm, an, cdv, ct, osl, rfl, lk, hcd⟩ := F.ex
  obtain ⟨oc2, od2, kV2, doc2, pm2, an2, cdv2, ct2, osl2, rfl, lk2, hcd2⟩ := FE.ex
  obtain rfl : cdv = .ref cc := hcode
  refine fn_of lk hcd scRf (fun vs H Q E h => ?_) fun A outer s H vs Q E hr h => ?_
  · obtain ⟨d, a, rfl, _⟩ := h
    rfl
  · obtain ⟨d, a, rfl, D, S, TT, q⟩ := h
    have hr4 : Room 4 _ := hr.mono (by decide)
    have LAM : ∀ {params : Arguments} {body : Expr} {scope : Scope} {t : XK → TE} {p lpos pos : Pos}, lamSB (defScope sRefused) scope = true → defaultsOf params (cxOf CX0 P w K mg base nRf "_law_refused_right" (defScope sRefused) f (.ref cc) A outer s H E).env = ([], []) →
        (∀ (q : Str) (cl : List (Str × Addr)) (pm cv ctv : Value), bindArgs (PySem.W.kla_fn "<lambda>" q params body scope cl pm cv ctv) ⟨[], []⟩ = pure []) →
        (∀ (A' : Around) (outer' : List Env) (s' : Shared) (H' : Hp) (E' : XK) (f' c' : Addr), Room 5 (A'.deeper (lamEnv (cxOf CX0 P w K mg base nRf "_law_refused_right" (defScope sRefused) f (.ref cc) A outer s H E) scope s'.heap.objs.size f' c')) →
          PE (lamCx (cxOf CX0 P w K mg base nRf "_law_refused_right" (defScope sRefused) f (.ref cc) A outer s H E) A' outer' s' H' E' scope f' c') body (t E')) →
        PE (cxOf CX0 P w K mg base nRf "_law_refused_right" (defScope sRefused) f (.ref cc) A outer s H E) (.Call (.Name "_law_error" p) [.Lambda params body scope lpos] [] pos) (tLam [(PP, qRf)] (TErr CB CQ) t) := fun L hd hb hbody =>
      pe_lamS (by rfl) TR.gE TR.kE lk2 hcd2 bE scError rfl (Or.inl rfl) (error_gives TR.e) TB rfl (List.mem_singleton.mpr rfl) (fun p hp _ => by rw [List.mem_singleton.mp hp]; rfl) hr (lamS_by L) hd hb hbody
    refine ⟨_, pss_cons (ps_set (i := 2) scRf.nd rfl (Or.inr rfl) (pe_call GP hr4 (by rfl) TR.gP TR.kP bP .nil pass0 (pa_cons (pv 0) (pa_cons (pe_lst (pa_cons pe_int (pa_cons pe_non (pa_cons pe_str (pa_cons pe_dnewK (pa_cons (pe_lst (pa_cons pe_str (pa_cons pe_str pa_nil))) (pa_cons (pe_lst (pa_cons pe_str pa_nil)) (pa_cons (pe_lst (pa_cons pe_int pa_nil)) (pa_cons (pe_lst (pa_cons pe_str pa_nil)) (pa_cons (pe_lst (pa_cons pe_str pa_nil)) pa_nil)))))))))) pa_nil))))
      (pss_cons (ps_chk (k := .st) hr.units (LAM (t := fun E' => tMake CS (spInit K CS CB) [.ref T0] E' (tCons (tVar 2) (tCons (tC (.int 7)) tNil))) (by decide +kernel) rfl (fun _ _ _ _ _ => rfl)
          (fun A' outer' s' H' E' f' c' hr2 => pe_make (E := E') TR.made GI (hr2.mono (by decide)) (by rfl) T.gS bI1 vI1 (passes_call (takes_of rfl rfl rfl rfl) fun _ _ _ _ h => h) (pa_cons (pv 2) (pa_cons pe_int pa_nil)))) (nomark _))
      (pss_cons (ps_chk (k := .st) hr.units (LAM (t := fun E' => tMake CS (spInit K CS CB) [] E' (tCons (tLst tNil) (tCons (tVar 2) (tCons (tC (.int 7)) tNil)))) (by decide +kernel) rfl (fun _ _ _ _ _ => rfl)
          (fun A' outer' s' H' E' f' c' hr2 => pe_make (E := E') TR.made GI (hr2.mono (by decide)) (by rfl) T.gS bI .nil (passes_call (takes_of rfl rfl rfl rfl) fun _ _ _ _ h => h) (pa_cons (pe_lst pa_nil) (pa_cons (pv 2) (pa_cons pe_int pa_nil))))) (nomark _))
      (pss_cons (ps_chk (k := .st) hr.units (LAM (t := fun E' => tMake CS (spInit K CS CB) [.ref T0] E' (tCons (tLst (tCons (tC (.str "a")) tNil)) (tCons (tLst (tCons (tC (.str "b")) (tCons (tC (.str "a")) tNil))) tNil))) (by decide +kernel) rfl (fun _ _ _ _ _ => rfl)
          (fun A' outer' s' H' E' f' c' hr2 => pe_make (E := E') TR.made GI (hr2.mono (by decide)) (by rfl) T.gS bI1 vI1 (passes_call (takes_of rfl rfl rfl rfl) fun _ _ _ _ h => h) (pa_cons (pe_lst (pa_cons pe_str pa_nil)) (pa_cons (pe_lst (pa_cons pe_str (pa_cons pe_str pa_nil))) pa_nil)))) (nomark _))
      (pss_cons (ps_chk (k := .st) hr.units (LAM (t := fun E' => tMake CS (spInit K CS CB) [.ref T0] E' (tCons (tLst tNil) (tCons (tLst tNil) tNil))) (by decide +kernel) rfl (fun _ _ _ _ _ => rfl)
          (fun A' outer' s' H' E' f' c' hr2 => pe_make (E := E') TR.made GI (hr2.mono (by decide)) (by rfl) T.gS bI1 vI1 (passes_call (takes_of rfl rfl rfl rfl) fun _ _ _ _ h => h) (pa_cons (pe_lst pa_nil) (pa_cons (pe_lst pa_nil) pa_nil)))) (nomark _))
      (pss_cons (ps_set (i := 3) scRf.nd rfl (Or.inr rfl) (pe_op op_cat (pe_lc (own := [("one", 5)]) (g := gName 5) (tt := tYes) rfl scRf.nd (pi_str pe_str) (blkOk_by (N := nRf) (sc := defScope sRefused) (by decide +kernel)) (fun _ _ _ _ _ => pg_name (i := 5) scRf.nd rfl (Or.inl rfl)) (fun _ _ _ _ _ => pts_nil) (fun _ _ _ _ _ => pe_op op_add_str (pv 5) pe_str)) (pe_lst (pa_cons pe_str (pa_cons pe_str (pa_cons pe_str (pa_cons pe_str (pa_cons pe_str pa_nil))))))))
      (pss_cons (ps_if (PW.pt (pw_or (pt_cmpR (op_neP hr.units) (pe_fld (pe_make (E := E0) TR.made GI hr4 (by rfl) T.gS bI1 vI1 passL (pa_cons (pv 3) (pa_cons (pe_lst pa_nil) pa_nil))) rfl) (pe_callB (cr_sortX hr.units) (by rfl) T.r.w.f.sorted (by decide +kernel) (pa_cons (pv 3) pa_nil)) (nomark _))
        (pw_or1 (pt_cmpR (op_neP hr.units) (LAM (t := fun E' => tMake CS (spInit K CS CB) [.ref T0] E' (tCons (tVar 3) (tCons (tLst (tCons (tC (.str "ax")) tNil)) tNil))) (by decide +kernel) rfl (fun _ _ _ _ _ => rfl)
          (fun A' outer' s' H' E' f' c' hr2 => pe_make (E := E') TR.made GI (hr2.mono (by decide)) (by rfl) T.gS bI1 vI1 (passes_call (takes_of rfl rfl rfl rfl) fun _ _ _ _ h => h) (pa_cons (pv 3) (pa_cons (pe_lst (pa_cons pe_str pa_nil)) pa_nil)))) (pe_lst (pa_cons (pe_tup (pa_cons pe_str (pa_cons pe_str pa_nil))) pa_nil)) (nomark _))))) (pss_one (ps_ret pe_bl)) pss_nil)
      (pss_cons (ps_set (i := 4) scRf.nd rfl (Or.inr rfl) (pe_call GP hr4 (by rfl) TR.gP TR.kP bP .nil pass0 (pa_cons (pv 0) (pa_cons (pe_lst (pa_cons pe_int (pa_cons pe_non (pa_cons pe_str (pa_cons pe_dnewK (pa_cons (pe_lst (pa_cons pe_int pa_nil)) (pa_cons (pe_lst (pa_cons (pe_tup (pa_cons pe_str (pa_cons pe_str pa_nil))) pa_nil)) (pa_cons (pe_lst (pa_cons (pe_tup (pa_cons pe_str (pa_cons pe_str (pa_cons pe_str pa_nil)))) pa_nil)) (pa_cons (pe_lst (pa_cons (pe_tup (pa_cons pe_str (pa_cons pe_str (pa_cons pe_str pa_nil)))) pa_nil)) (pa_cons (pe_lst (pa_cons (pe_lst (pa_cons pe_str (pa_cons pe_str (pa_cons pe_str pa_nil)))) pa_nil)) (pa_cons (pe_lst (pa_cons (pe_tup (pa_cons pe_str (pa_cons pe_str (pa_cons pe_str (pa_cons pe_str pa_nil))))) pa_nil)) (pa_cons (pe_lst (pa_cons (pe_tup (pa_cons pe_str (pa_cons pe_int (pa_cons pe_str pa_nil)))) pa_nil)) pa_nil)))))))))))) pa_nil))))
      (pss_cons (ps_chk (k := .st) hr.units (LAM (t := fun E' => tMake CS (spInit K CS CB) [] E' (tCons (tLst (tCons (tC (.str "a")) tNil)) (tCons (tLst tNil) (tCons (tVar 4) tNil)))) (by decide +kernel) rfl (fun _ _ _ _ _ => rfl)
          (fun A' outer' s' H' E' f' c' hr2 => pe_make (E := E') TR.made GI (hr2.mono (by decide)) (by rfl) T.gS bI .nil (passes_call (takes_of rfl rfl rfl rfl) fun _ _ _ _ h => h) (pa_cons (pe_lst (pa_cons pe_str pa_nil)) (pa_cons (pe_lst pa_nil) (pa_cons (pv 4) pa_nil))))) (nomark _))
      (pss_cons (ps_chk (k := .st) hr.units (LAM (t := fun E' => tOp (rOwnOp K CS (spAdd K CS CB) E') (tVar 1) (tLst (tCons (tTup (tCons (tC (.str "zz")) (tCons (tC (.str "r")) (tCons (tC (.str "zz")) tNil)))) tNil))) (by decide +kernel) rfl (fun _ _ _ _ _ => rfl)
          (fun A' outer' s' H' E' f' c' hr2 => pe_op (op_own TR.oL TR.oT GA (hr2.mono (by decide)) bA (passes_call (takes_of rfl rfl rfl rfl) fun _ _ _ _ h => h)) (pv 1) (pe_lst (pa_cons (pe_tup (pa_cons pe_str (pa_cons pe_str (pa_cons pe_str pa_nil)))) pa_nil)))) (nomark _))
      (pss_cons (ps_chk (k := .pa) hr.units (LAM (t := fun E' => tMeth CS "words" (spWords K CS CQ) [] E' (tVar 1) (tCons (tC (.str "ann")) (tCons (tC (.str "zz")) tNil))) (by decide +kernel) rfl (fun _ _ _ _ _ => rfl)
          (fun A' outer' s' H' E' f' c' hr2 => pe_meth (E := E') (pv 1) T.cl TR.mW GW (hr2.mono (by decide)) bW .nil (passes_call (takes_of rfl rfl rfl rfl) fun _ _ _ _ h => h) (pa_cons pe_str (pa_cons pe_str pa_nil)))) (nomark _))
      (pss_cons (ps_chk (k := .st) hr.units (LAM (t := fun E' => tMeth CS "renamed" (spRen K CS CB) [] E' (tVar 1) (tCons (tDisp [(tC (.str "zz"), tC (.str "b"))]) tNil)) (by decide +kernel) rfl (fun _ _ _ _ _ => rfl)
          (fun A' outer' s' H' E' f' c' hr2 => pe_meth (E := E') (pv 1) T.cl TR.mR GR (hr2.mono (by decide)) bR .nil (passes_call (takes_of rfl rfl rfl rfl) fun _ _ _ _ h => h) (pa_cons (pe_disp (pps_cons pe_str pe_str pps_nil) (by rfl) (by rfl) (fun z => by cases z) (by decide)) pa_nil))) (nomark _))
      (pss_cons (ps_chk (k := .st) hr.units (LAM (t := fun E' => tMeth CS "renamed" (spRen K CS CB) [] E' (tVar 1) (tCons (tC (.int 7)) tNil)) (by decide +kernel) rfl (fun _ _ _ _ _ => rfl)
          (fun A' outer' s' H' E' f' c' hr2 => pe_meth (E := E') (pv 1) T.cl TR.mR GR (hr2.mono (by decide)) bR .nil (passes_call (takes_of rfl rfl rfl rfl) fun _ _ _ _ h => h) (pa_cons pe_int pa_nil))) (nomark _))
      (pss_one (ps_chkE (k := .pa) hr.units (LAM (t := fun E' => tMeth CS "words" (spWords K CS CQ) [] E' (tVar 1) (tCons (tC (.str "q")) (tCons (tC (.str "zz")) tNil))) (by decide +kernel) rfl (fun _ _ _ _ _ => rfl)
          (fun A' outer' s' H' E' f' c' hr2 => pe_meth (E := E') (pv 1) T.cl TR.mW GW (hr2.mono (by decide)) bW .nil (passes_call (takes_of rfl rfl rfl rfl) fun _ _ _ _ h => h) (pa_cons pe_str (pa_cons pe_str pa_nil)))) (nomark _))))))))))))))), ?_⟩
    obtain ⟨ds0, hd⟩ := D.lst
    refine ⟨_, rfl, ?_⟩
    refine lstD_read (K := K) (l := wrongL) (by decide +kernel) (by decide) hd fun p1 vs1 H1 s1 n1 hp1 da1 => ?_
    refine ⟨d, p1, vs1, rfl, D.same s1, n1, .inl (SqL.of hp1), (fun z => by subst z; cases da1), fun wr H2 hw b2 D2 g2 => ?_⟩
    obtain ⟨t, ht, dw0⟩ := da1.mem hw
    have dw : Da K H2 wr t := Da.same ((less_but b2).trans less_same) dw0
    obtain ⟨bad, sz⟩ := wrong_bad t ht
    have st := rowS sz
    have S2 := (S.same s1).but (D.same s1) b2
    have T2 := Tabs.but (s1 _ _ hd) (Tabs.same TT s1) b2
    have z1 : ∀ l, rowD (Dt.int 7) = some l → l.length < 1000 := fun l e => by cases e
    have z2 : ∀ l, rowD (Dt.lst []) = some l → l.length < 1000 := fun l e => by cases e; decide
    refine ⟨T2, refs_make (dp := t) (dt := .int 7) (dr := .tup []) (by unfold errD; rw [if_pos bad]) st z1 (fun l e => by cases e; decide)
      fun H3 x3 R hR => ⟨_, rfl, hR [wr, .int 7] H3 _ _ _ rfl (Same.refl _) (Da.ext x3 dw) (.int 7) (.nul (hT0 _))⟩, fun H3 x3 T3 => ?_⟩
    have e1 : errD (.lst []) t (.int 7) = some ("things" : Str) := by unfold errD; rw [if_neg (by decide), if_pos bad]
    refine ⟨T3, refs_make (dp := .lst []) (dt := t) (dr := .int 7) e1 z2 st (fun l e => by cases e)
      fun H4 x4 R hR => ⟨by show 0 ≤ sizeLine; exact Nat.zero_le _, fun q hq => ⟨_, rfl, hR [.ref q, wr, .int 7] _ _ _ _ rfl (Same.fresh (Same.refl _) hq) (.lst (SqL.of upd_same) .nil) (Da.same (Same.fresh (Same.refl _) hq) (Da.ext (x3.trans x4) dw)) (.int 7)⟩⟩, fun H4 x4 T4 => ?_⟩
    have x24 := x3.trans x4
    obtain ⟨ds2, hd2⟩ := D2.lst
    have nt : ∀ {xs : List V} (ps), HO.lst xs ≠ .tbl ps := fun _ z => nomatch z
    refine ⟨T4, refs_lit (dp := .lst [.str "a"]) (dt := .lst [.str "b", .str "a"]) (x24 _ _ hd2 nt) hT0 (by decide +kernel) (by decide +kernel) (fun l e => by cases e; decide) (fun l e => by cases e; decide), fun H5 x5 T5 => ?_⟩
    have x25 := x24.trans x5
    refine ⟨T5, refs_lit (dp := .lst []) (dt := .lst []) (x25 _ _ hd2 nt) hT0 (by decide +kernel) (by decide +kernel) z2 z2, fun H6 x6 T6 => ?_⟩
    have x26 := x25.trans x6
    refine ⟨_, rfl, fun D0 hD0 => lc_it (walk_str (z := abcS)) (fun i H' => But D0 H6 H' ∧ H' D0 = some (.lst ((lsL.take i).map V.str))) ⟨But.upd But.rfl', upd_same⟩ (fun _ _ _ _ => True.intro) ?_ ?_⟩
    · rintro i x Ha Hb hi ⟨b, e⟩ ⟨rfl, c, ec, rfl⟩
      refine ⟨rfl, ?_⟩
      dsimp only [tYes]
      rw [if_pos rfl]
      have el : lsL[i]? = some ((⟨#[c]⟩ : Str) ++ "x") := by
        unfold lsL
        rw [List.getElem?_map, Array.getElem?_toList, ec]
        rfl
      refine ⟨_, rfl, _, _, rfl, rfl, by rw [sizeLine_eq]; show 1 + 1 ≤ _; decide, _, e, by rw [List.length_map, List.length_take, lsL_len, sizeLine_eq]; omega, But.upd b, ?_⟩
      rw [upd_same, List.take_succ, el, List.map_append]
      rfl
    rintro H7 ⟨b7, e7⟩
    have s7 : Same H6 H7 := fun c o e => b7 c o (ne_of_none e hD0) e
    rw [List.take_of_length_le (by rw [lsL_len, abcS_len]; exact Nat.le_refl _)] at e7
    refine ⟨by show 5 ≤ sizeLine; decide, fun q8 hq8 => ?_⟩
    have s8 := Same.fresh (o := .lst [.str "a", .str "b", .str "c", .str "d", .str "e"]) s7 hq8
    refine ⟨D0, q8, lsL.map V.str, [.str "a", .str "b", .str "c", .str "d", .str "e"], rfl, rfl, by rw [upd_ne (fun z => by rw [z, hq8] at e7; cases e7)]; exact e7, upd_same, by rw [List.length_map, lsL_len]; show 31 ≤ sizeLine; decide, fun pl hpl => ?_⟩
    have s9 := Same.fresh (o := .lst (lsL.map V.str ++ [.str "a", .str "b", .str "c", .str "d", .str "e"])) s8 hpl
    generalize eH : upd (upd H7 q8 (.lst [.str "a", .str "b", .str "c", .str "d", .str "e"])) pl (.lst (lsL.map V.str ++ [.str "a", .str "b", .str "c", .str "d", .str "e"])) = H9 at s9
    have hl9 : H9 pl = some (.lst (letL.map V.str)) := by
      rw [← eH, upd_same]
      unfold letL
      rw [List.map_append]
      rfl
    have hlen : ∀ x ∈ letL, x.length ≤ 1000 := by decide +kernel
    have T9 := Tabs.same T6 s9
    have x29 := ExtN.same x26 s9
    have zL : ∀ l, rowD (dS letL) = some l → l.length < 1000 := fun l e => by cases e; decide +kernel
    have eL : errD (dS letL) (.lst []) (.tup []) = none := by decide +kernel
    dsimp only [gName, tSeq, tIfS, tOr, tTest, tOp, tFld]
    refine make_run (dp := dS letL) (dt := .lst []) (dr := .tup []) eL zL z2 (fun l e => by cases e; decide) (fun R hR => ⟨_, rfl, by show 0 ≤ sizeLine; exact Nat.zero_le _, fun q10 hq10 =>
      hR [.ref pl, .ref q10] _ _ _ _ rfl (Same.fresh (Same.refl _) hq10) (da_list (Same.fresh (Same.refl _) hq10 _ _ hl9) hlen) (.lst (SqL.of upd_same) .nil) (.nul (hT0 _))⟩) fun H11 xx s11 hxx S11 => ?_
    rw [show sD (dS letL) = letL from sD_strs letL] at S11
    obtain ⟨⟨dx2, p2, t2, r2, xs2, g1, g2', g3, g4, g5⟩, _, _, _, _, _⟩ := S11
    refine ⟨xx, CS, dx2, _, _, rfl, g1, T.cl, T.nP, flds_p _ _ _, _, rfl, pl, letL, rfl, .inl (SqL.of (s11 _ _ hl9)), fun p3 hp3 => ?_⟩
    have s12 := Same.fresh (o := .lst ((letL.mergeSort leT).map V.str)) s11 hp3
    refine ⟨_, _, .lst (SqL.of (Same.fresh (Same.refl _) hp3 _ _ g2')) (dp_strs _), .lst (SqL.of upd_same) (dp_strs _), lay_lS _, lay_lS _, dep_lS _, ?_⟩
    rw [eqv_lS, decide_eq_true (show sortT letL = letL.mergeSort leT from rfl)]
    refine ⟨false, rfl, iteF ?_⟩
    have T12 := Tabs.same T9 s12
    have x12 := ExtN.of s12
    have hlU := s12 _ _ hl9
    have e6 : errD (dS letL) (.lst [.str "ax"]) (.tup []) = some ("things" : Str) := by decide +kernel
    refine chk_read (k := .st) (neg := true) T12 (refs_make (dp := dS letL) (dt := .lst [.str "ax"]) (dr := .tup []) e6 zL (fun l e => by cases e; decide) (fun l e => by cases e; decide)
      fun H13 x13 R hR => ⟨_, rfl, by show 1 ≤ sizeLine; decide, fun q13 hq13 => hR [.ref pl, .ref q13] _ _ _ _ rfl (Same.fresh (Same.refl _) hq13) (da_list (Same.fresh (Same.refl _) hq13 _ _ (x13 _ _ hlU nt)) hlen) (.lst (SqL.of upd_same) (.cons (.str _ (by decide)) .nil)) (.nul (hT0 _))⟩) fun H14 x14 T14 => ?_
    refine ⟨false, rfl, iteF ?_⟩
    have x2E := (ExtN.same x29 s12).trans x14
    have hd14 := x2E _ _ hd2 nt
    have D14 := Dr.ext x2E D2
    have S14 := StAt.ext x2E S2
    refine ⟨_, rfl, ?_⟩
    refine lstD_read (K := K) (l := oddL) (by decide +kernel) (by decide) hd14 fun p15 vs15 H15 s15 n15 hp15 da15 => ?_
    refine ⟨d, p15, vs15, rfl, D14.same s15, n15, .inl (SqL.of hp15), (fun z => by subst z; cases da15), fun ov H16 ho b16 D16 g16 => ?_⟩
    obtain ⟨to, hto, do0⟩ := da15.mem ho
    have do1 : Da K H16 ov to := Da.same ((less_but b16).trans less_same) do0
    obtain ⟨bado, szo⟩ := odd_bad to hto
    have sto := rowS szo
    have S16 := (S14.same s15).but (D14.same s15) b16
    have T16 := Tabs.but (s15 _ _ hd14) (Tabs.same T14 s15) b16
    have e7 : errD (.lst [.str "a"]) (.lst []) to = some ("rights" : Str) := by
      unfold errD
      rw [if_neg (by decide +kernel), if_neg (by decide +kernel), if_neg (by decide +kernel), if_neg (by decide +kernel)]
      exact if_pos bado
    refine ⟨T16, refs_make (dp := .lst [.str "a"]) (dt := .lst []) (dr := to) e7 (fun l e => by cases e; decide) z2 sto
      fun H17 x17 R hR => ⟨by show 1 ≤ sizeLine; decide, fun q hq => ⟨by show 0 ≤ sizeLine; exact Nat.zero_le _, fun q2 hq2 => ⟨_, rfl, hR [.ref q, .ref q2, ov] _ _ _ _ rfl (Same.fresh (Same.fresh (Same.refl _) hq) hq2)
        (.lst (SqL.of (Same.fresh (Same.refl _) hq2 _ _ upd_same)) (.cons (.str _ (by decide)) .nil)) (.lst (SqL.of upd_same) .nil) (Da.same (Same.fresh (Same.fresh (Same.refl _) hq) hq2) (Da.ext x17 do1))⟩⟩⟩, fun H17 x17 T17 => ?_⟩
    have S17 := StAt.ext x17 S16
    have e8 : errD (dS ["ann"]) (dS ["box"]) (.lst ([(("ann", "r", "box") : R3)].map dtR ++ [dtR ("zz", "r", "zz")])) = some ("rights" : Str) := by decide +kernel
    refine ⟨T17, fun H18 x18 E8 hE Q' => ?_, fun H18 x18 T18 => ?_⟩
    · have S8 := StAt.ext x18 S17
      obtain ⟨dx8, p8, t8, r8, xs8, h8, _⟩ := S8.ex
      refine ⟨_, rfl, by show 3 ≤ sizeLine; decide, fun qt hqt => ⟨by show 1 ≤ sizeLine; decide, fun ql hql => ?_⟩⟩
      have sa := Same.fresh (o := .tup [.str "zz", .str "r", .str "zz"]) (Same.refl H18) hqt
      have sb := Same.fresh (o := .lst [.ref qt]) sa hql
      have dl : DaAll K (upd (upd H18 qt (.tup [.str "zz", .str "r", .str "zz"])) ql (.lst [.ref qt])) [.ref qt] [dtR ("zz", "r", "zz")] :=
        .cons (.tup (Same.fresh (Same.refl _) hql _ _ upd_same) (.cons (.str _ (by decide)) (.cons (.str _ (by decide)) (.cons (.str _ (by decide)) .nil)))) .nil
      refine ⟨a, dx8, _, true, ql, [.ref qt], rfl, rfl, sb _ _ h8, .inl ⟨rfl, SqL.of upd_same⟩, ?_⟩
      refine ⟨a, ["ann"], ["box"], [("ann", "r", "box")], .ref ql, .lst [dtR ("zz", "r", "zz")], [dtR ("zz", "r", "zz")], rfl, S8.same sb, .lst (SqL.of upd_same) dl, rfl, by decide, fun e he d H' s2 hd er => ?_, fun ok => ?_⟩
      · rw [e8] at he
        cases he
        exact hE d H' (sb.trans s2) (Same.no sb hd) er
      · rw [e8] at ok
        cases ok
    have S18 := StAt.ext x18 S17
    refine ⟨T18, fun H19 x19 E8 hE Q' => ?_, fun H19 x19 T19 => ?_⟩
    · have S8 := StAt.ext x19 S18
      obtain ⟨dx8, p8, t8, r8, xs8, h8, _⟩ := S8.ex
      exact ⟨_, rfl, a, dx8, _, rfl, h8, flds_no _ _ _ (by decide +kernel) (by decide +kernel) (by decide +kernel), a, ["ann"], ["box"], _, "ann", "zz", rfl, S8, fun no => (no (by decide +kernel)).elim, fun _ _ d H' s2 hd er => hE d H' s2 hd er, fun _ yes => absurd yes (by decide +kernel)⟩
    have S19 := StAt.ext x19 S18
    refine ⟨T19, fun H20 x20 E8 hE Q' => ?_, fun H20 x20 T20 => ?_⟩
    · have S8 := StAt.ext x20 S19
      obtain ⟨dx8, p8, t8, r8, xs8, h8, _⟩ := S8.ex
      refine ⟨_, rfl, a, dx8, _, rfl, h8, flds_no _ _ _ (by decide +kernel) (by decide +kernel) (by decide +kernel), fun qd hqd => ?_⟩
      refine ⟨upd_same, [(Sum.inr "zz", .str "b")], rfl, by decide, ?_⟩
      have sc : Same H20 (upd (upd H20 qd (.dK [])) qd (.dK (mergeK [] [(Sum.inr "zz", .str "b")]))) := fun c o e => by
        rw [upd_ne (ne_of_none e hqd), upd_ne (ne_of_none e hqd)]
        exact e
      refine ⟨a, ["ann"], ["box"], [("ann", "r", "box")], .ref qd, rfl, S8.same sc, by decide +kernel, .inr ⟨qd, [("zz", "b")], rfl, upd_same, by decide +kernel, by decide, fun _ d H' s2 hd er => hE d H' (sc.trans s2) (Same.no sc hd) er, fun al => absurd al (by decide +kernel)⟩⟩
    have S20 := StAt.ext x20 S19
    refine ⟨T20, fun H21 x21 E8 hE Q' => ?_, fun H21 x21 T21 => ?_⟩
    · have S8 := StAt.ext x21 S20
      obtain ⟨dx8, p8, t8, r8, xs8, h8, _⟩ := S8.ex
      exact ⟨_, rfl, a, dx8, _, rfl, h8, flds_no _ _ _ (by decide +kernel) (by decide +kernel) (by decide +kernel), a, ["ann"], ["box"], [("ann", "r", "box")], .int 7, rfl, S8, by decide +kernel, .inl ⟨"int", Da.ty (.int 7), by decide +kernel, fun d H' s2 hd er => hE d H' s2 hd er⟩⟩
    have S21 := StAt.ext x21 S20
    refine ⟨T21, fun H22 x22 E8 hE Q' => ?_, fun H22 x22 T22 => q _⟩
    have S8 := StAt.ext x22 S21
    obtain ⟨dx8, p8, t8, r8, xs8, h8, _⟩ := S8.ex
    exact ⟨_, rfl, a, dx8, _, rfl, h8, flds_no _ _ _ (by decide +kernel) (by decide +kernel) (by decide +kernel), a, ["ann"], ["box"], _, "q", "zz", rfl, S8, fun _ d H' s2 hd er => hE d H' s2 hd er, fun yes => absurd yes (by decide +kernel), fun yes => absurd yes (by decide +kernel)⟩
end
end K
set_option Elab.async false
set_option linter.all false
set_option maxRecDepth 100000
set_option maxHeartbeats 4000000
/-! sorted(x), x a list or a tuple of tuples of texts. -/
namespace Hk
open PySem PySem.Spec PyProof.Rows L2
open PySem.W (EachIs AllAlike Sortable dataLe)
section
variable {X : Cx}
def rSortR (K : PySem.W.Frag) : List V → Hp → VK → Prop := fun vs H Q => ∃ (a : Addr) (ks : List KT) (d : Nat), vs = [V.ref a] ∧ (SqL K H a (ks.map fun p => V.ref p.1) ∨ SqT K H a (ks.map fun p => V.ref p.1)) ∧ (∀ p ∈ ks, SqT K H p.1 (p.2.map kV)) ∧
  (∀ p ∈ ks, ∃ t : List Str, p.2 = t.map Sum.inr ∧ t.length = d + 1) ∧
  ∀ (M : List KT) (p : Addr), M.Perm ks → M.Pairwise (fun q r => leS (unK q.2) (unK r.2) = true) → H p = none → Q (.ref p) (upd H p (.lst (M.map fun q => V.ref q.1)))
theorem cr_sortR (hu : X.A.units + 64 < cLine) : CallR X (.builtin "sorted") (rSortR X.K) := by
  intro pins s σ H vs us Q I r h
  obtain ⟨a, ks, d, rfl, ha, hk, ht, q⟩ := h
  rw [Vals.ref1 r]
  have seq : ∃ (T : String) (o : Obj) (its : List Value) (n : Nat), (T = "list" ∨ T = "tuple") ∧ s.heap.get? a = some o ∧ o.cls = .type T ∧ o.data = .seq its.toArray n ∧ Vals (ks.map fun p => V.ref p.1) its ∧ ks.length ≤ sizeLine := by
    rcases ha with ha | ha
    · obtain ⟨its, rv, ⟨o, n, ho, hc, _, hd⟩, hz⟩ := I.list ha
      exact ⟨"list", o, its, n, .inl rfl, ho, hc, hd, rv, by simpa using hz⟩
    · obtain ⟨its, rv, ⟨o, ho, hc, n, hd⟩, hz⟩ := I.tuple ha
      exact ⟨"tuple", o, its, n, .inr rfl, ho, hc, hd, rv, by simpa using hz⟩
  obtain ⟨T, o, its, n, hT, ho, hc, hd, rv, hz⟩ := seq
  have ev : its = ks.map fun p => Value.ref p.1 := vals_refs rv
  refine sorted_via (β := KT) (R := fun v p => v = Value.ref p.1) (enc := fun p => encS (unK p.2)) (C := fun vs M s1 => M = ks) (fun Q1 go => ?_) fun vs M s1 out c z cc it eo kz g os hzz => ?_
  · refine wpAny_collect_seq a hT ho hc hd (fun h' k => go _ ks _ rfl ?_) (by rw [List.size_toArray, ev, List.length_map]; exact hz)
    have ev2 : its.toArray.toList = ks.map fun p => Value.ref p.1 := by simpa using ev
    rw [ev2]
    refine { each := each_mem2 _ ks fun _ _ => rfl, reads := each_mem2 _ ks fun p hp => ?_, alike := fun x hx y hy => ?_, sortable := .inl fun x hx => ?_, room := fun p hp => ?_, len := hz, keep := k, gens := rfl, os := rfl }
    · obtain ⟨t, et, _⟩ := ht p hp
      have x : IsK X.prog X.w h' (t.map Sum.inr) p.1 := by
        rw [← et]
        exact (inv_isK I (hk p hp)).kept k
      show Reads h' (.ref p.1) (encS (unK p.2)) []
      rw [et, unK_inr]
      exact reads_isK x
    · obtain ⟨p, hp, rfl⟩ := List.mem_map.mp hx
      obtain ⟨p', hp', rfl⟩ := List.mem_map.mp hy
      obtain ⟨t, et, lt⟩ := ht p hp
      obtain ⟨t', et', lt'⟩ := ht p' hp'
      show PySem.W.alike (encS (unK p.2)) (encS (unK p'.2)) = true
      rw [et, et', unK_inr, unK_inr]
      exact alike_encS (lt.trans lt'.symm)
    · obtain ⟨p, hp, rfl⟩ := List.mem_map.mp hx
      obtain ⟨t, et, lt⟩ := ht p hp
      show ∃ y r, encS (unK p.2) = .tuple (y :: r)
      rw [et, unK_inr]
      cases t with
      | nil => simp at lt
      | cons y t => exact ⟨_, _, rfl⟩
    · show X.A.units + 4 + (encS (unK p.2)).depth < cLine
      rw [depth_encS]
      omega
  · have eM : M = ks := cc
    rw [eM] at eo
    have eo2 : out = (ks.mergeSort (dataLe false fun p => encS (unK p.2))).map fun q => Value.ref q.1 := each_eq eo
    have I1 := inv_kept I it.keep it.gens it.os
    have hn : H s1.heap.objs.size = none := I1.hok.fresh (Nat.le_refl _)
    have pm2 : (ks.mergeSort (dataLe false fun p => encS (unK p.2))).Perm ks := List.mergeSort_perm _ _
    have pw : (ks.mergeSort (dataLe false fun p => encS (unK p.2))).Pairwise (fun q r => leS (unK q.2) (unK r.2) = true) :=
      PySem.W.sort_pairwise (le := dataLe false fun p : KT => encS (unK p.2)) (PySem.W.sortLe_total (listOrd itemOrd) false fun p : KT => PySem.W.keyToks (encS (unK p.2))) ks
    generalize ks.mergeSort (dataLe false fun p => encS (unK p.2)) = N at eo2 pm2 pw
    have len : (N.map fun q => V.ref q.1).length ≤ sizeLine := by rw [List.length_map, pm2.length_eq]; exact hz
    have J := inv_laid (o := .lst (N.map fun q => V.ref q.1)) I1 kz (g.trans it.gens.symm) (os.trans it.os.symm) ⟨len, out, c, by rw [eo2]; exact refs_vals N, hzz⟩
    exact ⟨.ref s1.heap.objs.size, _, J, rfl, q N _ pm2 pw hn⟩
end
end Hk
set_option Elab.async false
set_option linter.all false
set_option maxRecDepth 100000
set_option maxHeartbeats 4000000
/-! What the law's states are: facts without a heap. -/
namespace K
open PySem L2 Hk
def five : List Str := ["ann", "bob", "cat", "box", "key"]
theorem rows_sD {d : Dt} {ps : List Str} (h : rowD d = some (ps.map Dt.str)) : sD d = ps := by
  unfold sD lD
  rw [h]
  exact sD_strs ps
theorem wordsD_ok {d : Dt} {ps : List Str} (h : rowD d = some (ps.map Dt.str)) (hw : ∀ x ∈ ps, wordOk 8 x = true) (nd : ps.Nodup) : wordsD 8 d = true := by
  unfold wordsD
  rw [h]
  have e := rows_sD h
  unfold sD lD at e
  rw [h] at e
  have e2 : strsD (ps.map Dt.str) = ps := e
  simp only [Bool.and_eq_true, decide_eq_true_eq]
  rw [e2]
  refine ⟨?_, nd⟩
  rw [List.all_map, List.all_eq_true]
  exact fun x hx => hw x hx
theorem rightsD_ok {d : Dt} {names : List Str} {rs : List R3} (h : rowD d = some (rs.map dtR)) (ok : ∀ r ∈ rs, r.1 ∈ names ∧ r.2.2 ∈ names ∧ wordOk 8 r.2.1 = true) : rightsD names d = true := by
  unfold rightsD
  rw [h]
  simp only [Bool.and_eq_true]
  rw [r3s_map]
  refine ⟨?_, ?_, ?_⟩
  · rw [List.all_map, List.all_eq_true]
    exact fun r _ => rfl
  · rw [List.all_eq_true]
    intro r hr
    unfold okR
    rw [Bool.and_eq_true, decide_eq_true_eq, decide_eq_true_eq]
    exact ⟨(ok r hr).1, (ok r hr).2.1⟩
  · rw [List.all_eq_true]
    exact fun r hr => (ok r hr).2.2
/-- a state that can be made -/
structure Fit (ps ts : List Str) (rs : List R3) : Prop where
  wp : ∀ x ∈ ps, wordOk 8 x = true
  wt : ∀ x ∈ ts, wordOk 8 x = true
  np : ps.Nodup
  nt : ts.Nodup
  dis : ∀ x ∈ ts, x ∉ ps
  some' : ps ++ ts ≠ []
  rts : ∀ r ∈ rs, r.1 ∈ ps ++ ts ∧ r.2.2 ∈ ps ++ ts ∧ wordOk 8 r.2.1 = true
theorem errD_ok {dp dt dr : Dt} {ps ts : List Str} {rs : List R3} (h1 : rowD dp = some (ps.map Dt.str)) (h2 : rowD dt = some (ts.map Dt.str)) (h3 : rowD dr = some (rs.map dtR)) (F : Fit ps ts rs) : errD dp dt dr = none := by
  unfold errD
  rw [wordsD_ok h1 F.wp F.np, wordsD_ok h2 F.wt F.nt, rows_sD h1, rows_sD h2, rightsD_ok h3 F.rts]
  rw [if_neg (by decide), if_neg (by decide), if_neg, if_neg, if_neg (by decide)]
  · intro z
    apply F.some'
    apply List.eq_nil_of_length_eq_zero
    rw [List.length_append]
    exact z
  · rw [List.any_eq_true]
    rintro ⟨x, hx, e⟩
    exact F.dis x hx (of_decide_eq_true e)
theorem Fit.perm {ps ts ps' ts' : List Str} {rs rs' : List R3} (F : Fit ps ts rs) (hp : ps'.Perm ps) (ht : ts'.Perm ts) (hr : ∀ r ∈ rs', r ∈ rs) : Fit ps' ts' rs' where
  wp x hx := F.wp x (hp.mem_iff.mp hx)
  wt x hx := F.wt x (ht.mem_iff.mp hx)
  np := hp.nodup_iff.mpr F.np
  nt := ht.nodup_iff.mpr F.nt
  dis x hx h := F.dis x (ht.mem_iff.mp hx) (hp.mem_iff.mp h)
  some' z := F.some' (List.Perm.eq_nil ((hp.append ht).symm.trans (by rw [z])))
  rts r hr0 := by
    obtain ⟨a, b, c⟩ := F.rts r (hr r hr0)
    have e : ∀ x, x ∈ ps' ++ ts' ↔ x ∈ ps ++ ts := fun x => (hp.append ht).mem_iff
    exact ⟨(e _).mpr a, (e _).mpr b, c⟩
theorem five_ok : ∀ x ∈ five, wordOk 8 x = true := by decide +kernel
theorem five_nd : five.Nodup := by decide +kernel
theorem lws_ok : ∀ x ∈ lws, wordOk 8 x = true := by decide +kernel
theorem five_len : ∀ x ∈ five, x.length ≤ 1000 := by decide +kernel
theorem wordOk_len {x : Str} (h : wordOk 8 x = true) : x.length ≤ 1000 := by
  unfold wordOk at h
  simp only [Bool.and_eq_true, decide_eq_true_eq] at h
  have := h.1.2
  omega
/-- the law's first state -/
theorem law_fit {nm ps ts : List Str} {rs : List R3} (hn : nm.Sublist five) (ne : nm ≠ []) (hp : ps.Sublist nm) (ht : ts = nm.filter fun x => !decide (x ∈ ps)) (ok : RtsOk nm rs) : Fit ps ts rs := by
  have nd := hn.nodup five_nd
  have mem : ∀ x, x ∈ ps ++ ts ↔ x ∈ nm := fun x => by
    rw [List.mem_append, ht, List.mem_filter]
    constructor
    · rintro (h | h)
      · exact hp.subset h
      · exact h.1
    · intro h
      by_cases hx : x ∈ ps
      · exact .inl hx
      · exact .inr ⟨h, by simp [hx]⟩
  refine ⟨fun x hx => five_ok x (hn.subset (hp.subset hx)), fun x hx => five_ok x (hn.subset ((mem x).mp (List.mem_append_right _ hx))), hp.nodup nd, ?_, fun x hx => ?_, fun z => ?_, fun r hr => ?_⟩
  · rw [ht]
    exact nd.filter _
  · rw [ht, List.mem_filter] at hx
    simpa using hx.2
  · cases nm with
    | nil => exact ne rfl
    | cons a l =>
      have := (mem a).mpr List.mem_cons_self
      rw [z] at this
      cases this
  · obtain ⟨a, b, c⟩ := ok.2 r hr
    exact ⟨(mem _).mpr a, (mem _).mpr c, lws_ok _ b⟩
theorem law_perm {nm ps ts : List Str} (nd : nm.Nodup) (hp : ps.Sublist nm) (ht : ts = nm.filter fun x => !decide (x ∈ ps)) : (ps ++ ts).Perm nm := by
  refine (List.perm_ext_iff_of_nodup ?_ nd).mpr fun x => ?_
  · rw [List.nodup_append]
    refine ⟨hp.nodup nd, by rw [ht]; exact nd.filter _, ?_⟩
    rintro a ha b hb rfl
    rw [ht, List.mem_filter] at hb
    simp [ha] at hb
  · rw [List.mem_append, ht, List.mem_filter]
    constructor
    · rintro (h | h)
      · exact hp.subset h
      · exact h.1
    · intro h
      by_cases hx : x ∈ ps
      · exact .inl hx
      · exact .inr ⟨h, by simp [hx]⟩
section
variable {K : PySem.W.Frag} {H : Hp} {a b : Addr}
theorem ne_strs {l m : List Str} {Q : VK} (e : l = m) (ha : SqL K H a (l.map V.str)) (hb : SqL K H b (m.map V.str)) (q : Q (.bl false) H) : rEqP K true (.ref a) (.ref b) H Q := by
  refine ⟨_, _, .lst ha (dp_strs _), .lst hb (dp_strs _), lay_lS _, lay_lS _, dep_lS _, ?_⟩
  rw [eqv_lS, decide_eq_true e]
  exact q
theorem ne_rts {xs ys : List V} {rs ts : List R3} {Q : VK} (e : rs = ts) (ha : SqL K H a xs) (da : DaAll K H xs (rs.map dtR)) (hb : SqL K H b ys) (db : DaAll K H ys (ts.map dtR)) (q : Q (.bl false) H) : rEqP K true (.ref a) (.ref b) H Q := by
  refine ⟨_, _, .lst ha (dp_Rs da), .lst hb (dp_Rs db), lay_lR _, lay_lR _, dep_lR _, ?_⟩
  rw [eqv_lR, decide_eq_true e]
  exact q
theorem own_ne {CS : Addr} {E : XK} {p t p2 t2 : List Str} {r r2 : List R3} {Q : VK} (S : StAt K CS H a p t r) (S2 : StAt K CS H b p2 t2 r2) (e1 : p = p2) (e2 : t = t2) (e3 : r = r2) (q : Q (.bl false) H) : rOwnNe CS (spEq K CS) E (.ref a) (.ref b) H Q := by
  obtain ⟨dx, _, _, _, _, h, _⟩ := S.ex
  obtain ⟨dy, _, _, _, _, k, _⟩ := S2.ex
  refine ⟨a, b, dx, dy, _, _, rfl, rfl, h, k, a, b, _, _, _, _, _, _, rfl, S, S2, _, rfl, ?_⟩
  rw [decide_eq_true e1, decide_eq_true e2, decide_eq_true e3]
  exact q
/-- len of a list, the same -/
theorem ne_int {i j : Int} {Q : VK} (e : i = j) (q : Q (.bl false) H) : rNe (.int i) (.int j) H Q := by
  refine ⟨rfl, ?_⟩
  rw [e, decide_eq_true rfl]
  exact q
theorem Fit.both {ps ts : List Str} {rs ms xs : List R3} (F : Fit ps ts rs) (G : Fit ps ts ms) (h : ∀ r ∈ xs, r ∈ rs ∨ r ∈ ms) : Fit ps ts xs :=
  ⟨F.wp, F.wt, F.np, F.nt, F.dis, F.some', fun r hr => (h r hr).elim (F.rts r) (G.rts r)⟩
theorem sortT_two (l : List Str) : sortT (sortT l) = sortT l := sortT_is (sortT_perm l)
theorem add_run {CS CB : Addr} {E : XK} {v : V} {dv : Dt} {p t : List Str} {r ms : List R3} {Q : VK} (S : StAt K CS H a (sortT p) (sortT t) r) (hv : Da K H v dv) (hrow : rowD dv = some (ms.map dtR)) (sz : r.length + ms.length < 64) (F : Fit p t (r ++ ms))
    (q : ∀ H' x, Same H H' → H x = none → StAt K CS H' x (sortT p) (sortT t) (nrm (r ++ ms)) → Q (.ref x) H') : spAdd K CS CB [.ref a, v] H Q E := by
  have e9 : errD (dS (sortT p)) (dS (sortT t)) (.lst (r.map dtR ++ ms.map dtR)) = none := by
    rw [← List.map_append]
    exact errD_ok rfl rfl rfl (F.perm (sortT_perm p) (sortT_perm t) fun _ h => h)
  refine ⟨a, _, _, r, v, dv, _, rfl, S, hv, hrow, by rw [List.length_map]; exact sz, (fun e he => by rw [e9] at he; cases he), fun _ H' x s n S2 => q H' x s n ?_⟩
  rw [← List.map_append, r3s_map, sortT_two, sortT_two] at S2
  exact S2
theorem sub_run {CS CB : Addr} {E : XK} {v : V} {dv : Dt} {p t : List Str} {r ms : List R3} {Q : VK} (S : StAt K CS H a (sortT p) (sortT t) r) (hv : Da K H v dv) (hrow : rowD dv = some (ms.map dtR)) (sz : ms.length < 1000) (F : Fit p t r)
    (q : ∀ H' x, Same H H' → H x = none → StAt K CS H' x (sortT p) (sortT t) (nrm (r.filter fun y => !decide (y ∈ ms))) → Q (.ref x) H') : spSub K CS CB [.ref a, v] H Q E := by
  have e9 : errD (dS (sortT p)) (dS (sortT t)) (.lst ((r.filter fun y => !decide (y ∈ ms)).map dtR)) = none :=
    errD_ok rfl rfl rfl (F.perm (sortT_perm p) (sortT_perm t) fun _ h => (List.mem_filter.mp h).1)
  refine ⟨a, _, _, r, v, dv, ms, rfl, S, hv, hrow, sz, (fun e he => by rw [e9] at he; cases he), fun _ H' x s n S2 => q H' x s n ?_⟩
  rw [sortT_two, sortT_two] at S2
  exact S2
/-- rights, where all but a draws list stays -/
theorem DaAll.but {H' : Hp} {d : Addr} {xs : List V} {rs : List R3} (D : Dr K H d) (b : But d H H') (h : DaAll K H xs (rs.map dtR)) : DaAll K H' xs (rs.map dtR) := DaAll.same ((less_but b).trans less_same) (h.lessR D.lst)
theorem dp_bls : ∀ l : List Bool, DpAll K H (l.map V.bl) (l.map PyData.bool)
  | [] => .nil
  | x :: l => .cons (.bl x) (dp_bls l)
theorem lay_bls : ∀ l : List Bool, PyData.plainAll (l.map PyData.bool) = true
  | [] => rfl
  | _ :: l => by
    rw [List.map_cons, PyData.plainAll, lay_bls l]
    rfl
theorem dep_bls : ∀ l : List Bool, PyData.depthAll (l.map PyData.bool) = 0
  | [] => rfl
  | x :: l => by
    rw [List.map_cons, PyData.depthAll, dep_bls l]
    rfl
theorem eqv_bls : ∀ l : List Bool, PyData.eqvAll (l.map PyData.bool) (l.map PyData.bool) = true
  | [] => rfl
  | x :: l => by
    rw [List.map_cons, PyData.eqvAll, eqv_bls l]
    cases x <;> rfl
theorem ne_bls {l m : List Bool} {Q : VK} (e : l = m) (ha : SqL K H a (l.map V.bl)) (hb : SqL K H b (m.map V.bl)) (q : Q (.bl false) H) : rEqP K true (.ref a) (.ref b) H Q := by
  subst e
  refine ⟨_, _, .lst ha (dp_bls _), .lst hb (dp_bls _), lay_bls _, lay_bls _, by rw [PyData.depth, dep_bls]; decide, ?_⟩
  rw [show PyData.eqv (.list (l.map PyData.bool)) (.list (l.map PyData.bool)) = true from by rw [PyData.eqv, eqv_bls]]
  exact q
theorem rep_true {f : R3 → Bool} : ∀ (l : List R3), (∀ r ∈ l, f r = true) → (List.replicate l.length [V.bl true]).flatten = (l.map f).map V.bl
  | [], _ => rfl
  | r :: l, h => by
    rw [List.length_cons, List.replicate_succ, List.flatten_cons, rep_true l fun x hx => h x (List.mem_cons_of_mem _ hx), List.map_cons, List.map_cons, h r List.mem_cons_self]
    rfl
end
end K
set_option Elab.async false
set_option linter.all false
set_option maxRecDepth 100000
set_option maxHeartbeats 4000000
/-! The law's second names: facts without a heap, and the readings of what makes them. -/
namespace K
open PySem L2 Hk PyProof.Rows
def lateA : List (Str × Str) := [("ann", "zoe")]
def backA : List (Str × Str) := [("zoe", "ann")]
def nB (x : Str) : Str := ("n" : Str) ++ x
def lateB (nm : List Str) : List (Str × Str) := nm.map fun x => (x, nB x)
def backB (nm : List Str) : List (Str × Str) := nm.map fun x => (nB x, x)
def swp (ls : List (Str × Str)) : List (Str × Str) := ls.map fun p => (p.2, p.1)
theorem swp_A : swp lateA = backA := rfl
theorem swp_B (nm : List Str) : swp (lateB nm) = backB nm := by
  unfold swp lateB backB
  rw [List.map_map]
  rfl
theorem lk_map {f g : Str → Str} : ∀ {nm : List Str} {x : Str}, (∀ y ∈ nm, f y = f x → y = x) → x ∈ nm → lk (nm.map fun y => (f y, g y)) (f x) = some (g x)
  | [], x, _, h => (List.not_mem_nil h).elim
  | y :: nm, x, inj, h => by
    unfold lk
    rw [List.map_cons, List.find?_cons]
    by_cases e : f y = f x
    · have e2 := inj y List.mem_cons_self e
      subst e2
      simp
    · simp only [e, decide_false]
      have hx : x ∈ nm := by
        rcases List.mem_cons.mp h with rfl | h
        · exact (e rfl).elim
        · exact h
      exact lk_map (fun z hz => inj z (List.mem_cons_of_mem _ hz)) hx
theorem nB_inj5 : ∀ x ∈ five, ∀ y ∈ five, nB x = nB y → x = y := by decide +kernel
theorem nB_ok5 : ∀ x ∈ five, wordOk 8 (nB x) = true := by decide +kernel
theorem nB_len5 : ∀ x ∈ five, (nB x).length ≤ 1000 ∧ ("n" : Str).length + x.length ≤ 1000 := by decide +kernel
theorem lateA_ok5 : ∀ x ∈ five, wordOk 8 (ren lateA x) = true := by decide +kernel
theorem lateA_inj5 : ∀ x ∈ five, ∀ y ∈ five, ren lateA x = ren lateA y → x = y := by decide +kernel
theorem lateA_back5 : ∀ x ∈ five, ren backA (ren lateA x) = x := by decide +kernel
/-- second names that fit -/
structure Late (nm : List Str) (ls : List (Str × Str)) : Prop where
  keys : ∀ p ∈ ls, p.1 ∈ nm
  nd : (ls.map (·.1)).Nodup
  nd2 : (ls.map (·.2)).Nodup
  len : ls.length ≤ 5
  l1 : ∀ p ∈ ls, p.1.length ≤ 1000
  l2 : ∀ p ∈ ls, p.2.length ≤ 1000
  ok : ∀ x ∈ nm, wordOk 8 (ren ls x) = true
  inj : ∀ x ∈ nm, ∀ y ∈ nm, ren ls x = ren ls y → x = y
  back : ∀ x ∈ nm, ren (swp ls) (ren ls x) = x
  keys2 : ∀ p ∈ ls, ∃ x ∈ nm, ren ls x = p.2
theorem late_A {nm : List Str} (h : nm.Sublist five) (ha : ("ann" : Str) ∈ nm) : Late nm lateA where
  keys p hp := by
    rcases List.mem_cons.mp hp with rfl | hp
    · exact ha
    · cases hp
  nd := by decide +kernel
  nd2 := by decide +kernel
  len := by decide
  l1 := by decide +kernel
  l2 := by decide +kernel
  ok x hx := lateA_ok5 x (h.subset hx)
  inj x hx y hy := lateA_inj5 x (h.subset hx) y (h.subset hy)
  back x hx := lateA_back5 x (h.subset hx)
  keys2 p hp := by
    rcases List.mem_cons.mp hp with rfl | hp
    · exact ⟨"ann", ha, by decide +kernel⟩
    · cases hp
theorem ren_B {nm : List Str} {x : Str} (hx : x ∈ nm) : ren (lateB nm) x = nB x := by
  have := lk_map (f := id) (g := nB) (nm := nm) (x := x) (fun y _ e => e) hx
  unfold ren lateB
  rw [show lk (nm.map fun x => (x, nB x)) x = some (nB x) from this]
  rfl
theorem late_B {nm : List Str} (h : nm.Sublist five) : Late nm (lateB nm) where
  keys p hp := by
    obtain ⟨x, hx, rfl⟩ := List.mem_map.mp hp
    exact hx
  nd := by
    unfold lateB
    rw [List.map_map]
    rw [show ((fun p : Str × Str => p.1) ∘ fun x => (x, nB x)) = id from rfl, List.map_id]
    exact h.nodup five_nd
  nd2 := by
    unfold lateB
    rw [List.map_map]
    refine List.pairwise_map.mpr ((h.nodup five_nd).imp_of_mem fun {x y} hx hy ne e => ne (nB_inj5 x (h.subset hx) y (h.subset hy) e))
  len := by
    unfold lateB
    rw [List.length_map]
    exact h.length_le
  l1 p hp := by
    obtain ⟨x, hx, rfl⟩ := List.mem_map.mp hp
    exact five_len x (h.subset hx)
  l2 p hp := by
    obtain ⟨x, hx, rfl⟩ := List.mem_map.mp hp
    exact (nB_len5 x (h.subset hx)).1
  ok x hx := by
    rw [ren_B hx]
    exact nB_ok5 x (h.subset hx)
  inj x hx y hy e := by
    rw [ren_B hx, ren_B hy] at e
    exact nB_inj5 x (h.subset hx) y (h.subset hy) e
  back x hx := by
    rw [ren_B hx, swp_B]
    have := lk_map (f := nB) (g := id) (nm := nm) (x := x) (fun y hy e => nB_inj5 y (h.subset hy) x (h.subset hx) e) hx
    unfold ren backB
    rw [show lk (nm.map fun x => (nB x, x)) (nB x) = some x from this]
    rfl
  keys2 p hp := by
    obtain ⟨x, hx, rfl⟩ := List.mem_map.mp hp
    exact ⟨x, hx, ren_B hx⟩
theorem nodup_map_on {α β : Type} {f : α → β} {l : List α} (nd : l.Nodup) (inj : ∀ x ∈ l, ∀ y ∈ l, f x = f y → x = y) : (l.map f).Nodup :=
  List.pairwise_map.mpr (nd.imp_of_mem fun {x y} hx hy ne e => ne (inj x hx y hy e))
theorem Late.fit {nm pl tl : List Str} {ls : List (Str × Str)} {rs : List R3} (L : Late nm ls) (F : Fit pl tl rs) (hp : ∀ x, x ∈ pl ++ tl → x ∈ nm) : Fit (pl.map (ren ls)) (tl.map (ren ls)) (rs.map (renR ls)) where
  wp x hx := by
    obtain ⟨y, hy, rfl⟩ := List.mem_map.mp hx
    exact L.ok y (hp y (List.mem_append_left _ hy))
  wt x hx := by
    obtain ⟨y, hy, rfl⟩ := List.mem_map.mp hx
    exact L.ok y (hp y (List.mem_append_right _ hy))
  np := nodup_map_on F.np fun x hx y hy e => L.inj x (hp x (List.mem_append_left _ hx)) y (hp y (List.mem_append_left _ hy)) e
  nt := nodup_map_on F.nt fun x hx y hy e => L.inj x (hp x (List.mem_append_right _ hx)) y (hp y (List.mem_append_right _ hy)) e
  dis x hx hx2 := by
    obtain ⟨y, hy, rfl⟩ := List.mem_map.mp hx
    obtain ⟨z, hz, e⟩ := List.mem_map.mp hx2
    have := L.inj z (hp z (List.mem_append_left _ hz)) y (hp y (List.mem_append_right _ hy)) e
    subst this
    exact F.dis _ hy hz
  some' z := by
    rw [← List.map_append] at z
    exact F.some' (List.map_eq_nil_iff.mp z)
  rts r hr := by
    obtain ⟨s, hs, rfl⟩ := List.mem_map.mp hr
    obtain ⟨a, b, c⟩ := F.rts s hs
    rw [← List.map_append]
    exact ⟨List.mem_map.mpr ⟨_, a, rfl⟩, List.mem_map.mpr ⟨_, b, rfl⟩, c⟩
theorem fit_srt {pl tl : List Str} {rs : List R3} (F : Fit pl tl rs) : Fit (sortT pl) (sortT tl) (nrm rs) := F.perm (sortT_perm pl) (sortT_perm tl) fun _ h => mem_nrm.mp h
theorem Late.renR_inj {nm : List Str} {ls : List (Str × Str)} (L : Late nm ls) {r s : R3} (hr : r.1 ∈ nm ∧ r.2.2 ∈ nm) (hs : s.1 ∈ nm ∧ s.2.2 ∈ nm) (e : renR ls r = renR ls s) : r = s := by
  obtain ⟨a, b, c⟩ := r
  obtain ⟨x, y, z⟩ := s
  unfold renR at e
  have e1 := congrArg (·.1) e
  have e2 := congrArg (·.2.1) e
  have e3 := congrArg (·.2.2) e
  have f1 := L.inj a hr.1 x hs.1 e1
  have f3 := L.inj c hr.2 z hs.2 e3
  have f2 : b = y := e2
  subst f1 f2 f3
  rfl
theorem Late.renR_back {nm : List Str} {ls : List (Str × Str)} (L : Late nm ls) {r : R3} (hr : r.1 ∈ nm ∧ r.2.2 ∈ nm) : renR (swp ls) (renR ls r) = r := by
  obtain ⟨a, b, c⟩ := r
  unfold renR
  rw [L.back a hr.1, L.back c hr.2]
theorem map_back {nm l : List Str} {ls : List (Str × Str)} (L : Late nm ls) (h : ∀ x ∈ l, x ∈ nm) : (l.map (ren ls)).map (ren (swp ls)) = l := by
  rw [List.map_map]
  conv => rhs; rw [← List.map_id l]
  exact List.map_congr_left fun x hx => L.back x (h x hx)
/-- the way back of the names of people, or of things -/
theorem names_back {nm l : List Str} {ls : List (Str × Str)} (L : Late nm ls) (h : ∀ x ∈ l, x ∈ nm) : sortT ((sortT ((sortT l).map (ren ls))).map (ren (swp ls))) = sortT l := by
  refine sortT_is ?_
  have p1 := (sortT_perm ((sortT l).map (ren ls))).map (ren (swp ls))
  have e : ((sortT l).map (ren ls)).map (ren (swp ls)) = sortT l := map_back L fun x hx => h x ((sortT_perm l).mem_iff.mp hx)
  rw [e] at p1
  exact p1.trans (sortT_perm l)
theorem rights_back {nm : List Str} {ls : List (Str × Str)} {rs : List R3} (L : Late nm ls) (h : ∀ r ∈ rs, r.1 ∈ nm ∧ r.2.2 ∈ nm) : nrm ((nrm (rs.map (renR ls))).map (renR (swp ls))) = nrm rs := by
  refine nrm_congr fun x => ?_
  constructor
  · intro hx
    obtain ⟨y, hy, rfl⟩ := List.mem_map.mp hx
    obtain ⟨z, hz, rfl⟩ := List.mem_map.mp (mem_nrm.mp hy)
    rw [L.renR_back (h z hz)]
    exact hz
  · intro hx
    exact List.mem_map.mpr ⟨renR ls x, mem_nrm.mpr (List.mem_map.mpr ⟨x, hx, rfl⟩), L.renR_back (h x hx)⟩
theorem ren_nil (x : Str) : ren [] x = x := rfl
theorem renR_nil (r : R3) : renR [] r = r := rfl
theorem map_ren_nil (l : List Str) : l.map (ren []) = l := by
  conv => rhs; rw [← List.map_id l]
  exact List.map_congr_left fun x _ => rfl
theorem map_renR_nil (l : List R3) : l.map (renR []) = l := by
  conv => rhs; rw [← List.map_id l]
  exact List.map_congr_left fun x _ => rfl
section
variable {K : PySem.W.Frag} {H : Hp} {a : Addr}
/-- sorted(x) of a list of rights, each once -/
theorem sortR_read {xs : List V} {rs : List R3} {Q : VK} (hx : SqL K H a xs) (da : DaAll K H xs (rs.map dtR)) (nd : rs.Nodup)
    (q : ∀ p ys, H p = none → DaAll K (upd H p (.lst ys)) ys ((nrm rs).map dtR) → Q (.ref p) (upd H p (.lst ys))) : rSortR K [.ref a] H Q := by
  obtain ⟨ks, rfl, e2, e3, e4⟩ := trip_kt da
  have ofK : ∀ p ∈ ks, ∃ r ∈ rs, p.2 = kK r := fun p hp => by
    have m : p.2 ∈ rs.map kK := by
      rw [← e2]
      exact List.mem_map.mpr ⟨p, hp, rfl⟩
    obtain ⟨r, hr, e⟩ := List.mem_map.mp m
    exact ⟨r, hr, e.symm⟩
  refine ⟨a, ks, 2, rfl, .inl hx, fun p hp => .inl (.inl (e3 p hp)), fun p hp => ?_, fun M p pm pw hp => ?_⟩
  · obtain ⟨r, _, e⟩ := ofK p hp
    exact ⟨kR r, e, rfl⟩
  have s2 : Same H (upd H p (.lst (M.map fun q => V.ref q.1))) := Same.fresh (Same.refl _) hp
  have inM : ∀ q ∈ M, ∃ r ∈ rs, q.2 = kK r ∧ H q.1 = some (.tup (q.2.map kV)) := fun q hq => by
    have hk := pm.mem_iff.mp hq
    obtain ⟨r, hr, e⟩ := ofK q hk
    exact ⟨r, hr, e, e3 q hk⟩
  have e6 : ks.map (fun q => unR q.2) = rs := by
    have := congrArg (List.map unR) e2
    rw [List.map_map, List.map_map] at this
    have e7 : rs.map (unR ∘ kK) = rs := by
      conv => rhs; rw [← List.map_id rs]
      rfl
    rw [e7] at this
    exact this
  have pm2 : (M.map fun q => unR q.2).Perm rs := by
    have := pm.map fun q => unR q.2
    rw [e6] at this
    exact this
  have e5 : (M.map fun q => unR q.2) = nrm rs := by
    refine nrm_is (pm2.nodup_iff.mpr nd) (fun x => pm2.mem_iff) ?_
    refine List.pairwise_map.mpr (List.Pairwise.imp_of_mem (fun {q r} hq hr le => ?_) pw)
    obtain ⟨a1, _, ea, _⟩ := inM q hq
    obtain ⟨b1, _, eb, _⟩ := inM r hr
    rw [ea, eb, unK_kK, unK_kK] at le
    rw [ea, eb, unR_kK, unR_kK]
    exact le
  refine q p _ hp ?_
  rw [← e5]
  refine kt_trip fun q hq => ?_
  obtain ⟨r, hr, e, hs⟩ := inM q hq
  exact ⟨r, e, e4 r hr, s2 _ _ hs⟩
/-- state.renamed(dict): the reading -/
theorem ren_run {CS CB b : Addr} {E : XK} {p t : List Str} {r : List R3} {ls : List (Str × Str)} {Q : VK} (S : StAt K CS H a p t r) (inR : ∀ x ∈ r, x.1 ∈ p ++ t ∧ x.2.2 ∈ p ++ t) (hb : H b = some (.dK (kvD ls)))
    (l2 : ∀ p ∈ ls, p.2.length ≤ 1000) (n : ls.length < 1000) (keys : ∀ q ∈ ls, q.1 ∈ p ++ t) (F : Fit (p.map (ren ls)) (t.map (ren ls)) (r.map (renR ls)))
    (q : ∀ H' x, Same H H' → H x = none → StAt K CS H' x (sortT (p.map (ren ls))) (sortT (t.map (ren ls))) (nrm (r.map (renR ls))) → Q (.ref x) H') : spRen K CS CB [.ref a, .ref b] H Q E := by
  have e9 : errD (dS (p.map (ren ls))) (dS (t.map (ren ls))) (.lst ((r.map (renR ls)).map dtR)) = none := errD_ok rfl rfl rfl F
  have ek : (ls.all fun q => decide (q.1 ∈ p ++ t)) = true := List.all_eq_true.mpr fun q hq => decide_eq_true (keys q hq)
  refine ⟨a, p, t, r, .ref b, rfl, S, inR, .inr ⟨b, ls, rfl, hb, l2, n, fun no => ?_, fun _ => ⟨fun e he => ?_, fun _ H' x s nx S2 => q H' x s nx S2⟩⟩⟩
  · rw [ek] at no
    cases no
  · rw [e9] at he
    cases he
/-- the dict of a list of pairs with keys that differ -/
theorem merge_nd : ∀ {ls : List (Str × Str)} {acc : List (Str × Str)}, (acc.map (·.1) ++ ls.map (·.1)).Nodup → mergeK (kvD acc) (kvD ls) = kvD (acc ++ ls)
  | [], acc, _ => by rw [List.append_nil]; rfl
  | p :: ls, acc, nd => by
    have np : ∀ (l : List (Str × Str)), p.1 ∉ l.map (·.1) → putK (kvD l) (Sum.inr p.1) (V.str p.2) = kvD (l ++ [p]) := by
      intro l hl
      unfold putK
      rw [if_neg]
      · unfold kvD
        rw [List.map_append]
        rfl
      · rw [List.any_eq_true]
        rintro ⟨x, hx, e⟩
        obtain ⟨q, hq, rfl⟩ := List.mem_map.mp hx
        have e2 : (Sum.inr q.1 : Key) = Sum.inr p.1 := of_decide_eq_true e
        exact hl (List.mem_map.mpr ⟨q, hq, Sum.inr.inj e2⟩)
    have h1 : p.1 ∉ acc.map (·.1) := fun z => by
      rw [List.nodup_append] at nd
      exact nd.2.2 _ z p.1 (by rw [List.map_cons]; exact List.mem_cons_self) rfl
    show mergeK (putK (kvD acc) (Sum.inr p.1) (V.str p.2)) (kvD ls) = _
    rw [np acc h1, merge_nd (ls := ls) (acc := acc ++ [p]) (by rw [List.map_append, List.append_assoc]; exact nd), List.append_assoc]
    rfl
theorem merge_kv {ls : List (Str × Str)} (nd : (ls.map (·.1)).Nodup) : mergeK [] (kvD ls) = kvD ls := merge_nd (acc := []) nd
/-- pairs on the heap -/
def PrsAt (K : PySem.W.Frag) (H : Hp) (ps : List Addr) (ls : List (Str × Str)) : Prop := Paired (fun p kv => SqT K H p [kV kv.1, kv.2]) ps (kvD ls)
end
/-- one or the other dict of names -/
theorem late_join {tA tB : TE} {σ : L2.St} {H : Hp} {R : VK} {c : Bool} {nm : List Str} (hA : ∀ Q : VK, (∀ b H', Same H H' → H' b = some (.dK (kvD lateA)) → Q (.ref b) H') → tA σ H Q)
    (hB : ∀ Q : VK, (∀ b H', Same H H' → H' b = some (.dK (kvD (lateB nm))) → Q (.ref b) H') → tB σ H Q) (q : ∀ ls, ls = lateA ∨ ls = lateB nm → ∀ b H', Same H H' → H' b = some (.dK (kvD ls)) → R (.ref b) H') :
    if c = true then tA σ H R else tB σ H R := by
  cases c with
  | true => exact hA R (q _ (.inl rfl))
  | false => exact hB R (q _ (.inr rfl))
theorem SqT.same' {K : PySem.W.Frag} {H H' : Hp} {a : Addr} {xs : List V} (s : Same H H') (h : SqT K H a xs) : SqT K H' a xs := by
  rcases h with (h | ⟨o, h⟩) | h
  · exact .inl (.inl (s _ _ h))
  · exact .inl (.inr ⟨o, s _ _ h⟩)
  · exact .inr h
theorem PrsAt.same {K : PySem.W.Frag} {H H' : Hp} {ps : List Addr} {ls : List (Str × Str)} (s : Same H H') (h : PrsAt K H ps ls) : PrsAt K H' ps ls := by
  unfold PrsAt at h ⊢
  generalize kvD ls = m at h ⊢
  induction h with
  | nil => exact .nil
  | cons h _ ih => exact .cons (SqT.same' s h) ih
theorem PrsAt.snoc {K : PySem.W.Frag} {H : Hp} {ps : List Addr} {ls : List (Str × Str)} {p : Addr} {x y : Str} (h : PrsAt K H ps ls) (hp : H p = some (.tup [.str x, .str y])) : PrsAt K H (ps ++ [p]) (ls ++ [(x, y)]) := by
  unfold PrsAt at h ⊢
  unfold kvD
  rw [List.map_append]
  exact Paired.snoc h (.inl (.inl hp))
theorem ne_bl {K : PySem.W.Frag} {H : Hp} {x y : Bool} {Q : VK} (e : x = y) (q : Q (.bl false) H) : rEqP K true (.bl x) (.bl y) H Q := by
  subst e
  refine ⟨.bool x, .bool x, .bl x, .bl x, rfl, rfl, by show 0 ≤ 60; decide, ?_⟩
  rw [show PyData.eqv (.bool x) (.bool x) = true from by cases x <;> rfl]
  exact q
theorem Same.twice {H : Hp} {p : Addr} {o1 o2 : HO} (hp : H p = none) : Same H (upd (upd H p o1) p o2) := fun b o e => by
  have n : b ≠ p := fun z => by rw [z, hp] at e; cases e
  rw [upd_ne n, upd_ne n]
  exact e
theorem lk_of {p : Str × Str} : ∀ {ls : List (Str × Str)}, (ls.map (·.1)).Nodup → p ∈ ls → lk ls p.1 = some p.2
  | [], _, h => (List.not_mem_nil h).elim
  | q :: ls, nd, h => by
    rw [List.map_cons, List.nodup_cons] at nd
    unfold lk
    rw [List.find?_cons]
    rcases List.mem_cons.mp h with rfl | h
    · simp
    · have ne : ¬ q.1 = p.1 := fun z => nd.1 (by rw [z]; exact List.mem_map.mpr ⟨p, h, rfl⟩)
      simp only [ne, decide_false]
      exact lk_of nd.2 h
theorem PrsAt.unlock {K : PySem.W.Frag} {H : Hp} {b : Addr} {od : PySem.Obj} {kvs : List (Key × V)} {u : HO} (hb : H b = some (.frz od (.dK kvs))) {ps : List Addr} {ls : List (Str × Str)} (h : PrsAt K H ps ls) : PrsAt K (upd H b u) ps ls := by
  unfold PrsAt at h ⊢
  generalize kvD ls = m at h ⊢
  induction h with
  | nil => exact .nil
  | @cons p q _ _ h _ ih =>
    refine .cons ?_ ih
    rcases h with (h | ⟨o, h⟩) | h
    · exact .inl (.inl (by rw [upd_ne (fun z => by rw [z, hb] at h; cases h)]; exact h))
    · exact .inl (.inr ⟨o, by rw [upd_ne (fun z => by rw [z, hb] at h; cases h)]; exact h⟩)
    · exact .inr h
theorem swp_keys (ls : List (Str × Str)) : (swp ls).map (·.1) = ls.map (·.2) := by
  unfold swp
  rw [List.map_map]
  rfl
theorem Late.fit_back {nm pl tl : List Str} {ls : List (Str × Str)} {rs : List R3} (L : Late nm ls) (F : Fit pl tl rs) (hp : ∀ x, x ∈ pl ++ tl → x ∈ nm) :
    Fit ((sortT (pl.map (ren ls))).map (ren (swp ls))) ((sortT (tl.map (ren ls))).map (ren (swp ls))) ((nrm (rs.map (renR ls))).map (renR (swp ls))) := by
  refine F.perm ?_ ?_ fun r hr => ?_
  · have p1 := (sortT_perm (pl.map (ren ls))).map (ren (swp ls))
    rw [map_back L fun x hx => hp x (List.mem_append_left _ hx)] at p1
    exact p1
  · have p1 := (sortT_perm (tl.map (ren ls))).map (ren (swp ls))
    rw [map_back L fun x hx => hp x (List.mem_append_right _ hx)] at p1
    exact p1
  · obtain ⟨y, hy, rfl⟩ := List.mem_map.mp hr
    obtain ⟨z, hz, rfl⟩ := List.mem_map.mp (mem_nrm.mp hy)
    obtain ⟨a, b, _⟩ := F.rts z hz
    rw [L.renR_back ⟨hp _ a, hp _ b⟩]
    exact hz
theorem nrm_nil : nrm [] = [] := by
  unfold nrm ded
  exact List.mergeSort_nil
theorem sortT_one (x : Str) : sortT [x] = [x] := List.mergeSort_singleton x
theorem nrm_one (r : R3) : nrm [r] = [r] := nrm_self (List.nodup_cons.mpr ⟨List.not_mem_nil, List.nodup_nil⟩) (List.pairwise_cons.mpr ⟨fun _ h => (List.not_mem_nil h).elim, .nil⟩)
end K
set_option Elab.async false
set_option linter.all false
set_option maxRecDepth 100000
set_option maxHeartbeats 8000000
/-! The law's end: other names, and what is refused. -/
namespace K
open PySem L2 Hk LamX
abbrev nLaw : List Str := ["script", "draw", "names", "people", "things", "rights", "state", "due", "more", "less", "one", "other", "late", "told", "name", "right", "word", "first", "second"]
theorem scLaw : FnScope nLaw ["script"] (defScope sLaw) := ⟨rfl, rfl, rfl, by decide +kernel, rfl, by decide +kernel, by decide +kernel⟩
def rCatX : R2 := fun x y H Q => ∃ i j, x = .str i ∧ y = .str j ∧ i.length + j.length ≤ sizeLine ∧ Q (.str (i ++ j)) H
theorem asg_tup2 {t1 t2 : TE} {g : TG} {D : Ends} {σ : L2.St} {H : Hp} (h : t1 σ H fun x H1 => t2 σ H1 fun y H2 => 2 ≤ sizeLine ∧ ∀ p, H2 p = none → g (.ref p) σ (L2.upd H2 p (.tup [x, y])) D.nx) : tAsg (tTup (tCons t1 (tCons t2 tNil))) g D σ H := h
structure TxtL (P : Program) (K : PySem.W.Frag) (mg : Str → Option Value) (CS fX fL fPa fIt fLn fCo fEq fAd fSu fRf : Addr) : Prop where
  gX : mg "_law_next" = some (.ref fX)
  kX : PySem.W.keepIn K (.ref fX) = true
  gL : mg "_law_rights" = some (.ref fL)
  kL : PySem.W.keepIn K (.ref fL) = true
  gRf : mg "_law_refused_right" = some (.ref fRf)
  kRf : PySem.W.keepIn K (.ref fRf) = true
  mP : Meth K CS "parties" fPa
  aL : OwnOp K CS fAd .Add "list"
  aT : OwnOp K CS fAd .Add "tuple"
  uL : OwnOp K CS fSu .Sub "list"
  uT : OwnOp K CS fSu .Sub "tuple"
  ne : PySem.W.findIn K (.ref CS) "__ne__" = some (some (.builtin "object.__ne__"))
  mro : PySem.W.mroIn K CS (.type "object") = some true
  eq : PySem.W.findIn K (.ref CS) "__eq__" = some (some (.ref fEq))
  eqF : PySem.W.isFn K (.ref fEq) = true
  co : PySem.W.findIn K (.ref CS) "__contains__" = some (some (.ref fCo))
  coF : PySem.W.isFn K (.ref fCo) = true
  ln : PySem.W.findIn K (.ref CS) "__len__" = some (some (.ref fLn))
  lnF : PySem.W.isFn K (.ref fLn) = true
  it : PySem.W.findIn K (.ref CS) "__iter__" = some (some (.ref fIt))
  itF : PySem.W.isFn K (.ref fIt) = true
section
variable {P : Program} {w : World} {K : PySem.W.Frag} {mg : Str → Option Value} {base : Heap} {f fR fW fT fAW fAR CS CB fB cB cdB CQ fQ cQ cdQ CR fP fEr fI fWo fRe fAd fPa cc PP T0 fX fL fIt fLn fCo fEq fSu fRf : Addr}
  {fd fdB fdQ fdP fdE fdI fdWo fdRe fdAd fdPa fdX fdL fdIt fdLn fdCo fdEq fdSu fdRf : FuncData} {dsI : List Value}
theorem tail_ok (T : TxtS P K mg fR fW fT fAW fAR CS CB fB cB cdB fdB) (TQ : TxtQ P K mg CQ fQ cQ cdQ fdQ)
    (TR : TxtRf P K mg CS CB CQ CR fP fEr fI fWo fRe fAd fPa) (TL : TxtL P K mg CS fX fL fPa fIt fLn fCo fEq fAd fSu fRf)
    (GX : FnOk P w K mg base CX0 3 fX fdX ["draw", "bound"] (spNext K)) (bX : Binds K fdX ["draw", "bound"] [])
    (GL : FnOk P w K mg base CX0 5 fL fdL ["draw", "names"] (spLRights K)) (bL : Binds K fdL ["draw", "names"] [])
    (GI : FnOk P w K mg base (L2.CX P w) 3 fI fdI pSI (spInit K CS CB)) (bI : Binds K fdI pSI []) (bI1 : Binds K fdI pSI dsI) (vI1 : Vals [.ref T0] dsI) (hT0 : ∀ H, SqT K H T0 [])
    (GPa : FnOk P w K mg base CX0 1 fPa fdPa ["self"] (spParties K CS)) (bPa : Binds K fdPa ["self"] [])
    (GW : FnOk P w K mg base (L2.CX P w) 3 fWo fdWo ["self", "one", "other"] (spWords K CS CQ)) (bW : Binds K fdWo ["self", "one", "other"] [])
    (GR : FnOk P w K mg base (L2.CX P w) 5 fRe fdRe ["self", "names"] (spRen K CS CB)) (bR : Binds K fdRe ["self", "names"] [])
    (GA : FnOk P w K mg base (L2.CX P w) 5 fAd fdAd ["self", "rights"] (spAdd K CS CB)) (bA : Binds K fdAd ["self", "rights"] [])
    (GS : FnOk P w K mg base (L2.CX P w) 5 fSu fdSu ["self", "rights"] (spSub K CS CB)) (bS : Binds K fdSu ["self", "rights"] [])
    (GIt : FnOk P w K mg base CX0 1 fIt fdIt ["self"] (spIter CS)) (bIt : Binds K fdIt ["self"] [])
    (GLn : FnOk P w K mg base CX0 1 fLn fdLn ["self"] (spLen K CS)) (bLn : Binds K fdLn ["self"] [])
    (GC : FnOk P w K mg base CX0 1 fCo fdCo ["self", "right"] (spIn K CS)) (bC : Binds K fdCo ["self", "right"] [])
    (GE : FnOk P w K mg base CX0 1 fEq fdEq ["self", "other"] (spEq K CS)) (bE : Binds K fdEq ["self", "other"] [])
    (GRf : FnOk P w K mg base CX0 8 fRf fdRf ["draw", "state"] (spRefused K CS PP)) (bRf : Binds K fdRf ["draw", "state"] [])
    {cdv : Value} {A : Around} {outer : List Env} {s : Shared} {H : Hp} {E : XK} (hr : Room 9 (A.deeper (PyProof.Rows.envOfC "law" (defScope sLaw) s.heap.objs.size f cdv))) :
    ∃ t : TS, PSs (cxOf CX0 P w K mg base nLaw "law" (defScope sLaw) f cdv A outer s H E).nox ((defBody sLaw).drop 14) t ∧
      ∀ (D : Ends) (H43 : Hp) (a d n pA tA rA st du mA lsA : Addr) (v10 v11 : Option V) (nm pl tl : List Str) (rs : List R3) (ys : List V), nm.Sublist five → ("ann" : Str) ∈ nm → (pl ++ tl).Perm nm → Fit pl tl rs → (nrm rs).length ≤ 10 →
        n ≠ d → pA ≠ d → tA ≠ d → du ≠ d → StAt K CS H43 st (sortT pl) (sortT tl) (nrm rs) → H43 du = some (.lst ys) → DaAll K H43 ys ((nrm rs).map dtR) → H43 n = some (.lst (nm.map V.str)) → H43 pA = some (.lst (pl.map V.str)) → H43 tA = some (.lst (tl.map V.str)) →
        Tabs [(PP, qRf)] H43 → Dr K H43 d → (∀ H', D.rt (.bl true) H') →
        t D [some (.ref a), some (.ref d), some (.ref n), some (.ref pA), some (.ref tA), some (.ref rA), some (.ref st), some (.ref du), some (.ref mA), some (.ref lsA), v10, v11, none, none, none, none, none, none, none] H43 := by
  have hr1 : Room 1 _ := hr.mono (by decide)
  have hr2 : Room 2 _ := hr.mono (by decide)
  have hr3 : Room 3 _ := hr.mono (by decide)
  have hr4 : Room 4 _ := hr.mono (by decide)
  have hr5 : Room 5 _ := hr.mono (by decide)
  have hr6 : Room 6 _ := hr.mono (by decide)
  have hr8 : Room 8 _ := hr.mono (by decide)
  refine ⟨_, (pss_cons (ps_set (i := 12) scLaw.nd rfl (Or.inr rfl) (pe_ifExp (pt_cmpR op_eq (pe_call GX hr3 (by rfl) TL.gX TL.kX bX .nil pass0 (pa_cons (pv 1) (pa_cons pe_int pa_nil))) pe_int (nomark _)) (pe_disp (pps_cons pe_str pe_str pps_nil) (by rfl) (by rfl) (fun z => by cases z) (by decide)) (pe_callTy (call_dictP rfl) (by rfl) T.r.w.f.dict (by decide +kernel) (pa_cons (pe_lc (own := [("name", 14)]) (g := (gName 14)) (tt := tYes) (te := (tTup (tCons (tVar 14) (tCons (tOp rCatX (tC (.str "n")) (tVar 14)) tNil)))) rfl scLaw.nd (pi_seq (pv 2)) (blkOk_by (N := nLaw) (sc := defScope sLaw) (by decide +kernel)) (fun _ _ _ _ _ => (pg_name (i := 14) scLaw.nd rfl (Or.inl rfl))) (fun _ _ _ _ _ => pts_nil) (fun _ _ _ _ _ => (pe_tup (pa_cons (pv 14) (pa_cons (pe_op op_add_str pe_str (pv 14)) pa_nil))))) pa_nil))))
      (pss_cons (ps_set (i := 13) scLaw.nd rfl (Or.inl rfl) (pe_meth (E := E0) (pv 6) T.cl TR.mR GR hr5 bR .nil passL (pa_cons (pv 12) pa_nil)))
      (pss_cons (ps_if (PW.pt (pw_or (pt_cmpR (op_neP hr.units) (pe_meth0 (pv 13) T.cl TL.mP GPa hr1 bPa .nil pass0) (pe_callB (cr_sortX hr.units) (by rfl) T.r.w.f.sorted (by decide +kernel) (pa_cons (pe_lc (own := [("name", 14)]) (g := (gName 14)) (tt := tYes) (te := (tDGet2 (tVar 12) (tVar 14) (tVar 14))) rfl scLaw.nd (pi_seq (pv 2)) (blkOk_by (N := nLaw) (sc := defScope sLaw) (by decide +kernel)) (fun _ _ _ _ _ => (pg_name (i := 14) scLaw.nd rfl (Or.inl rfl))) (fun _ _ _ _ _ => pts_nil) (fun _ _ _ _ _ => (pe_dget2 (hu_of hr) (pv 12) (pv 14) (pv 14) ⟨rfl, rfl, rfl, rfl⟩))) pa_nil)) (nomark _)) (pw_or1 (pt_cmpR (op_neP hr.units) (pe_fld (pv 13) rfl) (pe_callB (cr_sortR hr.units) (by rfl) T.r.w.f.sorted (by decide +kernel) (pa_cons (pe_lc (own := [("one", 10), ("word", 16), ("other", 11)]) (g := (gTup K 3 (gCons (gName 10) (gCons (gName 16) (gCons (gName 11) gNil))))) (tt := tYes) (te := (tTup (tCons (tDGet2 (tVar 12) (tVar 10) (tVar 10)) (tCons (tVar 16) (tCons (tDGet2 (tVar 12) (tVar 11) (tVar 11)) tNil))))) rfl scLaw.nd (pi_seq (pv 7)) (blkOk_by (N := nLaw) (sc := defScope sLaw) (by decide +kernel)) (fun _ _ _ _ _ => (pg_tup rfl (pgs_cons (pg_name (i := 10) scLaw.nd rfl (Or.inl rfl)) (pgs_cons (pg_name (i := 16) scLaw.nd rfl (Or.inl rfl)) (pgs_cons (pg_name (i := 11) scLaw.nd rfl (Or.inl rfl)) pgs_nil))))) (fun _ _ _ _ _ => pts_nil) (fun _ _ _ _ _ => (pe_tup (pa_cons (pe_dget2 (hu_of hr) (pv 12) (pv 10) (pv 10) ⟨rfl, rfl, rfl, rfl⟩) (pa_cons (pv 16) (pa_cons (pe_dget2 (hu_of hr) (pv 12) (pv 11) (pv 11) ⟨rfl, rfl, rfl, rfl⟩) pa_nil)))))) pa_nil)) (nomark _))))) (pss_one (ps_ret pe_bl)) pss_nil)
      (pss_cons (ps_if (PW.pt (pw_or (pt_cmpR (op_ownNe (E := E0) TL.ne TL.mro TL.eq TL.eqF GE hr2 bE pass0) (pe_meth (E := E0) (pv 13) T.cl TR.mR GR hr5 bR .nil passL (pa_cons (pe_callTy (call_dictP rfl) (by rfl) T.r.w.f.dict (by decide +kernel) (pa_cons (pe_lock (pe_lc (own := [("name", 14)]) (g := (gName 14)) (tt := tYes) (te := (tTup (tCons (tDGet (tVar 12) (tVar 14)) (tCons (tVar 14) tNil)))) rfl scLaw.nd (pi_keys (pv 12)) (blkOk_by (N := nLaw) (sc := defScope sLaw) (by decide +kernel)) (fun _ _ _ _ _ => (pg_name (i := 14) scLaw.nd rfl (Or.inl rfl))) (fun _ _ _ _ _ => pts_nil) (fun _ _ _ _ _ => (pe_tup (pa_cons (pe_dget (hu_of hr) (pv 12) (pv 14) (fun _ _ => rfl)) (pa_cons (pv 14) pa_nil)))))) pa_nil)) pa_nil)) (pv 6) (nomark _)) (pw_or (pt_cmpR (op_ownNe (E := E0) TL.ne TL.mro TL.eq TL.eqF GE hr2 bE pass0) (pe_meth (E := E0) (pv 6) T.cl TR.mR GR hr5 bR .nil passL (pa_cons pe_dnewK pa_nil)) (pv 6) (nomark _)) (pw_or1 (pt_cmpR (op_neP hr.units) (pe_cmpR (op_ownEq (E := E0) TL.eq TL.eqF GE hr1 bE pass0) (pv 6) (pe_make (E := E0) TR.made GI hr4 (by rfl) T.gS bI1 vI1 passL (pa_cons (pv 3) (pa_cons (pv 4) pa_nil))) (nomark _)) (pe_cmpR (op_eqP hr.units) (pv 7) (pe_lst pa_nil) (nomark _)) (nomark _)))))) (pss_one (ps_ret pe_bl)) pss_nil)
      (pss_one (ps_ret (pe_call GRf hr8 (by rfl) TL.gRf TL.kRf bRf .nil pass0 (pa_cons (pv 1) (pa_cons (pe_make (E := E0) TR.made GI hr4 (by rfl) T.gS bI .nil passL (pa_cons (pe_lst (pa_cons pe_str pa_nil)) (pa_cons (pe_lst (pa_cons pe_str pa_nil)) (pa_cons (pe_lst (pa_cons (pe_tup (pa_cons pe_str (pa_cons pe_str (pa_cons pe_str pa_nil)))) pa_nil)) pa_nil)))) pa_nil))))))))), ?_⟩
  intro D H43 a d n pA tA rA st du mA lsA v10 v11 nm pl tl rs ys hsub hann hperm fit lnr nnd npd ntd dud S43 hdu43 dadu43 hn43 hp43 ht43 TT43 D43 q
  have d43 := D43.lst.choose_spec
  refine ⟨_, rfl, d, 2, rfl, D43, by decide, fun k44 H44 k440 k442 b44 D44 g44 => ⟨rfl, _, rfl, ?_⟩⟩
  have S44 := S43.but D43 b44
  have hdu44 := b44 _ _ dud hdu43
  have dadu44 := DaAll.but D43 b44 dadu43
  have hn44 := b44 _ _ nnd hn43
  have hp44 := b44 _ _ npd hp43
  have ht44 := b44 _ _ ntd ht43
  have TT44 := Tabs.but d43 TT43 b44
  have nm5 : nm.length ≤ 5 := hsub.length_le
  clear b44 g44 S43 hdu43 dadu43 hn43 hp43 ht43 TT43 d43 D43
  refine late_join (nm := nm) (fun Q q => ?_) (fun Q q => ?_) fun ls hls b H45 s45 hb45 => ?_
  · exact fun p hp => ⟨upd_same, [((Sum.inr "ann" : Key), V.str "zoe")], rfl, by decide, q p _ (Same.twice hp) upd_same⟩
  · refine ⟨_, rfl, true, n, _, rfl, SqX.list (SqL.of hn44), fun J wk D5 hD5 => lcX wk hD5 (fun i acc H => ∃ ps : List Addr, acc = ps.map V.ref ∧ PrsAt K (less D5 H) ps (lateB (nm.take i))) (by rw [List.length_map, sizeLine_eq]; omega) (fun i l H H' r b => let ⟨ps, e, h⟩ := r; ⟨ps, e, h.same (less_but b)⟩) ⟨[], rfl, .nil⟩ (fun H3 s3 => SqX.list (SqL.of (s3 _ _ hn44))) ?_ ?_⟩
    · rintro i x HB acc hi ex sB eB ⟨ps, rfl, hps⟩ Nx yes no
      rw [List.getElem?_map] at ex
      obtain ⟨z, ez, rfl⟩ := Option.map_eq_some_iff.mp ex
      have hz := hsub.subset (List.mem_of_getElem? ez)
      refine ⟨rfl, tYes_ok ⟨_, rfl, _, rfl, _, _, rfl, rfl, (by have := (nB_len5 z hz).2; rw [sizeLine_eq]; omega), by show 2 ≤ sizeLine; decide, fun q0 hq0 => ?_⟩⟩
      have sq : Same HB (upd HB q0 (.tup [.str z, .str (nB z)])) := Same.fresh (Same.refl _) hq0
      have nq : q0 ≠ D5 := fun z => by rw [z, eB] at hq0; cases hq0
      refine yes _ _ sq ⟨ps ++ [q0], by rw [List.map_append]; rfl, ?_⟩
      rw [take_up ez]
      unfold lateB
      rw [List.map_append]
      exact (hps.same (less_mono sq)).snoc (by rw [less_ne nq, upd_same])
    · rintro HB acc sB eB ⟨ps, rfl, hps⟩
      rw [List.length_map, List.take_length] at hps
      refine ⟨D5, ps, kvD (lateB nm), rfl, SqL.of eB, hps.same less_same, fun p hp => ?_⟩
      rw [merge_kv (late_B hsub).nd]
      exact q p _ (Same.fresh sB hp) upd_same
  have L : Late nm ls := by
    rcases hls with rfl | rfl
    · exact late_A hsub hann
    · exact late_B hsub
  have mem : ∀ x, x ∈ pl ++ tl ↔ x ∈ nm := fun x => hperm.mem_iff
  have memS : ∀ x, x ∈ sortT pl ++ sortT tl ↔ x ∈ nm := fun x => (((sortT_perm pl).append (sortT_perm tl)).trans hperm).mem_iff
  have fitS := fit_srt fit
  have inR : ∀ r ∈ nrm rs, r.1 ∈ nm ∧ r.2.2 ∈ nm := fun r hr => ⟨(memS _).mp (fitS.rts r hr).1, (memS _).mp (fitS.rts r hr).2.1⟩
  have inRS : ∀ r ∈ nrm rs, r.1 ∈ sortT pl ++ sortT tl ∧ r.2.2 ∈ sortT pl ++ sortT tl := fun r hr => ⟨(fitS.rts r hr).1, (fitS.rts r hr).2.1⟩
  have fit2 := L.fit fitS fun x hx => (memS x).mp hx
  have S45 := S44.same s45
  have hdu45 := s45 _ _ hdu44
  have dadu45 := DaAll.same s45 dadu44
  have hn45 := s45 _ _ hn44
  have hp45 := s45 _ _ hp44
  have ht45 := s45 _ _ ht44
  have TT45 := Tabs.same TT44 s45
  have D45 := D44.same s45
  clear s45 S44 hdu44 dadu44 hn44 hp44 ht44 TT44 D44
  obtain ⟨dx, ip, it', ir, ix, g45, _⟩ := S45.ex
  refine ⟨_, rfl, st, dx, _, rfl, g45, flds_no _ _ _ (by decide +kernel) (by decide +kernel) (by decide +kernel), _, rfl, ?_⟩
  unfold tNil
  refine ren_run (CB := CB) S45 inRS hb45 L.l2 (by have := L.len; omega) (fun q hq => (memS _).mpr (L.keys q hq)) fit2 fun H46 x46 s46 nx46 S46 => ?_
  have P1 : sortT ((sortT pl).map (ren ls)) = sortT ((sortT pl).map (ren ls)) := rfl
  have S46' := S45.same s46
  have hdu46 := s46 _ _ hdu45
  have dadu46 := DaAll.same s46 dadu45
  have hn46 := s46 _ _ hn45
  have hp46 := s46 _ _ hp45
  have ht46 := s46 _ _ ht45
  have TT46 := Tabs.same TT45 s46
  have D46 := D45.same s46
  have hb46 := s46 _ _ hb45
  clear S45 hdu45 dadu45 hn45 hp45 ht45 TT45 D45 hb45 g45
  obtain ⟨dy, jp, jt, jr, jx, g46, _, _, g46r, g46d⟩ := S46.ex
  have ldu : ys.length = (nrm rs).length := by
    have := dadu46.len
    rwa [List.length_map] at this
  have memT : ∀ x, x ∈ sortT ((sortT pl).map (ren ls)) ++ sortT ((sortT tl).map (ren ls)) ↔ x ∈ nm.map (ren ls) := fun x => by
    have := ((sortT_perm ((sortT pl).map (ren ls))).append (sortT_perm ((sortT tl).map (ren ls)))).mem_iff (a := x)
    rw [← List.map_append] at this
    refine this.trans ?_
    rw [List.mem_map, List.mem_map]
    exact ⟨fun ⟨y, hy, e⟩ => ⟨y, (memS y).mp hy, e⟩, fun ⟨y, hy, e⟩ => ⟨y, (memS y).mpr hy, e⟩⟩
  have permT : (sortT ((sortT pl).map (ren ls)) ++ sortT ((sortT tl).map (ren ls))).Perm (nm.map (ren ls)) := by
    have p1 := (sortT_perm ((sortT pl).map (ren ls))).append (sortT_perm ((sortT tl).map (ren ls)))
    rw [← List.map_append] at p1
    exact p1.trans ((((sortT_perm pl).append (sortT_perm tl)).trans hperm).map (ren ls))
  -- told.parties()
  refine ⟨_, rfl, x46, dy, _, rfl, g46, flds_no _ _ _ (by decide +kernel) (by decide +kernel) (by decide +kernel), x46, _, _, _, rfl, S46, fun H47 p47 s47 np47 hp47 => ?_⟩
  have hn47 := s47 _ _ hn46
  have hb47 := s47 _ _ hb46
  refine ⟨_, rfl, true, n, _, rfl, SqX.list (SqL.of hn47), fun J wk cA hcA => lcX wk hcA (fun i acc H => acc = ((nm.take i).map (ren ls)).map V.str) (by rw [List.length_map, sizeLine_eq]; omega) (fun _ _ _ _ r _ => r) (by simp) (fun H s => SqX.list (SqL.of (s _ _ hn47))) ?_ ?_⟩
  · intro i x HB acc hi ex sB eB r Nx yes no
    rw [List.getElem?_map] at ex
    obtain ⟨z, ez, rfl⟩ := Option.map_eq_some_iff.mp ex
    refine ⟨rfl, tYes_ok ⟨_, rfl, b, rfl, .inl ⟨_, .inl (sB _ _ hb47)⟩, _, rfl, _, rfl, _, DGet.k (k := Sum.inr z) (sB _ _ hb47), ?_⟩⟩
    rw [kvD_get, getD_str]
    refine yes _ _ (Same.refl _) ?_
    rw [r, take_up ez]
    simp
  intro H48 acc s48 e48 r48
  rw [List.length_map, List.take_length] at r48
  subst r48
  refine ⟨cA, nm.map (ren ls), rfl, .inl (SqL.of e48), fun p49 hp49 => ?_⟩
  have s4649 := (s47.trans s48).trans (Same.fresh (o := .lst (((nm.map (ren ls)).mergeSort leT).map V.str)) (Same.refl _) hp49)
  refine ne_strs (l := sortT (sortT ((sortT pl).map (ren ls)) ++ sortT ((sortT tl).map (ren ls)))) (m := sortT (nm.map (ren ls))) (sortT_is permT) (SqL.of (Same.fresh s48 hp49 _ _ hp47)) (SqL.of upd_same) ⟨false, rfl, iteF ?_⟩
  generalize upd H48 p49 (.lst (((nm.map (ren ls)).mergeSort leT).map V.str)) = H49 at s4649
  -- told.rights
  have hdu49 := s4649 _ _ hdu46
  have dadu49 := DaAll.same s4649 dadu46
  have hb49 := s4649 _ _ hb46
  refine ⟨_, rfl, x46, CS, dy, _, _, rfl, s4649 _ _ g46, T.cl, T.nR, flds_r _ _ _, _, rfl, true, du, ys, rfl, SqX.list (SqL.of hdu49), fun J wk cB hcB => lcX wk hcB (fun i acc H => DaAll K (less cB H) acc ((((nrm rs).take i).map (renR ls)).map dtR)) (by rw [ldu, sizeLine_eq]; omega) (fun _ _ _ _ r b => DaAll.same (less_but b) r) .nil (fun H s => SqX.list (SqL.of (s _ _ hdu49))) ?_ ?_⟩
  · intro i x HB acc hi ex sB eB rB Nx yes no
    obtain ⟨t0, r1, er, rfl, ht, lr1, _⟩ := trip_at (DaAll.same sB dadu49) ex
    have nq0 : ∀ q, HB q = none → q ≠ cB := fun q hq z => by rw [z, eB] at hq; cases hq
    have hbB := sB _ _ hb49
    refine ⟨t0, _, rfl, ht, rfl, _, _, rfl, _, _, rfl, _, _, rfl, rfl, rfl, tYes_ok ?_⟩
    refine ⟨_, rfl, b, rfl, .inl ⟨_, .inl hbB⟩, _, rfl, _, rfl, _, DGet.k (k := Sum.inr r1.1) hbB, ?_⟩
    rw [kvD_get, getD_str]
    refine ⟨_, rfl, _, rfl, b, rfl, .inl ⟨_, .inl hbB⟩, _, rfl, _, rfl, _, DGet.k (k := Sum.inr r1.2.2) hbB, ?_⟩
    rw [kvD_get, getD_str]
    refine ⟨by show 3 ≤ sizeLine; decide, fun q hq => ?_⟩
    have sq : Same HB (upd HB q (.tup [.str (ren ls r1.1), .str r1.2.1, .str (ren ls r1.2.2)])) := Same.fresh (Same.refl _) hq
    refine yes _ _ sq ?_
    rw [take_up er, List.map_append, List.map_append]
    refine DaAll.app (DaAll.same (less_mono sq) rB) (.cons (da_trip (r := renR ls r1) ?_ ⟨ren_len L.l2 lr1.1, lr1.2.1, ren_len L.l2 lr1.2.2⟩) .nil)
    rw [less_ne (nq0 q hq), upd_same]
    rfl
  intro H50 acc s50 e50 r50
  rw [ldu, List.take_length] at r50
  have r50' := DaAll.same less_same r50
  have ndR : ((nrm rs).map (renR ls)).Nodup := nodup_map_on (nrm_nd rs) fun r hr s hs e => L.renR_inj (inR r hr) (inR s hs) e
  refine sortR_read (SqL.of e50) r50' ndR fun p51 ys51 hp51 da51 => ?_
  have s4951 := s50.trans (Same.fresh (o := .lst ys51) (Same.refl H50) hp51)
  refine ne_rts rfl (SqL.of ((s4649.trans s4951) _ _ g46r)) (DaAll.same (s4649.trans s4951) g46d) (SqL.of upd_same) da51 ⟨false, rfl, iteF ?_⟩
  have s4651 := s4649.trans s4951
  have S51 := S46'.same s4651
  have T51 := S46.same s4651
  have hdu51 := s4651 _ _ hdu46
  have dadu51 := DaAll.same s4651 dadu46
  have hp51' := s4651 _ _ hp46
  have ht51' := s4651 _ _ ht46
  have TT51 := Tabs.same TT46 s4651
  have D51 := D46.same s4651
  have hb51 := s4651 _ _ hb46
  have g51 := s4651 _ _ g46
  have gs51 := S51.ex
  generalize upd H50 p51 (.lst ys51) = H51 at S51 T51 hdu51 dadu51 hp51' ht51' TT51 D51 hb51 g51 gs51
  clear s4651 s4951 s50 e50 r50 r50' da51 s4649 hdu49 dadu49 hb49 s48 s47 hn47 hb47 hp47 e48 S46' hdu46 dadu46 hn46 hp46 ht46 TT46 D46 hb46 g46
  obtain ⟨dz, ip2, it2, ir2, ix2, gs51, _⟩ := gs51
  -- the way back
  refine ⟨_, rfl, x46, dy, _, rfl, g51, flds_no _ _ _ (by decide +kernel) (by decide +kernel) (by decide +kernel), b, .dK (kvD ls), hb51, trivial, fun od => ?_⟩
  have klen : (kvD ls).length = ls.length := List.length_map ..
  refine ⟨_, rfl, b, od, rfl, .inl ⟨kvD ls, upd_same, fun cC hcC => lcX walk_keysX hcC (fun i acc H => ∃ ps : List Addr, acc = ps.map V.ref ∧ PrsAt K (less cC H) ps (swp (ls.take i))) (by rw [klen, sizeLine_eq]; have := L.len; omega) (fun i l H H' r b => let ⟨ps, e, h⟩ := r; ⟨ps, e, h.same (less_but b)⟩) ⟨[], rfl, .nil⟩ (fun H6 s => s _ _ upd_same) ?_ ?_⟩⟩
  · rintro i x HB acc hi ex sB eB ⟨ps, rfl, hps⟩ Nx yes no
    rw [List.getElem?_map] at ex
    obtain ⟨q0, eq0, rfl⟩ := Option.map_eq_some_iff.mp ex
    unfold kvD at eq0
    rw [List.getElem?_map] at eq0
    obtain ⟨pr, epr, rfl⟩ := Option.map_eq_some_iff.mp eq0
    have hbB := sB _ _ upd_same
    have hv : valV (kvD ls) (Sum.inr pr.1) = some (V.str pr.2) := by
      rw [kvD_get, lk_of L.nd (List.mem_of_getElem? epr)]
      rfl
    refine ⟨rfl, tYes_ok ⟨_, rfl, _, rfl, b, V.str pr.2, rfl, .inl ⟨kvD ls, Sum.inr pr.1, .inr ⟨od, hbB⟩, rfl, hv.symm⟩, _, rfl, by show 2 ≤ sizeLine; decide, fun q1 hq1 => ?_⟩⟩
    have sq : Same HB (upd HB q1 (.tup [.str pr.2, .str pr.1])) := Same.fresh (Same.refl _) hq1
    have nq : q1 ≠ cC := fun z => by rw [z, eB] at hq1; cases hq1
    refine yes _ _ sq ⟨ps ++ [q1], by rw [List.map_append]; rfl, ?_⟩
    rw [take_up epr]
    unfold swp
    rw [List.map_append]
    exact (hps.same (less_mono sq)).snoc (by rw [less_ne nq, upd_same])
  rintro HB acc sB eB ⟨ps, rfl, hps⟩
  rw [klen, List.take_length] at hps
  have hbB := sB _ _ upd_same
  have ncb : cC ≠ b := fun z => by
    rw [z, upd_same] at hcC
    cases hcC
  have s5152 : Same H51 (upd HB b (.dK (kvD ls))) := fun c o e => by
    by_cases hc : c = b
    · rw [hc] at e ⊢
      rw [hb51] at e
      cases e
      exact upd_same
    · rw [upd_ne hc]
      refine sB _ _ ?_
      rw [upd_ne hc]
      exact e
  refine ⟨hbB, cC, ps, kvD (swp ls), rfl, SqL.of (by rw [upd_ne ncb, eB]), (hps.same less_same).unlock hbB, fun p52 hp52 => ?_⟩
  rw [merge_kv (by rw [swp_keys]; exact L.nd2)]
  have s5153 := s5152.trans (Same.fresh (o := .dK (kvD (swp ls))) (Same.refl _) hp52)
  dsimp only
  refine ren_run (CB := CB) (ls := swp ls) (T51.same s5153) (fun r hr => ?_) upd_same (fun p hp => ?_) (by unfold swp; rw [List.length_map]; have := L.len; omega) (fun p hp => ?_) (L.fit_back fitS fun x hx => (memS x).mp hx) fun H54 x54 s54 nx54 S54 => ?_
  · obtain ⟨z, hz, rfl⟩ := List.mem_map.mp (mem_nrm.mp hr)
    exact ⟨(memT _).mpr (List.mem_map.mpr ⟨_, (inR z hz).1, rfl⟩), (memT _).mpr (List.mem_map.mpr ⟨_, (inR z hz).2, rfl⟩)⟩
  · obtain ⟨z, hz, rfl⟩ := List.mem_map.mp hp
    exact L.l1 z hz
  · obtain ⟨z, hz, rfl⟩ := List.mem_map.mp hp
    obtain ⟨y, hy, e⟩ := L.keys2 z hz
    exact (memT _).mpr (List.mem_map.mpr ⟨y, hy, e⟩)
  have s5154 := s5153.trans s54
  refine ⟨_, rfl, own_ne S54 (S51.same s5154) (names_back (l := pl) L fun x hx => (mem x).mp (List.mem_append_left _ hx)) (names_back (l := tl) L fun x hx => (mem x).mp (List.mem_append_right _ hx)) ((rights_back (rs := nrm rs) L inR).trans (nrm_nrm rs)) ⟨false, rfl, iteF ?_⟩⟩
  -- state.renamed({})
  refine ⟨_, rfl, st, dz, _, rfl, s5154 _ _ gs51, flds_no _ _ _ (by decide +kernel) (by decide +kernel) (by decide +kernel), fun p55 hp55 => ?_⟩
  have s5155 := s5154.trans (Same.fresh (o := .dK []) (Same.refl _) hp55)
  dsimp only
  refine ren_run (CB := CB) (ls := []) (S51.same s5155) inRS upd_same (fun p hp => (List.not_mem_nil hp).elim) (by decide) (fun p hp => (List.not_mem_nil hp).elim) (by rw [map_ren_nil, map_ren_nil, map_renR_nil]; exact fitS) fun H56 x56 s56 nx56 S56 => ?_
  have s5156 := s5155.trans s56
  refine ⟨_, rfl, own_ne S56 (S51.same s5156) (by rw [map_ren_nil]; exact sortT_two pl) (by rw [map_ren_nil]; exact sortT_two tl) (by rw [map_renR_nil]; exact nrm_nrm rs) ⟨false, rfl, iteF ?_⟩⟩
  -- state == State(people, things)
  have hlp : ∀ x ∈ pl, x.length ≤ 1000 := fun x hx => wordOk_len (fit.wp x hx)
  have hlt : ∀ x ∈ tl, x.length ≤ 1000 := fun x hx => wordOk_len (fit.wt x hx)
  have lpt : pl.length + tl.length = nm.length := by
    have := hperm.length_eq
    rwa [List.length_append] at this
  have fit0 : Fit pl tl [] := ⟨fit.wp, fit.wt, fit.np, fit.nt, fit.dis, fit.some', fun r hr => (List.not_mem_nil hr).elim⟩
  refine ⟨_, rfl, ?_⟩
  refine make_run (dp := dS pl) (dt := dS tl) (dr := .tup []) (errD_ok (rs := []) rfl rfl rfl fit0) (fun l e => by cases e; rw [List.length_map]; omega) (fun l e => by cases e; rw [List.length_map]; omega) (fun l e => by cases e; decide)
    (fun R hR => ⟨_, rfl, _, rfl, hR [.ref pA, .ref tA] _ _ _ _ rfl (Same.refl _) (da_list (s5156 _ _ hp51') hlp) (da_list (s5156 _ _ ht51') hlt) (.nul (hT0 _))⟩) fun H57 x57 s57 nx57 S57 => ?_
  rw [rows_sD (d := dS pl) (ps := pl) rfl, rows_sD (d := dS tl) (ps := tl) rfl, show nrm (r3s (lD (.tup []))) = [] from nrm_nil] at S57
  have s5157 := s5156.trans s57
  obtain ⟨dw, ip3, it3, ir3, ix3, gs57, _⟩ := S57.ex
  refine ⟨st, x57, dz, dw, _, _, rfl, rfl, s5157 _ _ gs51, gs57, st, x57, _, _, _, _, _, _, rfl, S51.same s5157, S57, _, rfl, by show 0 ≤ sizeLine; decide, fun e58 he58 => ?_⟩
  have s5158 := s5157.trans (Same.fresh (o := .lst []) (Same.refl _) he58)
  refine ⟨_, _, .lst (SqL.of (s5158 _ _ hdu51)) (dp_Rs (DaAll.same s5158 dadu51)), .lst (SqL.of upd_same) (dp_Rs (rs := []) .nil), lay_lR _, lay_lR _, dep_lR _, ?_⟩
  rw [if_neg Bool.false_ne_true, eqv_lR]
  refine ne_bl (by rw [decide_eq_true rfl, decide_eq_true rfl, Bool.true_and, Bool.true_and]) ⟨false, rfl, iteF ?_⟩
  -- what is refused
  refine ⟨_, rfl, ?_⟩
  obtain ⟨ds51, hd51⟩ := D51.lst
  refine make_run (dp := .lst [.str "ann"]) (dt := .lst [.str "box"]) (dr := .lst [.tup [.str "ann", .str "r", .str "box"]]) (ta := taD [.lst [.str "ann"], .lst [.str "box"], .lst [.tup [.str "ann", .str "r", .str "box"]]]) (by decide +kernel) (fun l e => by cases e; decide) (fun l e => by cases e; decide) (fun l e => by cases e; decide)
    (fun R hR => taD_read (K := K) (d := d) [.lst [.str "ann"], .lst [.str "box"], .lst [.tup [.str "ann", .str "r", .str "box"]]] (by decide +kernel) (s5158 _ _ hd51) fun vs H2 s2 da => by
      cases da with
      | cons a b =>
        cases b with
        | cons c e =>
          cases e with
          | cons g h =>
            cases h
            exact hR [_, _, _] H2 _ _ _ rfl s2 (Da.same less_same a) (Da.same less_same c) (Da.same less_same g)) fun H59 x59 s59 nx59 S59 => ?_
  have s5159 := s5158.trans s59
  have S59' : StAt K CS H59 x59 ["ann"] ["box"] [("ann", "r", "box")] := by
    have e1 : sortT (sD (.lst [.str "ann"])) = [("ann" : Str)] := sortT_one _
    have e2 : sortT (sD (.lst [.str "box"])) = [("box" : Str)] := sortT_one _
    have e3 : nrm (r3s (lD (.lst [.tup [.str "ann", .str "r", .str "box"]]))) = [(("ann", "r", "box") : R3)] := nrm_one _
    rw [e1, e2, e3] at S59
    exact S59
  exact ⟨d, x59, rfl, D51.same s5159, S59', Tabs.same TT51 s5159, fun H' => q H'⟩
end
end K
set_option Elab.async false
set_option linter.all false
set_option maxRecDepth 100000
set_option maxHeartbeats 8000000
/-! The law. -/
namespace K
open PySem L2 Hk LamX
section
variable {P : Program} {w : World} {K : PySem.W.Frag} {mg : Str → Option Value} {base : Heap} {f fR fW fT fAW fAR CS CB fB cB cdB CQ fQ cQ cdQ CR fP fEr fI fWo fRe fAd fPa cc PP T0 fX fL fIt fLn fCo fEq fSu fRf : Addr}
  {fd fdB fdQ fdP fdE fdI fdWo fdRe fdAd fdPa fdX fdL fdIt fdLn fdCo fdEq fdSu fdRf : FuncData} {dsI : List Value}
def spLaw (K : PySem.W.Frag) (P0 : Addr) : Sp := fun vs H Q _ => ∃ (a : Addr) (ns : List Int), vs = [.ref a] ∧ SqL K H a (ns.map V.int) ∧ Tabs [(P0, qRf)] H ∧ ∀ H', Q (.bl true) H'
theorem ok_law (F : Fun K "law" "law" sLaw f fd) (T : TxtS P K mg fR fW fT fAW fAR CS CB fB cB cdB fdB) (TQ : TxtQ P K mg CQ fQ cQ cdQ fdQ)
    (TR : TxtRf P K mg CS CB CQ CR fP fEr fI fWo fRe fAd fPa) (TL : TxtL P K mg CS fX fL fPa fIt fLn fCo fEq fAd fSu fRf)
    (GX : FnOk P w K mg base CX0 3 fX fdX ["draw", "bound"] (spNext K)) (bX : Binds K fdX ["draw", "bound"] [])
    (GL : FnOk P w K mg base CX0 5 fL fdL ["draw", "names"] (spLRights K)) (bL : Binds K fdL ["draw", "names"] [])
    (GI : FnOk P w K mg base (L2.CX P w) 3 fI fdI pSI (spInit K CS CB)) (bI : Binds K fdI pSI []) (bI1 : Binds K fdI pSI dsI) (vI1 : Vals [.ref T0] dsI) (hT0 : ∀ H, SqT K H T0 [])
    (GPa : FnOk P w K mg base CX0 1 fPa fdPa ["self"] (spParties K CS)) (bPa : Binds K fdPa ["self"] [])
    (GW : FnOk P w K mg base (L2.CX P w) 3 fWo fdWo ["self", "one", "other"] (spWords K CS CQ)) (bW : Binds K fdWo ["self", "one", "other"] [])
    (GR : FnOk P w K mg base (L2.CX P w) 5 fRe fdRe ["self", "names"] (spRen K CS CB)) (bR : Binds K fdRe ["self", "names"] [])
    (GA : FnOk P w K mg base (L2.CX P w) 5 fAd fdAd ["self", "rights"] (spAdd K CS CB)) (bA : Binds K fdAd ["self", "rights"] [])
    (GS : FnOk P w K mg base (L2.CX P w) 5 fSu fdSu ["self", "rights"] (spSub K CS CB)) (bS : Binds K fdSu ["self", "rights"] [])
    (GIt : FnOk P w K mg base CX0 1 fIt fdIt ["self"] (spIter CS)) (bIt : Binds K fdIt ["self"] [])
    (GLn : FnOk P w K mg base CX0 1 fLn fdLn ["self"] (spLen K CS)) (bLn : Binds K fdLn ["self"] [])
    (GC : FnOk P w K mg base CX0 1 fCo fdCo ["self", "right"] (spIn K CS)) (bC : Binds K fdCo ["self", "right"] [])
    (GE : FnOk P w K mg base CX0 1 fEq fdEq ["self", "other"] (spEq K CS)) (bE : Binds K fdEq ["self", "other"] [])
    (GRf : FnOk P w K mg base CX0 8 fRf fdRf ["draw", "state"] (spRefused K CS PP)) (bRf : Binds K fdRf ["draw", "state"] []) :
    FnOk P w K mg base CX0 10 f fd ["script"] (spLaw K PP) := by
  refine F.ok scLaw (fun vs H Q E h => ?_) fun cdv A outer s H vs Q E hr h => ?_
  · obtain ⟨a, ns, rfl, _⟩ := h
    rfl
  · obtain ⟨a, ns, rfl, hs, TT, q⟩ := h
    have hr1 : Room 1 _ := hr.mono (by decide)
    have hr2 : Room 2 _ := hr.mono (by decide)
    have hr3 : Room 3 _ := hr.mono (by decide)
    have hr4 : Room 4 _ := hr.mono (by decide)
    have hr5 : Room 5 _ := hr.mono (by decide)
    have hr6 : Room 6 _ := hr.mono (by decide)
    have hr8 : Room 8 _ := hr.mono (by decide)
    obtain ⟨tt, htail, rtail⟩ := tail_ok T TQ TR TL GX bX GL bL GI bI bI1 vI1 hT0 GPa bPa GW bW GR bR GA bA GS bS GIt bIt GLn bLn GC bC GE bE GRf bRf (outer := outer) (H := H) (E := E) hr
    refine ⟨_, (pss_cons (ps_set (i := 1) scLaw.nd rfl (Or.inr rfl) (pe_lst (pa_cons (pe_slice sl_list (pv 0) po_none (po_some pe_int)) (pa_cons pe_int (pa_cons pe_int pa_nil)))))
      (pss_cons (ps_set (i := 2) scLaw.nd rfl (Or.inl rfl) (pe_slice sl_list (pe_lst (pa_cons pe_str (pa_cons pe_str (pa_cons pe_str (pa_cons pe_str (pa_cons pe_str pa_nil)))))) po_none (po_some (pe_op op_add pe_int (pe_call GX hr3 (by rfl) TL.gX TL.kX bX .nil pass0 (pa_cons (pv 1) (pa_cons pe_int pa_nil)))))))
      (pss_cons (ps_set (i := 3) scLaw.nd rfl (Or.inr rfl) (pe_lc (own := [("name", 14)]) (g := (gName 14)) (tt := (tTest (tOp rEq (tCall (spNext K) [] E0 (tCons (tVar 1) (tCons (tC (.int 2)) tNil))) (tC (.int 0))))) (te := (tVar 14)) rfl scLaw.nd (pi_seq (pv 2)) (blkOk_by (N := nLaw) (sc := defScope sLaw) (by decide +kernel)) (fun _ _ _ _ _ => (pg_name (i := 14) scLaw.nd rfl (Or.inl rfl))) (fun _ _ _ _ _ => (pts_one (pt_cmpR op_eq (pe_call GX hr3 (by rfl) TL.gX TL.kX bX .nil pass0 (pa_cons (pv 1) (pa_cons pe_int pa_nil))) pe_int (nomark _)))) (fun _ _ _ _ _ => (pv 14))))
      (pss_cons (ps_par rfl scLaw.nd (i := 4) (j := 5) rfl rfl (by decide) rfl rfl (pa_cons (pe_lc (own := [("name", 14)]) (g := (gName 14)) (tt := (tTest (tOp (rIn K true) (tVar 14) (tVar 3)))) (te := (tVar 14)) rfl scLaw.nd (pi_seq (pv 2)) (blkOk_by (N := nLaw) (sc := defScope sLaw) (by decide +kernel)) (fun _ _ _ _ _ => (pg_name (i := 14) scLaw.nd rfl (Or.inl rfl))) (fun _ _ _ _ _ => (pts_one (pt_cmpR op_notIn_seq (pv 14) (pv 3) rfl))) (fun _ _ _ _ _ => (pv 14))) (pa_cons (pe_call GL hr5 (by rfl) TL.gL TL.kL bL .nil pass0 (pa_cons (pv 1) (pa_cons (pv 2) pa_nil))) pa_nil)) (by with_unfolding_all rfl))
      (pss_cons (ps_asg (pe_tup (pa_cons (pe_make (E := E0) TR.made GI hr4 (by rfl) T.gS bI .nil passL (pa_cons (pe_revL (pv 3)) (pa_cons (pe_callTy call_tuple_of (by rfl) T.r.w.f.tuple (by decide +kernel) (pa_cons (pv 4) pa_nil)) (pa_cons (pv 5) pa_nil)))) (pa_cons (pe_callB (cr_sortKO rfl hr.units) (by rfl) T.r.w.f.sorted (by decide +kernel) (pa_cons (pe_callTy (cr_setT rfl hr.units) (by rfl) T.r.w.f.set (by decide +kernel) (pa_cons (pv 5) pa_nil)) pa_nil)) pa_nil))) (pg_tup rfl (pgs_cons (pg_name (i := 6) scLaw.nd rfl (Or.inr rfl)) (pgs_cons (pg_name (i := 7) scLaw.nd rfl (Or.inr rfl)) pgs_nil))))
      (pss_cons (ps_if (PW.pt (pw_or (pt_cmpR (op_neP hr.units) (pe_fld (pv 6) rfl) (pe_callB (cr_sortX hr.units) (by rfl) T.r.w.f.sorted (by decide +kernel) (pa_cons (pv 3) pa_nil)) (nomark _)) (pw_or (pt_cmpR (op_neP hr.units) (pe_fld (pv 6) rfl) (pe_callB (cr_sortX hr.units) (by rfl) T.r.w.f.sorted (by decide +kernel) (pa_cons (pv 4) pa_nil)) (nomark _)) (pw_or (pt_cmpR (op_neP hr.units) (pe_fld (pv 6) rfl) (pv 7) (nomark _)) (pw_or1 (pt_cmpR (op_neP hr.units) (pe_meth0 (pv 6) T.cl TL.mP GPa hr1 bPa .nil pass0) (pe_callB (cr_sortX hr.units) (by rfl) T.r.w.f.sorted (by decide +kernel) (pa_cons (pv 2) pa_nil)) (nomark _))))))) (pss_one (ps_ret pe_bl)) pss_nil)
      (pss_cons (ps_if (PW.pt (pw_or (pt_cmpR (op_neP hr.units) (pe_callTy (call_listI (E := E0) TL.it TL.itF TL.ln TL.lnF GIt bIt pass0 GLn bLn rfl hr5) (by rfl) T.r.w.f.list (by decide +kernel) (pa_cons (pv 6) pa_nil)) (pv 7) (nomark _)) (pw_or (pt_cmpR op_ne (pe_callB (call_ownLen (E := E0) TL.ln TL.lnF GLn hr2 bLn pass0) (by rfl) T.r.w.f.len (by decide +kernel) (pa_cons (pv 6) pa_nil)) (pe_callB call_len_seq (by rfl) T.r.w.f.len (by decide +kernel) (pa_cons (pv 7) pa_nil)) (nomark _)) (pw_or1 (pt_cmpR (op_ownNe (E := E0) TL.ne TL.mro TL.eq TL.eqF GE hr2 bE pass0) (pv 6) (pe_make (E := E0) TR.made GI hr4 (by rfl) T.gS bI .nil passL (pa_cons (pe_callTy call_tuple_of (by rfl) T.r.w.f.tuple (by decide +kernel) (pa_cons (pv 3) pa_nil)) (pa_cons (pe_revL (pv 4)) (pa_cons (pe_callTy call_tuple_of (by rfl) T.r.w.f.tuple (by decide +kernel) (pa_cons (pv 7) pa_nil)) pa_nil)))) (nomark _)))))) (pss_one (ps_ret pe_bl)) pss_nil)
      (pss_cons (ps_set (i := 8) scLaw.nd rfl (Or.inl rfl) (pe_call GL hr5 (by rfl) TL.gL TL.kL bL .nil pass0 (pa_cons (pv 1) (pa_cons (pv 2) pa_nil))))
      (pss_cons (ps_if (PW.pt (pw_or (pt_cmpR (op_ownNe (E := E0) TL.ne TL.mro TL.eq TL.eqF GE hr2 bE pass0) (pe_op (op_own (E := E0) TL.aL TL.aT GA hr5 bA passL) (pv 6) (pv 8)) (pe_make (E := E0) TR.made GI hr4 (by rfl) T.gS bI .nil passL (pa_cons (pv 3) (pa_cons (pv 4) (pa_cons (pe_op op_cat (pv 5) (pv 8)) pa_nil)))) (nomark _)) (pw_or1 (pt_cmpR (op_neP hr.units) (pe_fld (pe_op (op_own (E := E0) TL.aL TL.aT GA hr5 bA passL) (pv 6) (pe_callTy call_tuple_of (by rfl) T.r.w.f.tuple (by decide +kernel) (pa_cons (pv 8) pa_nil))) rfl) (pe_callB (cr_sortKO rfl hr.units) (by rfl) T.r.w.f.sorted (by decide +kernel) (pa_cons (pe_callTy (cr_setT rfl hr.units) (by rfl) T.r.w.f.set (by decide +kernel) (pa_cons (pe_op op_cat (pv 5) (pv 8)) pa_nil)) pa_nil)) (nomark _))))) (pss_one (ps_ret pe_bl)) pss_nil)
      (pss_cons (ps_set (i := 9) scLaw.nd rfl (Or.inr rfl) (pe_op op_cat (pe_lc (own := [("right", 15)]) (g := (gName 15)) (tt := (tTest (tOp rEq (tCall (spNext K) [] E0 (tCons (tVar 1) (tCons (tC (.int 2)) tNil))) (tC (.int 0))))) (te := (tVar 15)) rfl scLaw.nd (pi_seq (pv 7)) (blkOk_by (N := nLaw) (sc := defScope sLaw) (by decide +kernel)) (fun _ _ _ _ _ => (pg_name (i := 15) scLaw.nd rfl (Or.inl rfl))) (fun _ _ _ _ _ => (pts_one (pt_cmpR op_eq (pe_call GX hr3 (by rfl) TL.gX TL.kX bX .nil pass0 (pa_cons (pv 1) (pa_cons pe_int pa_nil))) pe_int (nomark _)))) (fun _ _ _ _ _ => (pv 15))) (pe_slice sl_list (pv 8) po_none (po_some pe_int))))
      (pss_cons (ps_if (PW.pt (pw_or (pt_cmpR (op_neP hr.units) (pe_fld (pe_op (op_own (E := E0) TL.uL TL.uT GS hr5 bS passL) (pv 6) (pv 9)) rfl) (pe_lc (own := [("right", 15)]) (g := (gName 15)) (tt := (tTest (tOp (rInD K true) (tVar 15) (tVar 9)))) (te := (tVar 15)) rfl scLaw.nd (pi_seq (pv 7)) (blkOk_by (N := nLaw) (sc := defScope sLaw) (by decide +kernel)) (fun _ _ _ _ _ => (pg_name (i := 15) scLaw.nd rfl (Or.inl rfl))) (fun _ _ _ _ _ => (pts_one (pt_cmpR (op_notInD hr.units) (pv 15) (pv 9) rfl))) (fun _ _ _ _ _ => (pv 15))) (nomark _)) (pw_or1 (pt_cmpR (op_ownNe (E := E0) TL.ne TL.mro TL.eq TL.eqF GE hr2 bE pass0) (pe_op (op_own (E := E0) TL.uL TL.uT GS hr5 bS passL) (pv 6) (pe_callTy call_tuple_of (by rfl) T.r.w.f.tuple (by decide +kernel) (pa_cons (pv 9) pa_nil))) (pe_op (op_own (E := E0) TL.uL TL.uT GS hr5 bS passL) (pv 6) (pv 9)) (nomark _))))) (pss_one (ps_ret pe_bl)) pss_nil)
      (pss_cons (ps_if (pt_cmpR (op_neP hr.units) (pe_lc (own := [("right", 15)]) (g := (gName 15)) (tt := tYes) (te := (tOp (rOwnIn CS (spIn K CS) E0) (tVar 15) (tVar 6))) rfl scLaw.nd (pi_seq (pe_op op_cat (pv 7) (pv 8))) (blkOk_by (N := nLaw) (sc := defScope sLaw) (by decide +kernel)) (fun _ _ _ _ _ => (pg_name (i := 15) scLaw.nd rfl (Or.inl rfl))) (fun _ _ _ _ _ => pts_nil) (fun _ _ _ _ _ => (pe_cmpR (op_ownIn (E := E0) TL.co TL.coF GC hr1 bC pass0) (pv 15) (pv 6) rfl))) (pe_op op_cat (pe_op op_rep (pe_lst (pa_cons pe_bl pa_nil)) (pe_callB call_len_seq (by rfl) T.r.w.f.len (by decide +kernel) (pa_cons (pv 7) pa_nil))) (pe_lc (own := [("right", 15)]) (g := (gName 15)) (tt := tYes) (te := (tOp (rInD K false) (tVar 15) (tVar 7))) rfl scLaw.nd (pi_seq (pv 8)) (blkOk_by (N := nLaw) (sc := defScope sLaw) (by decide +kernel)) (fun _ _ _ _ _ => (pg_name (i := 15) scLaw.nd rfl (Or.inl rfl))) (fun _ _ _ _ _ => pts_nil) (fun _ _ _ _ _ => (pe_cmpR (op_inD hr.units) (pv 15) (pv 7) rfl)))) (nomark _)) (pss_one (ps_ret pe_bl)) pss_nil)
      (pss_cons (ps_if (PW.pt (pw_or (pt_cmpR (op_ownIn (E := E0) TL.co TL.coF GC hr1 bC pass0) (pe_tup (pa_cons pe_str (pa_cons pe_str (pa_cons pe_str pa_nil)))) (pv 6) rfl) (pw_or1 (pt_cmpR (op_ownIn (E := E0) TL.co TL.coF GC hr1 bC pass0) (pe_tup (pa_cons pe_str (pa_cons pe_str (pa_cons pe_str pa_nil)))) (pv 6) rfl)))) (pss_one (ps_ret pe_bl)) pss_nil)
      (pss_cons (ps_for PassesOwn.never rfl (pi_seq (pv 2)) (pg_name (i := 10) scLaw.nd rfl (Or.inr rfl)) (pss_one (ps_for PassesOwn.never rfl (pi_seq (pv 2)) (pg_name (i := 11) scLaw.nd rfl (Or.inr rfl)) (pss_one (ps_if (pt_cmpR (op_neP hr.units) (pe_meth (E := E0) (pv 6) T.cl TR.mW GW hr3 bW .nil passL (pa_cons (pv 10) (pa_cons (pv 11) pa_nil))) (pe_lc (own := [("first", 17), ("word", 16), ("second", 18)]) (g := (gTup K 3 (gCons (gName 17) (gCons (gName 16) (gCons (gName 18) gNil))))) (tt := (tTest (tOp (rEqP K false) (tTup (tCons (tVar 17) (tCons (tVar 18) tNil))) (tTup (tCons (tVar 10) (tCons (tVar 11) tNil)))))) (te := (tVar 16)) rfl scLaw.nd (pi_seq (pv 7)) (blkOk_by (N := nLaw) (sc := defScope sLaw) (by decide +kernel)) (fun _ _ _ _ _ => (pg_tup rfl (pgs_cons (pg_name (i := 17) scLaw.nd rfl (Or.inl rfl)) (pgs_cons (pg_name (i := 16) scLaw.nd rfl (Or.inl rfl)) (pgs_cons (pg_name (i := 18) scLaw.nd rfl (Or.inl rfl)) pgs_nil))))) (fun _ _ _ _ _ => (pts_one (pt_cmpR (op_eqP hr.units) (pe_tup (pa_cons (pv 17) (pa_cons (pv 18) pa_nil))) (pe_tup (pa_cons (pv 10) (pa_cons (pv 11) pa_nil))) (nomark _)))) (fun _ _ _ _ _ => (pv 16))) (nomark _)) (pss_one (ps_ret pe_bl)) pss_nil)))))
      htail)))))))))))))), ?_⟩
    refine ⟨_, rfl, 63, rfl, a, ns.map V.int, rfl, hs, fun sc hsc => ⟨by show 3 ≤ sizeLine; decide, fun d hd => ?_⟩⟩
    have s1 := Same.fresh (o := .lst (cutV (ns.map V.int) none (some 63))) (Same.refl H) hsc
    have s2 := Same.fresh (o := .lst [.ref sc, .int 0, .int 0]) s1 hd
    have nsd : sc ≠ d := fun z => by rw [← z, upd_same] at hd; cases hd
    have D0 : Dr K (upd (upd H sc (.lst (cutV (ns.map V.int) none (some 63)))) d (.lst [.ref sc, .int 0, .int 0])) d := by
      refine ⟨sc, ns.take (min (63 : Int).toNat (ns.map V.int).length), 0, upd_same, SqL.of ?_, nsd, Int.le_refl _⟩
      rw [upd_ne nsd, upd_same, cut_first _ _ (by decide), List.map_take]
    have TT0 := Tabs.same TT s2
    generalize upd (upd H sc (.lst (cutV (ns.map V.int) none (some 63)))) d (.lst [.ref sc, .int 0, .int 0]) = H0 at D0 TT0
    clear hs s1 s2
    refine ⟨by show 5 ≤ sizeLine; decide, fun fv hfv => ?_⟩
    have s1 := Same.fresh (o := .lst (five.map V.str)) (Same.refl H0) hfv
    obtain ⟨ds0, hd0⟩ := D0.lst
    have nfd : fv ≠ d := ne_of_none' hfv hd0
    refine ⟨_, rfl, d, 5, rfl, D0.same s1, by decide, fun k H1 k0 k5 b1 D1 g1 => ⟨_, _, rfl, rfl, _, rfl, fv, five.map V.str, rfl, SqL.of (b1 _ _ nfd upd_same), fun n hn => ?_⟩⟩
    have sN := Same.fresh (o := .lst (cutV (five.map V.str) none (some (1 + k)))) (Same.refl H1) hn
    obtain ⟨ds1, hd1⟩ := D1.lst
    have nnd : n ≠ d := ne_of_none' hn hd1
    have D2 := D1.same sN
    have TT2 := Tabs.same (Tabs.but (s1 _ _ hd0) (Tabs.same TT0 s1) b1) sN
    obtain ⟨nm, hsub, hne, hann, hn2⟩ : ∃ nm : List Str, nm.Sublist five ∧ nm ≠ [] ∧ ("ann" : Str) ∈ nm ∧ (upd H1 n (.lst (cutV (five.map V.str) none (some (1 + k))))) n = some (.lst (nm.map V.str)) := by
      have hann : ("ann" : Str) ∈ five.take (min (1 + k).toNat (five.map V.str).length) := by
        obtain ⟨m, hm⟩ : ∃ m, min (1 + k).toNat (five.map V.str).length = m + 1 := by
          have f5 : (five.map V.str).length = 5 := rfl
          rw [f5]
          exact ⟨min (1 + k).toNat 5 - 1, by omega⟩
        rw [hm]
        exact List.mem_cons_self
      exact ⟨five.take (min (1 + k).toNat (five.map V.str).length), List.take_sublist _ _, fun z => (List.not_mem_nil (z ▸ hann)).elim, hann, by rw [upd_same, cut_first _ _ (by omega), List.map_take]⟩
    generalize upd H1 n (.lst (cutV (five.map V.str) none (some (1 + k)))) = H2 at D2 TT2 hn2
    clear s1 b1 g1 D1 sN hd0 hd1 D0 TT0 hfv nfd
    have hnd := hsub.nodup five_nd
    have hlen5 : nm.length ≤ 5 := hsub.length_le
    have hln : ∀ x ∈ nm, x.length ≤ 1000 := fun x hx => five_len x (hsub.subset hx)
    refine ⟨_, rfl, true, n, _, rfl, SqX.list (SqL.of hn2), fun J wk pA hpA => lcB wk hpA (ne_of_none' hpA D2.lst.choose_spec) (fun i acc H => (∃ l : List Str, acc = l.map V.str ∧ l.Sublist (nm.take i)) ∧ Go H2 H d)
      (by rw [List.length_map, sizeLine_eq]; omega) (fun i l H H' r b => ⟨r.1, r.2.same fun o e => b _ _ (ne_of_none' hpA D2.lst.choose_spec).symm e⟩) ⟨⟨[], rfl, List.nil_sublist _⟩, Go.rfl'⟩ (fun H b => SqX.list (SqL.of (b _ _ nnd hn2))) ?_ ?_⟩
    · rintro i x H3 acc hi ex b3 e3 ⟨⟨l, rfl, hl⟩, g3⟩ Nx yes no
      rw [List.length_map] at hi
      have ex2 : x = V.str (nm[i]) := by
        rw [List.getElem?_map, List.getElem?_eq_getElem hi] at ex
        exact (Option.some.inj ex).symm
      subst ex2
      have tk : nm.take (i + 1) = nm.take i ++ [nm[i]] := by rw [List.take_succ, List.getElem?_eq_getElem hi]; rfl
      refine ⟨rfl, _, rfl, d, 2, rfl, D2.go b3 g3, by decide, fun k4 H4 k40 k42 b4 D4 g4 => ?_⟩
      refine ⟨rfl, _, rfl, ?_⟩
      refine ite2 (fun c => ?_) (fun c => ?_)
      · exact ⟨_, rfl, yes _ _ b4 ⟨⟨l ++ [nm[i]], by rw [List.map_append]; rfl, by rw [tk]; exact hl.append (List.Sublist.refl _)⟩, g3.trans g4⟩⟩
      · exact no _ b4 ⟨⟨l, rfl, by rw [tk]; exact hl.trans (List.sublist_append_left _ _)⟩, g3.trans g4⟩
    rintro H3 acc b3 hp3 ⟨⟨pl, rfl, hpl⟩, g3⟩
    rw [List.length_map, List.take_length] at hpl
    have D3 := D2.go b3 g3
    have hn3 := b3 _ _ nnd hn2
    have TT3 := Tabs.but D2.lst.choose_spec TT2 b3
    have npd : pA ≠ d := ne_of_none' hpA D2.lst.choose_spec
    clear b3 g3 D2 TT2 hn2
    refine ⟨_, rfl, true, n, _, rfl, SqX.list (SqL.of hn3), fun J wk tA htA => lcX wk htA (fun i acc H => acc = ((nm.take i).filter fun x => !decide (x ∈ pl)).map V.str) (by rw [List.length_map, sizeLine_eq]; omega) (fun _ _ _ _ r _ => r) (by simp) (fun H4 s4 => SqX.list (SqL.of (s4 _ _ hn3))) ?_ ?_⟩
    · intro i x H4 acc hi ex s4 e r Nx yes no
      rw [List.length_map] at hi
      have ex2 : x = V.str (nm[i]) := by
        rw [List.getElem?_map, List.getElem?_eq_getElem hi] at ex
        exact (Option.some.inj ex).symm
      subst ex2 r
      have tk : nm.take (i + 1) = nm.take i ++ [nm[i]] := by rw [List.take_succ, List.getElem?_eq_getElem hi]; rfl
      refine ⟨rfl, _, rfl, _, rfl, pA, _, rfl, .inl (SqL.of (s4 _ _ hp3)), rfl, flat_strs _, _, rfl, ?_⟩
      refine ite2 (fun c => ?_) (fun c => ?_)
      · rw [inV_strs] at c
        simp at c
        exact ⟨_, rfl, yes _ _ (Same.refl _) (by rw [tk, List.filter_append, List.map_append]; simp [c])⟩
      · rw [inV_strs] at c
        simp at c
        exact no _ (Same.refl _) (by rw [tk, List.filter_append, List.map_append]; simp [c])
    intro H4 acc s4 e4 r4
    rw [List.length_map, List.take_length] at r4
    subst r4
    obtain ⟨tl, htl⟩ : ∃ tl, tl = nm.filter fun x => !decide (x ∈ pl) := ⟨_, rfl⟩
    rw [← htl] at e4
    have ntd : tA ≠ d := ne_of_none' htA D3.lst.choose_spec
    refine ⟨_, rfl, _, rfl, d, n, nm, rfl, D3.same s4, s4 _ _ hn3, hne, hln, fun H5 rA xs rs b5 D5 nlr nrd hr5 da5 rok => ⟨_, _, rfl, ?_⟩⟩
    have hn5 := b5 _ _ nnd (s4 _ _ hn3)
    have hp5 := b5 _ _ npd (s4 _ _ hp3)
    have ht5 := b5 _ _ ntd e4
    have TT5 := Tabs.but (s4 _ _ D3.lst.choose_spec) (Tabs.same TT3 s4) b5
    have fit := law_fit hsub hne hpl htl rok
    have hperm := law_perm hnd hpl htl
    have l10 := rok.1
    have lpl := hpl.length_le
    have ltl : tl.length ≤ 5 := by rw [htl]; exact Nat.le_trans (List.length_filter_le _ _) hlen5
    have hlp : ∀ x ∈ pl, x.length ≤ 1000 := fun x hx => hln x (hpl.subset hx)
    have hlt : ∀ x ∈ tl, x.length ≤ 1000 := fun x hx => wordOk_len (fit.wt x hx)
    clear b5 s4 D3 TT3 hn3 hp3 e4 nlr
    have e5 : errD (dS pl.reverse) (.tup (tl.map Dt.str)) (.lst (rs.map dtR)) = none := errD_ok rfl rfl rfl (fit.perm (List.reverse_perm _) (List.Perm.refl _) fun _ h => h)
    have lx5 := da5.len
    rw [List.length_map] at lx5
    dsimp only [tSeq]
    refine asg_tup2 (make_run (dp := dS pl.reverse) (dt := .tup (tl.map Dt.str)) (dr := .lst (rs.map dtR)) e5 (fun l e => by cases e; rw [List.length_map, List.length_reverse]; omega) (fun l e => by cases e; rw [List.length_map]; omega) (fun l e => by cases e; rw [List.length_map]; omega)
      (fun R hR => ⟨_, rfl, pA, _, rfl, SqL.of hp5, fun q6 hq6 => ⟨_, rfl, tA, _, rfl, .inl ⟨SqL.of (Same.fresh (Same.refl _) hq6 _ _ ht5), fun l6 hl6 => ⟨_, rfl, hR [.ref q6, .ref l6, .ref rA] _ _ _ _ rfl (Same.fresh (Same.fresh (Same.refl _) hq6) hl6)
        (da_list (l := pl.reverse) (by rw [Same.fresh (Same.refl _) hl6 _ _ upd_same, List.map_reverse]) (fun x hx => hlp x (List.mem_reverse.mp hx))) (.tup upd_same (DaAll.ofStrs hlt))
        (.lst (SqL.of (Same.fresh (Same.fresh (Same.refl _) hq6) hl6 _ _ hr5)) (DaAll.same (Same.fresh (Same.fresh (Same.refl _) hq6) hl6) da5))⟩⟩⟩⟩) fun H6 st s6 nst S6 => ?_)
    rw [rows_sD (d := dS pl.reverse) (ps := pl.reverse) rfl, rows_sD (d := .tup (tl.map Dt.str)) (ps := tl) rfl, show r3s (lD (.lst (rs.map dtR))) = rs from r3s_map rs, show sortT pl.reverse = sortT pl from sortT_is (List.reverse_perm _)] at S6
    refine ⟨_, rfl, ?_⟩
    unfold tNil
    refine set_sortC (P := P) (w := w) (fun y H1 h => h) (.inl (SqL.of (s6 _ _ hr5))) (DaAll.same s6 da5) (by omega) fun H7 du ys s7 ndu hdu dadu => ?_
    refine ⟨by decide, fun q8 hq8 => ⟨q8, _, rfl, .inl (.inl upd_same), rfl, _, _, rfl, _, _, rfl, rfl, ?_⟩⟩
    have s58 : Same H5 (upd H7 q8 (.tup [.ref st, .ref du])) := (s6.trans s7).trans (Same.fresh (Same.refl _) hq8)
    have S8 := (S6.same s7).same (Same.fresh (o := .tup [.ref st, .ref du]) (Same.refl _) hq8)
    have hdu8 := Same.fresh (o := .tup [.ref st, .ref du]) (Same.refl _) hq8 _ _ hdu
    have dadu8 := DaAll.same (Same.fresh (o := .tup [.ref st, .ref du]) (Same.refl _) hq8) dadu
    have hn8 := s58 _ _ hn5
    have hp8 := s58 _ _ hp5
    have ht8 := s58 _ _ ht5
    have hr8a := s58 _ _ hr5
    have da8 := DaAll.same s58 da5
    have D8 := D5.same s58
    have TT8 := Tabs.same TT5 s58
    have nst5 : H5 st = none := Same.no (Same.refl _) nst
    have ndu5 : H5 du = none := Same.no s6 ndu
    have std : st ≠ d := ne_of_none' nst5 D5.lst.choose_spec
    have dud : du ≠ d := ne_of_none' ndu5 D5.lst.choose_spec
    generalize upd H7 q8 (.tup [.ref st, .ref du]) = H8 at s58 S8 hdu8 dadu8 hn8 hp8 ht8 hr8a da8 D8 TT8
    clear s58 S6 s6 s7 hdu dadu hq8 nst ndu hn5 hp5 ht5 hr5 da5 D5 TT5
    obtain ⟨⟨dx, ip, it', ir, ix, g1, g2, g3, g4, g5⟩, _, _, _, _, _⟩ := id S8
    refine ⟨_, rfl, st, CS, dx, _, _, rfl, g1, T.cl, T.nP, flds_p _ _ _, _, rfl, pA, pl, rfl, .inl (SqL.of hp8), fun p9 hp9 => ?_⟩
    have s9 := Same.fresh (o := .lst ((pl.mergeSort leT).map V.str)) (Same.refl _) hp9
    refine ne_strs (l := sortT pl) (m := sortT pl) rfl (SqL.of (s9 _ _ g2)) (SqL.of upd_same) ⟨false, rfl, iteF ?_⟩
    refine ⟨_, rfl, st, CS, dx, _, _, rfl, s9 _ _ g1, T.cl, T.nT, flds_t _ _ _, _, rfl, tA, tl, rfl, .inl (SqL.of (s9 _ _ ht8)), fun p10 hp10 => ?_⟩
    have s10 := Same.fresh (o := .lst ((tl.mergeSort leT).map V.str)) s9 hp10
    refine ne_strs (l := sortT tl) (m := sortT tl) rfl (SqL.of (s10 _ _ g3)) (SqL.of upd_same) ⟨false, rfl, iteF ?_⟩
    refine ⟨_, rfl, st, CS, dx, _, _, rfl, s10 _ _ g1, T.cl, T.nR, flds_r _ _ _, _, rfl, ne_rts rfl (SqL.of (s10 _ _ g4)) (DaAll.same s10 g5) (SqL.of (s10 _ _ hdu8)) (DaAll.same s10 dadu8) ⟨false, rfl, iteF ?_⟩⟩
    refine ⟨_, rfl, st, dx, _, rfl, s10 _ _ g1, flds_no _ _ _ (by decide) (by decide) (by decide), st, _, _, _, rfl, S8.same s10, fun H11 p11 s11 np11 hp11 => ⟨_, rfl, n, nm, rfl, .inl (SqL.of (s11 _ _ (s10 _ _ hn8))), fun p12 hp12 => ?_⟩⟩
    have s12 := Same.fresh (o := .lst ((nm.mergeSort leT).map V.str)) (s10.trans s11) hp12
    refine ne_strs (l := sortT (sortT pl ++ sortT tl)) (m := sortT nm) (sortT_is (((sortT_perm pl).append (sortT_perm tl)).trans hperm)) (SqL.of (Same.fresh (Same.refl _) hp12 _ _ hp11)) (SqL.of upd_same) ⟨false, rfl, iteF ?_⟩
    have ldu : ys.length = (nrm rs).length := by
      have := dadu8.len
      rwa [List.length_map] at this
    have lnr : (nrm rs).length ≤ 10 := Nat.le_trans (nrm_len rs) l10
    refine ⟨_, rfl, list_read (S8.same s12) fun l13 H13 xs13 s13 nl13 hl13 da13 => ⟨_, rfl, ne_rts rfl (SqL.of hl13) da13 (SqL.of (s13 _ _ (s12 _ _ hdu8))) (DaAll.same (s12.trans s13) dadu8) ⟨false, rfl, iteF ?_⟩⟩⟩
    have s8d := s12.trans s13
    refine ⟨_, rfl, st, dx, _, rfl, s8d _ _ g1, st, _, _, nrm rs, rfl, S8.same s8d, _, rfl, by omega, _, rfl, du, ys, rfl, .inl (SqL.of (s8d _ _ hdu8)), ?_⟩
    refine ne_int (by rw [ldu]) ⟨false, rfl, iteF ?_⟩
    have e7 : errD (.tup (pl.map Dt.str)) (dS tl.reverse) (.tup ((nrm rs).map dtR)) = none := errD_ok rfl rfl rfl (fit.perm (List.Perm.refl _) (List.reverse_perm _) fun _ h => mem_nrm.mp h)
    refine ⟨_, rfl, ?_⟩
    dsimp only
    refine make_run (dp := .tup (pl.map Dt.str)) (dt := dS tl.reverse) (dr := .tup ((nrm rs).map dtR)) e7 (fun l e => by cases e; rw [List.length_map]; omega) (fun l e => by cases e; rw [List.length_map, List.length_reverse]; omega) (fun l e => by cases e; rw [List.length_map]; omega)
      (fun R hR => ⟨_, rfl, pA, _, rfl, .inl ⟨SqL.of (s8d _ _ hp8), fun l6 hl6 => ⟨_, rfl, tA, _, rfl, SqL.of (Same.fresh s8d hl6 _ _ ht8), fun q6 hq6 => ⟨_, rfl, du, _, rfl, .inl ⟨SqL.of (Same.fresh (Same.fresh s8d hl6) hq6 _ _ hdu8), fun l7 hl7 =>
        hR [.ref l6, .ref q6, .ref l7] _ _ _ _ rfl (Same.fresh (Same.fresh (Same.fresh (Same.refl _) hl6) hq6) hl7)
        (.tup (Same.fresh (Same.fresh (Same.refl _) hq6) hl7 _ _ upd_same) (DaAll.ofStrs hlp)) (da_list (l := tl.reverse) (by rw [Same.fresh (Same.refl _) hl7 _ _ upd_same, List.map_reverse]) (fun x hx => hlt x (List.mem_reverse.mp hx)))
        (.tup upd_same (DaAll.same (Same.fresh (Same.fresh (Same.fresh s8d hl6) hq6) hl7) dadu8))⟩⟩⟩⟩⟩) fun H14 z14 s14 nz14 S14 => ?_
    rw [rows_sD (d := .tup (pl.map Dt.str)) (ps := pl) rfl, rows_sD (d := dS tl.reverse) (ps := tl.reverse) rfl, show r3s (lD (.tup ((nrm rs).map dtR))) = nrm rs from r3s_map _] at S14
    refine own_ne (S8.same (s8d.trans s14)) S14 rfl (sortT_is (List.reverse_perm _)).symm (nrm_nrm rs).symm ⟨false, rfl, iteF ?_⟩
    have s8e := s8d.trans s14
    refine ⟨_, rfl, _, rfl, d, n, nm, rfl, D8.same s8e, s8e _ _ hn8, hne, hln, fun H15 mA ms mo b15 D15 nlm nmd hm15 dam15 mok => ?_⟩
    have S15 := (S8.same s8e).but (D8.same s8e) b15
    have hdu15 := b15 _ _ dud (s8e _ _ hdu8)
    have dadu15 := DaAll.but (D8.same s8e) b15 (DaAll.same s8e dadu8)
    have hn15 := b15 _ _ nnd (s8e _ _ hn8)
    have hp15 := b15 _ _ npd (s8e _ _ hp8)
    have ht15 := b15 _ _ ntd (s8e _ _ ht8)
    have hr15 := b15 _ _ nrd (s8e _ _ hr8a)
    have da15 := DaAll.but (D8.same s8e) b15 (DaAll.same s8e da8)
    have TT15 := Tabs.but (s8e _ _ D8.lst.choose_spec) (Tabs.same TT8 s8e) b15
    clear s8e s8d s14 s13 s12 s11 s10 s9 b15 S8 hdu8 dadu8 hn8 hp8 ht8 hr8a da8 D8 TT8 g1 g2 g3 g4 g5 S14 e7 hl13 da13 hp9 hp10 hp12 hp11 np11 nl13 nz14 nlm
    have fitm := law_fit hsub hne hpl htl mok
    have lmo := mok.1
    have lms := dam15.len
    rw [List.length_map] at lms
    have fita : Fit pl tl (nrm rs ++ mo) := fit.both fitm fun r hr => (List.mem_append.mp hr).imp (fun h => mem_nrm.mp h) id
    have fitb : Fit pl tl (rs ++ mo) := fit.both fitm fun r hr => List.mem_append.mp hr
    have eab : nrm (nrm rs ++ mo) = nrm (rs ++ mo) := nrm_congr fun x => by rw [List.mem_append, List.mem_append, mem_nrm]
    obtain ⟨dx', ip', it'', ir', ix', g1, _⟩ := S15.ex
    refine ⟨_, rfl, _, rfl, st, dx', _, true, mA, ms, rfl, rfl, g1, .inl ⟨rfl, SqL.of hm15⟩, add_run S15 (.lst (SqL.of hm15) dam15) rfl (by omega) fita fun H16 x16 s16 nx16 S16 => ?_⟩
    refine make_run (dp := dS pl) (dt := dS tl) (dr := .lst ((rs ++ mo).map dtR)) (errD_ok rfl rfl rfl fitb) (fun l e => by cases e; rw [List.length_map]; omega) (fun l e => by cases e; rw [List.length_map]; omega) (fun l e => by cases e; rw [List.length_map, List.length_append]; omega)
      (fun R hR => ⟨_, rfl, _, rfl, _, rfl, _, rfl, rA, mA, xs, ms, rfl, rfl, s16 _ _ hr15, s16 _ _ hm15, by rw [sizeLine_eq]; omega, fun p hp =>
        hR [.ref pA, .ref tA, .ref p] _ _ _ _ rfl (Same.fresh (Same.refl _) hp) (da_list (Same.fresh s16 hp _ _ hp15) hlp) (da_list (Same.fresh s16 hp _ _ ht15) hlt)
        (.lst (SqL.of upd_same) (by rw [List.map_append]; exact DaAll.app (DaAll.same (Same.fresh s16 hp) da15) (DaAll.same (Same.fresh s16 hp) dam15)))⟩) fun H17 x17 s17 nx17 S17 => ?_
    rw [rows_sD (d := dS pl) (ps := pl) rfl, rows_sD (d := dS tl) (ps := tl) rfl, show r3s (lD (.lst ((rs ++ mo).map dtR))) = rs ++ mo from r3s_map _] at S17
    refine own_ne (S16.same s17) S17 rfl rfl eab ⟨false, rfl, iteF ?_⟩
    have s1517 := s16.trans s17
    refine ⟨_, rfl, _, rfl, mA, ms, rfl, .inl ⟨SqL.of (s1517 _ _ hm15), fun l18 hl18 => ?_⟩⟩
    have s18 := Same.fresh (o := .tup ms) s1517 hl18
    refine ⟨st, dx', _, false, l18, ms, rfl, rfl, s18 _ _ g1, .inr ⟨rfl, .inl (.inl upd_same)⟩, add_run (S15.same s18) (.tup upd_same (DaAll.same s18 dam15)) rfl (by omega) fita fun H19 x19 s19 nx19 S19 => ?_⟩
    have s1519 := s18.trans s19
    obtain ⟨⟨dx19, ip19, it19, ir19, ix19, k1, k2, k3, k4, k5⟩, _, _, _, _, _⟩ := id S19
    refine ⟨x19, CS, dx19, _, _, rfl, k1, T.cl, T.nR, flds_r _ _ _, _, rfl, _, rfl, rA, mA, xs, ms, rfl, rfl, s1519 _ _ hr15, s1519 _ _ hm15, by rw [sizeLine_eq]; omega, fun p20 hp20 => ?_⟩
    have s20 := Same.fresh (o := .lst (xs ++ ms)) (Same.refl H19) hp20
    dsimp only
    refine set_sortC (P := P) (w := w) (rs := rs ++ mo) (fun y H1 h => h) (.inl (SqL.of upd_same)) (by rw [List.map_append]; exact DaAll.app (DaAll.same (s1519.trans s20) da15) (DaAll.same (s1519.trans s20) dam15)) (by rw [List.length_append]; omega) fun H21 u21 ys21 s21 nu21 hu21 dau21 => ?_
    refine ne_rts eab (SqL.of (s21 _ _ (s20 _ _ k4))) (DaAll.same (s20.trans s21) k5) (SqL.of hu21) dau21 ⟨false, rfl, iteF ?_⟩
    have s1521 := (s1519.trans s20).trans s21
    have due21 := s1521 _ _ hdu15
    obtain ⟨d21, hd21⟩ := (D15.same s1521).lst
    refine ⟨_, rfl, true, du, ys, rfl, SqX.list (SqL.of due21), fun J wk lA hlA => lcB wk hlA (ne_of_none' hlA hd21) (fun i acc H => (∃ l : List R3, l.Sublist ((nrm rs).take i) ∧ DaAll K H21 acc (l.map dtR)) ∧ Go H21 H d)
      (by rw [ldu, sizeLine_eq]; omega) (fun i l H H' r b => ⟨r.1, r.2.same fun o e => b _ _ (ne_of_none' hlA hd21).symm e⟩) ⟨⟨[], List.nil_sublist _, .nil⟩, Go.rfl'⟩ (fun H b => SqX.list (SqL.of (b _ _ dud due21))) ?_ ?_⟩
    · rintro i x H3 acc hi ex b3 e3 ⟨⟨l, hl, dl⟩, g3⟩ Nx yes no
      obtain ⟨ta, r, er, rfl, _, lr, ht⟩ := trip_at (DaAll.same s1521 dadu15) ex
      have tk := take_up er
      refine ⟨rfl, _, rfl, d, 2, rfl, (D15.same s1521).go b3 g3, by decide, fun k4 H4 k40 k42 b4 D4 g4 => ?_⟩
      refine ⟨rfl, _, rfl, ?_⟩
      refine ite2 (fun c => ?_) (fun c => ?_)
      · exact ⟨_, rfl, yes _ _ b4 ⟨⟨l ++ [r], by rw [tk]; exact hl.append (List.Sublist.refl _), by rw [List.map_append]; exact DaAll.app dl (.cons (da_trip ht lr) .nil)⟩, g3.trans g4⟩⟩
      · exact no _ b4 ⟨⟨l, by rw [tk]; exact hl.trans (List.sublist_append_left _ _), dl⟩, g3.trans g4⟩
    rintro H22 acc b22 e22 ⟨⟨l22, hl22, dl22⟩, g22⟩
    rw [ldu, List.take_length] at hl22
    have D22 := (D15.same s1521).go b22 g22
    have hm22 := b22 _ _ nmd (s1521 _ _ hm15)
    have dl22' := DaAll.but (D15.same s1521) b22 dl22
    have dam22 := DaAll.but (D15.same s1521) b22 (DaAll.same s1521 dam15)
    have lac := dl22.len
    rw [List.length_map] at lac
    have l22n := hl22.length_le
    refine ⟨_, rfl, 1, rfl, mA, ms, rfl, SqL.of hm22, fun q23 hq23 => ?_⟩
    rw [cut_first ms 1 (by decide)]
    have s23 := Same.fresh (o := .lst (ms.take (min (1 : Int).toNat ms.length))) (Same.refl H22) hq23
    refine ⟨lA, q23, acc, ms.take (min (1 : Int).toNat ms.length), rfl, rfl, s23 _ _ e22, upd_same, by rw [List.length_take, sizeLine_eq]; omega, fun lsA hlsA => ?_⟩
    have s24 := Same.fresh (o := .lst (acc ++ ms.take (min (1 : Int).toNat ms.length))) s23 hlsA
    obtain ⟨ls, hls⟩ : ∃ ls, ls = l22 ++ mo.take (min (1 : Int).toNat ms.length) := ⟨_, rfl⟩
    have dls : DaAll K (upd (upd H22 q23 (.lst (ms.take (min (1 : Int).toNat ms.length)))) lsA (.lst (acc ++ ms.take (min (1 : Int).toNat ms.length)))) (acc ++ ms.take (min (1 : Int).toNat ms.length)) (ls.map dtR) := by
      rw [hls, List.map_append, List.map_take]
      exact DaAll.app (DaAll.same s24 dl22') (DaAll.take _ (DaAll.same s24 dam22))
    have hls24 : (upd (upd H22 q23 (.lst (ms.take (min (1 : Int).toNat ms.length)))) lsA (.lst (acc ++ ms.take (min (1 : Int).toNat ms.length)))) lsA = some (.lst (acc ++ ms.take (min (1 : Int).toNat ms.length))) := upd_same
    have S24 := ((S15.same s1521).but (D15.same s1521) b22).same s24
    have hdu24 := s24 _ _ (b22 _ _ dud due21)
    have dadu24 := DaAll.same s24 (DaAll.but (D15.same s1521) b22 (DaAll.same s1521 dadu15))
    have hn24 := s24 _ _ (b22 _ _ nnd (s1521 _ _ hn15))
    have hp24 := s24 _ _ (b22 _ _ npd (s1521 _ _ hp15))
    have ht24 := s24 _ _ (b22 _ _ ntd (s1521 _ _ ht15))
    have hm24 := s24 _ _ hm22
    have dam24 := DaAll.same s24 dam22
    have TT24 := Tabs.same (Tabs.but hd21 (Tabs.same TT15 s1521) b22) s24
    have D24 := D22.same s24
    have lls : ls.length ≤ 20 := by rw [hls, List.length_append, List.length_take]; omega
    generalize upd (upd H22 q23 (.lst (ms.take (min (1 : Int).toNat ms.length)))) lsA (.lst (acc ++ ms.take (min (1 : Int).toNat ms.length))) = H24 at s24 dls hls24 S24 hdu24 dadu24 hn24 hp24 ht24 hm24 dam24 TT24 D24
    generalize acc ++ ms.take (min (1 : Int).toNat ms.length) = ly at dls hls24
    clear s24 s23 dam22 dl22' hm22 D22 b22 g22 e22 dl22 S15 S16 S17 S19 hdu15 dadu15 hn15 hp15 ht15 hr15 da15 hm15 dam15 TT15 D15 k1 k2 k3 k4 k5 g1 dau21 hu21 due21 hd21
    have lly := dls.len
    rw [List.length_map] at lly
    have fitn : Fit pl tl (nrm rs) := fit.both fit fun r hr => .inl (mem_nrm.mp hr)
    have efl : nrm ((nrm rs).filter fun y => !decide (y ∈ ls)) = (nrm rs).filter fun y => !decide (y ∈ ls) := nrm_self ((nrm_nd rs).filter _) ((nrm_pw rs).filter _)
    obtain ⟨dx', ip', it'', ir', ix', g1, _⟩ := S24.ex
    refine ⟨_, rfl, _, rfl, st, dx', _, true, lsA, ly, rfl, rfl, g1, .inl ⟨rfl, SqL.of hls24⟩, sub_run S24 (.lst (SqL.of hls24) dls) rfl (by omega) fitn fun H25 x25 s25 nx25 S25 => ?_⟩
    obtain ⟨⟨dx25, ip25, it25, ir25, ix25, k1, k2, k3, k4, k5⟩, _, _, _, _, _⟩ := id S25
    refine ⟨x25, CS, dx25, _, _, rfl, k1, T.cl, T.nR, flds_r _ _ _, _, rfl, true, du, ys, rfl, SqX.list (SqL.of (s25 _ _ hdu24)), fun J wk cA hcA => lcX wk hcA (fun i acc H => DaAll K H25 acc ((((nrm rs).take i).filter fun y => !decide (y ∈ ls)).map dtR))
      (by rw [ldu, sizeLine_eq]; omega) (fun _ _ _ _ r _ => r) .nil (fun H s => SqX.list (SqL.of (s _ _ (s25 _ _ hdu24)))) ?_ ?_⟩
    · intro i x H4 acc hi ex s4 e r Nx yes no
      obtain ⟨ta, r1, er, rfl, _, lr, ht⟩ := trip_at (DaAll.same s25 dadu24) ex
      have tk := take_up er
      refine ⟨rfl, _, rfl, _, rfl, lsA, ly, ls.map encR, encR r1, rfl, SqL.of (s4 _ _ (s25 _ _ hls24)), dp_Rs (DaAll.same (s25.trans s4) dls), dp_R (da_trip (r := r1) (s4 _ _ ht) lr), lay_Rs _, lay_R _, by rw [dep_R]; decide, _, rfl, ?_⟩
      refine ite2 (fun c => ?_) (fun c => ?_)
      · rw [any_R] at c
        simp at c
        have ef : ([r1].filter fun y => !decide (y ∈ ls)) = [r1] := by simp [c]
        exact ⟨_, rfl, yes _ _ (Same.refl _) (by rw [tk, List.filter_append, List.map_append, ef]; exact DaAll.app r (.cons (da_trip ht lr) .nil))⟩
      · rw [any_R] at c
        simp at c
        have ef : ([r1].filter fun y => !decide (y ∈ ls)) = [] := by simp [c]
        exact no _ (Same.refl _) (by rw [tk, List.filter_append, ef, List.append_nil]; exact r)
    intro H26 acc s26 e26 r26
    rw [ldu, List.take_length] at r26
    refine ne_rts efl (SqL.of (s26 _ _ k4)) (DaAll.same s26 k5) (SqL.of e26) (DaAll.same s26 r26) ⟨false, rfl, iteF ?_⟩
    have s2426 := s25.trans s26
    refine ⟨_, rfl, _, rfl, lsA, ly, rfl, .inl ⟨SqL.of (s2426 _ _ hls24), fun l27 hl27 => ?_⟩⟩
    have s27 := Same.fresh (o := .tup ly) s2426 hl27
    refine ⟨st, dx', _, false, l27, ly, rfl, rfl, s27 _ _ g1, .inr ⟨rfl, .inl (.inl upd_same)⟩, sub_run (S24.same s27) (.tup upd_same (DaAll.same s27 dls)) rfl (by omega) fitn fun H28 x28 s28 nx28 S28 => ?_⟩
    have s2428 := s27.trans s28
    refine ⟨_, rfl, _, rfl, st, dx', _, true, lsA, ly, rfl, rfl, s2428 _ _ g1, .inl ⟨rfl, SqL.of (s2428 _ _ hls24)⟩, sub_run (S24.same s2428) (.lst (SqL.of (s2428 _ _ hls24)) (DaAll.same s2428 dls)) rfl (by omega) fitn fun H29 x29 s29 nx29 S29 => ?_⟩
    refine own_ne (S28.same s29) S29 rfl rfl rfl ⟨false, rfl, iteF ?_⟩
    have s2429 := s2428.trans s29
    have hdu29 := s2429 _ _ hdu24
    have hm29 := s2429 _ _ hm24
    have dadu29 := DaAll.same s2429 dadu24
    have dam29 := DaAll.same s2429 dam24
    have lms' := dam24.len
    rw [List.length_map] at lms'
    refine ⟨_, rfl, _, rfl, du, mA, ys, ms, rfl, rfl, hdu29, hm29, by rw [sizeLine_eq]; omega, fun c30 hc30 => ?_⟩
    have s30 := Same.fresh (o := .lst (ys ++ ms)) (Same.refl H29) hc30
    refine ⟨true, c30, _, rfl, SqX.list (SqL.of upd_same), fun J wk cA hcA => lcX wk hcA (fun i acc H => acc = (((nrm rs ++ mo).take i).map fun r => decide (r ∈ nrm rs)).map V.bl) (by rw [List.length_append, sizeLine_eq]; omega) (fun _ _ _ _ r _ => r) rfl (fun H s => SqX.list (SqL.of (s _ _ upd_same))) ?_ ?_⟩
    · intro i x H4 acc hi ex s4 e r Nx yes no
      obtain ⟨ta, r1, er, rfl, _, lr, ht⟩ := trip_at (rs := nrm rs ++ mo) (by rw [List.map_append]; exact DaAll.app (DaAll.same s30 dadu29) (DaAll.same s30 dam29)) ex
      have tk := take_up er
      have s24x := (s2429.trans s30).trans s4
      refine ⟨rfl, tYes_ok ⟨_, rfl, _, rfl, st, dx', _, rfl, s24x _ _ g1, st, _, _, _, _, r1, rfl, S24.same s24x, da_trip (r := r1) (s4 _ _ ht) lr, _, rfl, yes _ _ (Same.refl _) ?_⟩⟩
      rw [r, tk, List.map_append, List.map_append]
      rfl
    intro H31 acc s31 e31 r31
    rw [List.length_append, ldu, lms', ← List.length_append, List.take_length] at r31
    subst r31
    have s2931 := s30.trans s31
    refine ⟨by show 1 ≤ sizeLine; decide, fun t1 ht1 => ⟨_, rfl, du, ys, rfl, .inl (SqL.of (Same.fresh s2931 ht1 _ _ hdu29)), t1, _, [.bl true], rfl, rfl, upd_same, by omega, by omega, by rw [sizeLine_eq]; show 1 * _ ≤ _; omega, fun t2 ht2 => ?_⟩⟩
    have s32 := Same.fresh (o := .lst (List.replicate ((ys.length : Int)).toNat [V.bl true]).flatten) (Same.fresh (o := .lst [.bl true]) s2931 ht1) ht2
    have s3132 := Same.fresh (o := .lst (List.replicate ((ys.length : Int)).toNat [V.bl true]).flatten) (Same.fresh (o := .lst [.bl true]) (Same.refl H31) ht1) ht2
    refine ⟨_, rfl, true, mA, ms, rfl, SqX.list (SqL.of (s32 _ _ hm29)), fun J wk cB hcB => lcX wk hcB (fun i acc H => acc = ((mo.take i).map fun r => decide (r ∈ nrm rs)).map V.bl) (by rw [sizeLine_eq]; omega) (fun _ _ _ _ r _ => r) rfl (fun H s => SqX.list (SqL.of (s _ _ (s32 _ _ hm29)))) ?_ ?_⟩
    · intro i x H4 acc hi ex s4 e r Nx yes no
      obtain ⟨ta, r1, er, rfl, _, lr, ht⟩ := trip_at (DaAll.same s32 dam29) ex
      have tk := take_up er
      refine ⟨rfl, tYes_ok ⟨_, rfl, _, rfl, du, ys, (nrm rs).map encR, encR r1, rfl, SqL.of (s4 _ _ (s32 _ _ hdu29)), dp_Rs (DaAll.same (s32.trans s4) dadu29), dp_R (da_trip (r := r1) (s4 _ _ ht) lr), lay_Rs _, lay_R _, by rw [dep_R]; decide, yes _ _ (Same.refl _) ?_⟩⟩
      rw [r, tk, List.map_append, List.map_append, if_neg (by decide), any_R]
      rfl
    intro H33 acc s33 e33 r33
    rw [lms', List.take_length] at r33
    subst r33
    refine ⟨t2, cB, _, _, rfl, rfl, s33 _ _ upd_same, e33, ?_, fun p34 hp34 => ?_⟩
    · rw [Int.toNat_natCast, ldu, rep_true (f := fun r => decide (r ∈ nrm rs)) (nrm rs) (fun r hr => decide_eq_true hr), List.length_map, List.length_map, List.length_map, List.length_map, sizeLine_eq]
      omega
    have s34 := Same.fresh (o := .lst ((List.replicate ((ys.length : Int)).toNat [V.bl true]).flatten ++ (mo.map fun r => decide (r ∈ nrm rs)).map V.bl)) (s3132.trans s33) hp34
    refine ne_bls (l := (nrm rs ++ mo).map fun r => decide (r ∈ nrm rs)) (m := (nrm rs ++ mo).map fun r => decide (r ∈ nrm rs)) rfl (SqL.of (s34 _ _ e31)) (SqL.of ?_) ⟨false, rfl, iteF ?_⟩
    · rw [upd_same, Int.toNat_natCast, ldu, rep_true (f := fun r => decide (r ∈ nrm rs)) (nrm rs) (fun r hr => decide_eq_true hr), List.map_append, List.map_append]
    have s2434 := (s2429.trans s2931).trans s34
    have no1 : ¬ (("zz", "r", "zz") : R3) ∈ nrm rs := fun h => absurd (hsub.subset (rok.2 _ (mem_nrm.mp h)).1) (by decide +kernel)
    have no2 : ¬ (("ann", "zz", "ann") : R3) ∈ nrm rs := fun h => absurd (rok.2 _ (mem_nrm.mp h)).2.1 (by decide +kernel)
    refine ⟨by show 3 ≤ sizeLine; decide, fun t35 ht35 => ?_⟩
    have s35 := Same.fresh (o := .tup [.str "zz", .str "r", .str "zz"]) s2434 ht35
    refine ⟨_, rfl, st, dx', _, rfl, s35 _ _ g1, st, _, _, _, _, ("zz", "r", "zz"), rfl, S24.same s35, da_trip upd_same ⟨by decide, by decide, by decide⟩, _, rfl, ?_⟩
    rw [decide_eq_false no1]
    refine ⟨false, rfl, iteF ?_⟩
    refine ⟨by show 3 ≤ sizeLine; decide, fun t36 ht36 => ?_⟩
    have s36 := Same.fresh (o := .tup [.str "ann", .str "zz", .str "ann"]) s35 ht36
    refine ⟨_, rfl, st, dx', _, rfl, s36 _ _ g1, st, _, _, _, _, ("ann", "zz", "ann"), rfl, S24.same s36, da_trip upd_same ⟨by decide, by decide, by decide⟩, _, rfl, ?_⟩
    rw [decide_eq_false no2]
    refine ⟨false, rfl, iteF ?_⟩
    have hmem : ∀ z, z ∈ nm → z ∈ sortT pl ++ sortT tl := fun z hz => (((sortT_perm pl).append (sortT_perm tl)).trans hperm).mem_iff.mpr hz
    refine ⟨_, rfl, true, n, _, rfl, SqX.list (SqL.of (s36 _ _ hn24)), fun J wk => for_it wk (fun i σ H => (∃ v10 v11, σ = [some (.ref a), some (.ref d), some (.ref n), some (.ref pA), some (.ref tA), some (.ref rA), some (.ref st), some (.ref du), some (.ref mA), some (.ref lsA), v10, v11, none, none, none, none, none, none, none]) ∧ Same H24 H) ⟨⟨none, none, rfl⟩, s36⟩ (fun i σ H _ p => SqX.list (SqL.of (p.2 _ _ hn24))) ?_ ?_⟩
    · rintro i x σ H37 H37' hi ⟨⟨v10, v11, rfl⟩, s37⟩ ⟨rfl, ex⟩
      rw [List.getElem?_map] at ex
      obtain ⟨x, ez, rfl⟩ := Option.map_eq_some_iff.mp ex
      have mx := hmem x (List.mem_of_getElem? ez)
      refine ⟨_, rfl, true, n, _, rfl, SqX.list (SqL.of (s37 _ _ hn24)), fun J2 wk2 => for_it wk2 (fun i σ H => (∃ v11, σ = [some (.ref a), some (.ref d), some (.ref n), some (.ref pA), some (.ref tA), some (.ref rA), some (.ref st), some (.ref du), some (.ref mA), some (.ref lsA), some (.str x), v11, none, none, none, none, none, none, none]) ∧ Same H24 H) ⟨⟨v11, rfl⟩, s37⟩ (fun i σ H _ p => SqX.list (SqL.of (p.2 _ _ hn24))) ?_ ?_⟩
      · rintro j y σ H38 H38' hj ⟨⟨v11, rfl⟩, s38⟩ ⟨rfl, ey⟩
        rw [List.getElem?_map] at ey
        obtain ⟨y, ew, rfl⟩ := Option.map_eq_some_iff.mp ey
        have my := hmem y (List.mem_of_getElem? ew)
        refine ⟨_, rfl, st, dx', _, rfl, s38 _ _ g1, flds_no _ _ _ (by decide +kernel) (by decide +kernel) (by decide +kernel), _, rfl, _, rfl, st, _, _, _, x, y, rfl, S24.same s38, fun no => (no mx).elim, fun _ no => (no my).elim, fun _ _ H39 p39 s39 np39 hp39 => ?_⟩
        have s39' := s38.trans s39
        refine ⟨_, rfl, true, du, ys, rfl, SqX.list (SqL.of (s39' _ _ hdu24)), fun J3 wk3 cA hcA => lcX wk3 hcA (fun i acc H => acc = (wordsOf ((nrm rs).take i) x y).map V.str) (by rw [ldu, sizeLine_eq]; omega) (fun _ _ _ _ r _ => r) rfl (fun H s => SqX.list (SqL.of (s _ _ (s39' _ _ hdu24)))) ?_ ?_⟩
        · intro k z H40 acc hk ez2 s40 e r Nx yes no
          obtain ⟨ta, r1, er, rfl, hq, lr, ht⟩ := trip_at (DaAll.same (s39'.trans s40) dadu24) ez2
          have tk := take_up er
          refine ⟨ta, _, rfl, hq, rfl, _, _, rfl, _, _, rfl, _, _, rfl, rfl, rfl, _, rfl, _, rfl, by show 2 ≤ sizeLine; decide, fun t1 h1 => ⟨_, rfl, _, rfl, by show 2 ≤ sizeLine; decide, fun t2 h2 => ?_⟩⟩
          have sA := Same.fresh (o := .tup [.str r1.1, .str r1.2.2]) (Same.refl H40) h1
          have sB := Same.fresh (o := .tup [.str x, .str y]) sA h2
          refine ⟨.tuple [.str r1.1, .str r1.2.2], .tuple [.str x, .str y], .tup (.inl (.inl (Same.fresh (Same.refl _) h2 _ _ upd_same))) (.cons (.str _) (.cons (.str _) .nil)), .tup (.inl (.inl upd_same)) (.cons (.str _) (.cons (.str _) .nil)), rfl, rfl, by show 1 ≤ 60; decide, _, rfl, ?_⟩
          have ev : PyData.eqv (.tuple [.str r1.1, .str r1.2.2]) (.tuple [.str x, .str y]) = (decide (r1.1 = x) && decide (r1.2.2 = y)) := by
            simp only [PyData.eqv, PyData.eqvAll, Bool.and_true]
            rw [Bool.eq_iff_iff, Bool.and_eq_true, Bool.and_eq_true, beq_iff_eq, beq_iff_eq, decide_eq_true_eq, decide_eq_true_eq]
          refine ite2 (fun c => ?_) (fun c => ?_)
          · rw [if_neg (by decide), ev] at c
            refine ⟨_, rfl, yes _ _ sB ?_⟩
            rw [r, tk]
            unfold wordsOf
            rw [List.filter_append, List.map_append, List.map_append, show ([r1].filter fun r => decide (r.1 = x) && decide (r.2.2 = y)) = [r1] from by simp only [List.filter_cons, c, if_true, List.filter_nil]]
            rfl
          · rw [if_neg (by decide), ev] at c
            refine no _ sB ?_
            rw [r, tk]
            unfold wordsOf
            rw [List.filter_append, show ([r1].filter fun r => decide (r.1 = x) && decide (r.2.2 = y)) = [] from by rw [List.filter_cons, if_neg c]; rfl, List.append_nil]
        intro H41 acc s41 e41 r41
        rw [ldu, List.take_length] at r41
        subst r41
        exact ne_strs (l := wordsOf (nrm rs) x y) (m := wordsOf (nrm rs) x y) rfl (SqL.of (s41 _ _ hp39)) (SqL.of e41) ⟨false, rfl, iteF ⟨⟨_, rfl⟩, s39'.trans s41⟩⟩
      · rintro σ H42 ⟨⟨v11, rfl⟩, s42⟩
        exact ⟨⟨_, _, rfl⟩, s42⟩
    rintro σ H43 ⟨⟨v10, v11, rfl⟩, s43⟩
    exact rtail _ H43 a d n pA tA rA st du mA lsA v10 v11 nm pl tl rs ys hsub hann hperm fit lnr nnd npd ntd dud (S24.same s43) (s43 _ _ hdu24) (DaAll.same s43 dadu24) (s43 _ _ hn24) (s43 _ _ hp24) (s43 _ _ ht24) (Tabs.same TT24 s43) (D24.same s43) q
end
end K
set_option Elab.async false
set_option linter.all false
set_option maxRecDepth 100000
set_option maxHeartbeats 4000000
/-! The end: what is asked of the written part. -/
namespace K
open PySem PySem.Spec PyProof.Rows L2 Hk LamX
open PySem.W (ksFn)
theorem bad_eval {text : Str} {k : Nat} {p0 p1 p2 p3 p4 : Pos} (hl : (p2.endLine == p4.line) = true) (env : Env) : ∃ pl : Sem Bool, eval (.Call (.Attribute (.Call (.Name "super" p0) [] [] p1) "__init__" p2) [.Constant (.str text) k p3] [] p4) env = (do
      let ov ← attributeBase (.Call (.Name "super" p0) [] [] p1) "__init__" env (eval (.Call (.Name "super" p0) [] [] p1) env)
      standAt p2.atName
      let (f, first) ← holding [ov] (getMethod ov "__init__" pl)
      callWith p4 f first (backTo p4 (starEach [.Constant (.str text) k p3] env)) []) := by
  refine ⟨plainOf (.Call (.Name "super" p0) [] [] p1) env, ?_⟩
  rw [arm_eval_Call]
  congr 1
  funext ov
  congr 1
  funext _
  exact mcall_line rfl hl
end K
set_option Elab.async false
set_option linter.all false
set_option maxRecDepth 100000
set_option maxHeartbeats 4000000
/-! The end: all from what the top has left. -/
namespace K
open PySem PySem.Spec PyProof.Rows L2 Hk LamX
open PySem.W (ksFn)
theorem tabs_nil {H : Hp} {P : Addr} {q : Str} (h : H P = some (.tbl #[])) : Tabs [(P, q)] H := by
  intro p hp
  obtain rfl := List.mem_singleton.mp hp
  exact TabS.nil h
theorem all_mk {l : PySem.W.OpenLaw} {w : World} {K : PySem.W.Frag} {h : Heap} {mg : Str → Option Value} {fa CS CB CQ CR fB fQ cc PP fR fT fAR fC fD fN fX fP fEr fL fRf fLw fPa fWo fRe fLn fIt fCo fEq fAd fSu fW fAW fI : Addr}
    (X : K.In h) (G : h.Ns mainGlobals mg) (hfa : mg "law" = some (.ref fa)) (hPP : h.get? PP = some { cls := .none, data := .fields #[] })
    {oc_fR kV_fR dc_fR pm_fR cd_fR ct_fR : Value} {od_fR an_fR : Option Addr} {sl_fR : Array (Option Value)}
    {oc_fT kV_fT dc_fT pm_fT cd_fT ct_fT : Value} {od_fT an_fT : Option Addr} {sl_fT : Array (Option Value)}
    {oc_fAR kV_fAR dc_fAR pm_fAR cd_fAR ct_fAR : Value} {od_fAR an_fAR : Option Addr} {sl_fAR : Array (Option Value)}
    {oc_fC kV_fC dc_fC pm_fC cd_fC ct_fC : Value} {od_fC an_fC : Option Addr} {sl_fC : Array (Option Value)}
    {oc_fD kV_fD dc_fD pm_fD cd_fD ct_fD : Value} {od_fD an_fD : Option Addr} {sl_fD : Array (Option Value)}
    {oc_fN kV_fN dc_fN pm_fN cd_fN ct_fN : Value} {od_fN an_fN : Option Addr} {sl_fN : Array (Option Value)}
    {oc_fX kV_fX dc_fX pm_fX cd_fX ct_fX : Value} {od_fX an_fX : Option Addr} {sl_fX : Array (Option Value)}
    {oc_fP kV_fP dc_fP pm_fP cd_fP ct_fP : Value} {od_fP an_fP : Option Addr} {sl_fP : Array (Option Value)}
    {oc_fEr kV_fEr dc_fEr pm_fEr cd_fEr ct_fEr : Value} {od_fEr an_fEr : Option Addr} {sl_fEr : Array (Option Value)}
    {oc_fL kV_fL dc_fL pm_fL cd_fL ct_fL : Value} {od_fL an_fL : Option Addr} {sl_fL : Array (Option Value)}
    {oc_fRf kV_fRf dc_fRf pm_fRf cd_fRf ct_fRf : Value} {od_fRf an_fRf : Option Addr} {sl_fRf : Array (Option Value)}
    {oc_fLw kV_fLw dc_fLw pm_fLw cd_fLw ct_fLw : Value} {od_fLw an_fLw : Option Addr} {sl_fLw : Array (Option Value)}
    {oc_fPa kV_fPa dc_fPa pm_fPa cd_fPa ct_fPa : Value} {od_fPa an_fPa : Option Addr} {sl_fPa : Array (Option Value)}
    {oc_fWo kV_fWo dc_fWo pm_fWo cd_fWo ct_fWo : Value} {od_fWo an_fWo : Option Addr} {sl_fWo : Array (Option Value)}
    {oc_fRe kV_fRe dc_fRe pm_fRe cd_fRe ct_fRe : Value} {od_fRe an_fRe : Option Addr} {sl_fRe : Array (Option Value)}
    {oc_fLn kV_fLn dc_fLn pm_fLn cd_fLn ct_fLn : Value} {od_fLn an_fLn : Option Addr} {sl_fLn : Array (Option Value)}
    {oc_fIt kV_fIt dc_fIt pm_fIt cd_fIt ct_fIt : Value} {od_fIt an_fIt : Option Addr} {sl_fIt : Array (Option Value)}
    {oc_fCo kV_fCo dc_fCo pm_fCo cd_fCo ct_fCo : Value} {od_fCo an_fCo : Option Addr} {sl_fCo : Array (Option Value)}
    {oc_fEq kV_fEq dc_fEq pm_fEq cd_fEq ct_fEq : Value} {od_fEq an_fEq : Option Addr} {sl_fEq : Array (Option Value)}
    {oc_fAd kV_fAd dc_fAd pm_fAd cd_fAd ct_fAd : Value} {od_fAd an_fAd : Option Addr} {sl_fAd : Array (Option Value)}
    {oc_fSu kV_fSu dc_fSu pm_fSu cd_fSu ct_fSu : Value} {od_fSu an_fSu : Option Addr} {sl_fSu : Array (Option Value)}
    {oc_fW kV_fW dc_fW pm_fW cd_fW ct_fW : Value} {od_fW an_fW : Option Addr} {sl_fW : Array (Option Value)}
    {T_fW : Addr} {oT_fW : Value} {dT_fW : Option Addr} {nT_fW : Nat} {sT_fW : Array (Option Value)}
    {tk_fW : Tok}
    {oc_fAW kV_fAW dc_fAW pm_fAW cd_fAW ct_fAW : Value} {od_fAW an_fAW : Option Addr} {sl_fAW : Array (Option Value)}
    {T_fAW : Addr} {oT_fAW : Value} {dT_fAW : Option Addr} {nT_fAW : Nat} {sT_fAW : Array (Option Value)}
    {tk_fAW : Tok}
    {oc_fI kV_fI dc_fI pm_fI cd_fI ct_fI : Value} {od_fI an_fI : Option Addr} {sl_fI : Array (Option Value)}
    {T_fI : Addr} {oT_fI : Value} {dT_fI : Option Addr} {nT_fI : Nat} {sT_fI : Array (Option Value)}
    {T0 : Addr} {dT0 : Option Addr} {nT0 : Nat} {sT0 : Array (Option Value)}
    {v_list_add : Option Value}
    {v_list_radd : Option Value}
    {v_list_sub : Option Value}
    {v_list_rsub : Option Value}
    {v_tuple_add : Option Value}
    {v_tuple_radd : Option Value}
    {v_tuple_sub : Option Value}
    {v_tuple_rsub : Option Value}
    {nm_B q_B : Str} {N_B : Addr} {bs_B bm_B sub_B : List Value} {sn_B : List Str} {ab_B : Bool} {col_B : Option Bool} {dd_B : Option Addr} {m0_B m1_B m2_B m3_B m5_B : Option Value}
    {oc_fB kV_fB dc_fB pm_fB ct_fB : Value} {od_fB an_fB : Option Addr} {sl_fB : Array (Option Value)} {kc_fB : Nat} {cdB cB : Addr}
    {a1_B a2_B p0_B p1_B p2_B p3_B p4_B p5_B q1_B q2_B q3_B q4_B : Pos}
    {ccl_B : Value} {cdd_B : Option Addr} {ccs_B : Array (Option Value)}
    {xl_B : Value} {xd_B : Option Addr} {xs_B : Array (Option Value)} {xv_B : Array Value} {file_B : Str} {tf_B : Tok}
    {nm_Q q_Q : Str} {N_Q : Addr} {bs_Q bm_Q sub_Q : List Value} {sn_Q : List Str} {ab_Q : Bool} {col_Q : Option Bool} {dd_Q : Option Addr} {m0_Q m1_Q m2_Q m3_Q m5_Q : Option Value}
    {oc_fQ kV_fQ dc_fQ pm_fQ ct_fQ : Value} {od_fQ an_fQ : Option Addr} {sl_fQ : Array (Option Value)} {kc_fQ : Nat} {cdQ cQ : Addr}
    {a1_Q a2_Q p0_Q p1_Q p2_Q p3_Q p4_Q p5_Q q1_Q q2_Q q3_Q q4_Q : Pos}
    {ccl_Q : Value} {cdd_Q : Option Addr} {ccs_Q : Array (Option Value)}
    {xl_Q : Value} {xd_Q : Option Addr} {xs_Q : Array (Option Value)} {xv_Q : Array Value} {file_Q : Str} {tf_Q : Tok}
    (g_CR : PySem.W.nsIn K mainGlobals "RightError" = some (some (.ref CR)))
    (g_CB : PySem.W.nsIn K mainGlobals "BadState" = some (some (.ref CB)))
    (g_CQ : PySem.W.nsIn K mainGlobals "BadParty" = some (some (.ref CQ)))
    (g_CS : PySem.W.nsIn K mainGlobals "State" = some (some (.ref CS)))
    (g_fR : PySem.W.nsIn K mainGlobals "is_row" = some (some (.ref fR)))
    (l_fR : K.lookup fR = some ⟨oc_fR, od_fR, .func (PySem.W.fnOf "is_row" "is_row" (defArgs sIsRow) (defBody sIsRow) (defScope sIsRow) .none kV_fR dc_fR pm_fR an_fR cd_fR ct_fR), sl_fR⟩)
    (c_fR : PySem.W.codeIn K cd_fR "is_row" = true)
    (k_fR : PySem.W.keepIn K (.ref fR) = true)
    (g_fT : PySem.W.nsIn K mainGlobals "is_triple" = some (some (.ref fT)))
    (l_fT : K.lookup fT = some ⟨oc_fT, od_fT, .func (PySem.W.fnOf "is_triple" "is_triple" (defArgs sIsTriple) (defBody sIsTriple) (defScope sIsTriple) .none kV_fT dc_fT pm_fT an_fT cd_fT ct_fT), sl_fT⟩)
    (c_fT : PySem.W.codeIn K cd_fT "is_triple" = true)
    (k_fT : PySem.W.keepIn K (.ref fT) = true)
    (g_fAR : PySem.W.nsIn K mainGlobals "are_rights" = some (some (.ref fAR)))
    (l_fAR : K.lookup fAR = some ⟨oc_fAR, od_fAR, .func (PySem.W.fnOf "are_rights" "are_rights" (defArgs sAreRights) (defBody sAreRights) (defScope sAreRights) .none kV_fAR dc_fAR pm_fAR an_fAR cd_fAR ct_fAR), sl_fAR⟩)
    (c_fAR : PySem.W.codeIn K cd_fAR "are_rights" = true)
    (k_fAR : PySem.W.keepIn K (.ref fAR) = true)
    (g_fC : PySem.W.nsIn K mainGlobals "_law_cell_at" = some (some (.ref fC)))
    (l_fC : K.lookup fC = some ⟨oc_fC, od_fC, .func (PySem.W.fnOf "_law_cell_at" "_law_cell_at" (defArgs sCellAt) (defBody sCellAt) (defScope sCellAt) .none kV_fC dc_fC pm_fC an_fC cd_fC ct_fC), sl_fC⟩)
    (c_fC : PySem.W.codeIn K cd_fC "_law_cell_at" = true)
    (k_fC : PySem.W.keepIn K (.ref fC) = true)
    (g_fD : PySem.W.nsIn K mainGlobals "_law_draw" = some (some (.ref fD)))
    (l_fD : K.lookup fD = some ⟨oc_fD, od_fD, .func (PySem.W.fnOf "_law_draw" "_law_draw" (defArgs sDraw) (defBody sDraw) (defScope sDraw) .none kV_fD dc_fD pm_fD an_fD cd_fD ct_fD), sl_fD⟩)
    (c_fD : PySem.W.codeIn K cd_fD "_law_draw" = true)
    (k_fD : PySem.W.keepIn K (.ref fD) = true)
    (g_fN : PySem.W.nsIn K mainGlobals "_law_number" = some (some (.ref fN)))
    (l_fN : K.lookup fN = some ⟨oc_fN, od_fN, .func (PySem.W.fnOf "_law_number" "_law_number" (defArgs sNumber) (defBody sNumber) (defScope sNumber) .none kV_fN dc_fN pm_fN an_fN cd_fN ct_fN), sl_fN⟩)
    (c_fN : PySem.W.codeIn K cd_fN "_law_number" = true)
    (k_fN : PySem.W.keepIn K (.ref fN) = true)
    (g_fX : PySem.W.nsIn K mainGlobals "_law_next" = some (some (.ref fX)))
    (l_fX : K.lookup fX = some ⟨oc_fX, od_fX, .func (PySem.W.fnOf "_law_next" "_law_next" (defArgs sNext) (defBody sNext) (defScope sNext) .none kV_fX dc_fX pm_fX an_fX cd_fX ct_fX), sl_fX⟩)
    (c_fX : PySem.W.codeIn K cd_fX "_law_next" = true)
    (k_fX : PySem.W.keepIn K (.ref fX) = true)
    (g_fP : PySem.W.nsIn K mainGlobals "_law_pick" = some (some (.ref fP)))
    (l_fP : K.lookup fP = some ⟨oc_fP, od_fP, .func (PySem.W.fnOf "_law_pick" "_law_pick" (defArgs sPick) (defBody sPick) (defScope sPick) .none kV_fP dc_fP pm_fP an_fP cd_fP ct_fP), sl_fP⟩)
    (c_fP : PySem.W.codeIn K cd_fP "_law_pick" = true)
    (k_fP : PySem.W.keepIn K (.ref fP) = true)
    (g_fEr : PySem.W.nsIn K mainGlobals "_law_error" = some (some (.ref fEr)))
    (l_fEr : K.lookup fEr = some ⟨oc_fEr, od_fEr, .func (PySem.W.fnOf "_law_error" "_law_error" (defArgs sError) (defBody sError) (defScope sError) .none kV_fEr dc_fEr pm_fEr an_fEr cd_fEr ct_fEr), sl_fEr⟩)
    (c_fEr : PySem.W.codeIn K cd_fEr "_law_error" = true)
    (k_fEr : PySem.W.keepIn K (.ref fEr) = true)
    (g_fL : PySem.W.nsIn K mainGlobals "_law_rights" = some (some (.ref fL)))
    (l_fL : K.lookup fL = some ⟨oc_fL, od_fL, .func (PySem.W.fnOf "_law_rights" "_law_rights" (defArgs sRights) (defBody sRights) (defScope sRights) .none kV_fL dc_fL pm_fL an_fL cd_fL ct_fL), sl_fL⟩)
    (c_fL : PySem.W.codeIn K cd_fL "_law_rights" = true)
    (k_fL : PySem.W.keepIn K (.ref fL) = true)
    (g_fRf : PySem.W.nsIn K mainGlobals "_law_refused_right" = some (some (.ref fRf)))
    (l_fRf : K.lookup fRf = some ⟨oc_fRf, od_fRf, .func (PySem.W.fnOf "_law_refused_right" "_law_refused_right" (defArgs sRefused) (defBody sRefused) (defScope sRefused) .none kV_fRf dc_fRf pm_fRf an_fRf cd_fRf ct_fRf), sl_fRf⟩)
    (c_fRf : PySem.W.codeIn K cd_fRf "_law_refused_right" = true)
    (k_fRf : PySem.W.keepIn K (.ref fRf) = true)
    (g_fLw : PySem.W.nsIn K mainGlobals "law" = some (some (.ref fLw)))
    (l_fLw : K.lookup fLw = some ⟨oc_fLw, od_fLw, .func (PySem.W.fnOf "law" "law" (defArgs sLaw) (defBody sLaw) (defScope sLaw) .none kV_fLw dc_fLw pm_fLw an_fLw cd_fLw ct_fLw), sl_fLw⟩)
    (c_fLw : PySem.W.codeIn K cd_fLw "law" = true)
    (k_fLw : PySem.W.keepIn K (.ref fLw) = true)
    (a_fPa : PySem.W.findIn K (.ref CS) "parties" = some (some (.ref fPa)))
    (i_fPa : PySem.W.isFn K (.ref fPa) = true)
    (l_fPa : K.lookup fPa = some ⟨oc_fPa, od_fPa, .func (PySem.W.fnOf "parties" "State.parties" (defArgs sParties) (defBody sParties) (defScope sParties) .none kV_fPa dc_fPa pm_fPa an_fPa cd_fPa ct_fPa), sl_fPa⟩)
    (c_fPa : PySem.W.codeIn K cd_fPa "State.parties" = true)
    (k_fPa : PySem.W.keepIn K (.ref fPa) = true)
    (a_fWo : PySem.W.findIn K (.ref CS) "words" = some (some (.ref fWo)))
    (i_fWo : PySem.W.isFn K (.ref fWo) = true)
    (l_fWo : K.lookup fWo = some ⟨oc_fWo, od_fWo, .func (PySem.W.fnOf "words" "State.words" (defArgs sWords) (defBody sWords) (defScope sWords) .none kV_fWo dc_fWo pm_fWo an_fWo cd_fWo ct_fWo), sl_fWo⟩)
    (c_fWo : PySem.W.codeIn K cd_fWo "State.words" = true)
    (k_fWo : PySem.W.keepIn K (.ref fWo) = true)
    (a_fRe : PySem.W.findIn K (.ref CS) "renamed" = some (some (.ref fRe)))
    (i_fRe : PySem.W.isFn K (.ref fRe) = true)
    (l_fRe : K.lookup fRe = some ⟨oc_fRe, od_fRe, .func (PySem.W.fnOf "renamed" "State.renamed" (defArgs sRenamed) (defBody sRenamed) (defScope sRenamed) .none kV_fRe dc_fRe pm_fRe an_fRe cd_fRe ct_fRe), sl_fRe⟩)
    (c_fRe : PySem.W.codeIn K cd_fRe "State.renamed" = true)
    (k_fRe : PySem.W.keepIn K (.ref fRe) = true)
    (a_fLn : PySem.W.findIn K (.ref CS) "__len__" = some (some (.ref fLn)))
    (i_fLn : PySem.W.isFn K (.ref fLn) = true)
    (l_fLn : K.lookup fLn = some ⟨oc_fLn, od_fLn, .func (PySem.W.fnOf "__len__" "State.__len__" (defArgs sLen) (defBody sLen) (defScope sLen) .none kV_fLn dc_fLn pm_fLn an_fLn cd_fLn ct_fLn), sl_fLn⟩)
    (c_fLn : PySem.W.codeIn K cd_fLn "State.__len__" = true)
    (k_fLn : PySem.W.keepIn K (.ref fLn) = true)
    (a_fIt : PySem.W.findIn K (.ref CS) "__iter__" = some (some (.ref fIt)))
    (i_fIt : PySem.W.isFn K (.ref fIt) = true)
    (l_fIt : K.lookup fIt = some ⟨oc_fIt, od_fIt, .func (PySem.W.fnOf "__iter__" "State.__iter__" (defArgs sIter) (defBody sIter) (defScope sIter) .none kV_fIt dc_fIt pm_fIt an_fIt cd_fIt ct_fIt), sl_fIt⟩)
    (c_fIt : PySem.W.codeIn K cd_fIt "State.__iter__" = true)
    (k_fIt : PySem.W.keepIn K (.ref fIt) = true)
    (a_fCo : PySem.W.findIn K (.ref CS) "__contains__" = some (some (.ref fCo)))
    (i_fCo : PySem.W.isFn K (.ref fCo) = true)
    (l_fCo : K.lookup fCo = some ⟨oc_fCo, od_fCo, .func (PySem.W.fnOf "__contains__" "State.__contains__" (defArgs sContains) (defBody sContains) (defScope sContains) .none kV_fCo dc_fCo pm_fCo an_fCo cd_fCo ct_fCo), sl_fCo⟩)
    (c_fCo : PySem.W.codeIn K cd_fCo "State.__contains__" = true)
    (k_fCo : PySem.W.keepIn K (.ref fCo) = true)
    (a_fEq : PySem.W.findIn K (.ref CS) "__eq__" = some (some (.ref fEq)))
    (i_fEq : PySem.W.isFn K (.ref fEq) = true)
    (l_fEq : K.lookup fEq = some ⟨oc_fEq, od_fEq, .func (PySem.W.fnOf "__eq__" "State.__eq__" (defArgs sEq) (defBody sEq) (defScope sEq) .none kV_fEq dc_fEq pm_fEq an_fEq cd_fEq ct_fEq), sl_fEq⟩)
    (c_fEq : PySem.W.codeIn K cd_fEq "State.__eq__" = true)
    (k_fEq : PySem.W.keepIn K (.ref fEq) = true)
    (a_fAd : PySem.W.findIn K (.ref CS) "__add__" = some (some (.ref fAd)))
    (i_fAd : PySem.W.isFn K (.ref fAd) = true)
    (l_fAd : K.lookup fAd = some ⟨oc_fAd, od_fAd, .func (PySem.W.fnOf "__add__" "State.__add__" (defArgs sAdd) (defBody sAdd) (defScope sAdd) .none kV_fAd dc_fAd pm_fAd an_fAd cd_fAd ct_fAd), sl_fAd⟩)
    (c_fAd : PySem.W.codeIn K cd_fAd "State.__add__" = true)
    (k_fAd : PySem.W.keepIn K (.ref fAd) = true)
    (a_fSu : PySem.W.findIn K (.ref CS) "__sub__" = some (some (.ref fSu)))
    (i_fSu : PySem.W.isFn K (.ref fSu) = true)
    (l_fSu : K.lookup fSu = some ⟨oc_fSu, od_fSu, .func (PySem.W.fnOf "__sub__" "State.__sub__" (defArgs sSub) (defBody sSub) (defScope sSub) .none kV_fSu dc_fSu pm_fSu an_fSu cd_fSu ct_fSu), sl_fSu⟩)
    (c_fSu : PySem.W.codeIn K cd_fSu "State.__sub__" = true)
    (k_fSu : PySem.W.keepIn K (.ref fSu) = true)
    (g_fW : PySem.W.nsIn K mainGlobals "is_word" = some (some (.ref fW)))
    (l_fW : K.lookup fW = some ⟨oc_fW, od_fW, .func (PySem.W.fnOf "is_word" "is_word" (defArgs sIsWord) (defBody sIsWord) (defScope sIsWord) (.ref T_fW) kV_fW dc_fW pm_fW an_fW cd_fW ct_fW), sl_fW⟩)
    (c_fW : PySem.W.codeIn K cd_fW "is_word" = true)
    (k_fW : PySem.W.keepIn K (.ref fW) = true)
    (t_fW : K.lookup T_fW = some ⟨oT_fW, dT_fW, .seq (List.toArray [.int 8 tk_fW]) nT_fW, sT_fW⟩)
    (g_fAW : PySem.W.nsIn K mainGlobals "are_words" = some (some (.ref fAW)))
    (l_fAW : K.lookup fAW = some ⟨oc_fAW, od_fAW, .func (PySem.W.fnOf "are_words" "are_words" (defArgs sAreWords) (defBody sAreWords) (defScope sAreWords) (.ref T_fAW) kV_fAW dc_fAW pm_fAW an_fAW cd_fAW ct_fAW), sl_fAW⟩)
    (c_fAW : PySem.W.codeIn K cd_fAW "are_words" = true)
    (k_fAW : PySem.W.keepIn K (.ref fAW) = true)
    (t_fAW : K.lookup T_fAW = some ⟨oT_fAW, dT_fAW, .seq (List.toArray [.int 8 tk_fAW]) nT_fAW, sT_fAW⟩)
    (a_fI : PySem.W.findIn K (.ref CS) "__init__" = some (some (.ref fI)))
    (i_fI : PySem.W.isFn K (.ref fI) = true)
    (l_fI : K.lookup fI = some ⟨oc_fI, od_fI, .func (PySem.W.fnOf "__init__" "State.__init__" (defArgs sInit) (defBody sInit) (defScope sInit) (.ref T_fI) kV_fI dc_fI pm_fI an_fI cd_fI ct_fI), sl_fI⟩)
    (c_fI : PySem.W.codeIn K cd_fI "State.__init__" = true)
    (k_fI : PySem.W.keepIn K (.ref fI) = true)
    (t_fI : K.lookup T_fI = some ⟨oT_fI, dT_fI, .seq (List.toArray [.ref T0]) nT_fI, sT_fI⟩)
    (t_T0 : K.lookup T0 = some ⟨.type "tuple", dT0, .seq (List.toArray []) nT0, sT0⟩)
    (z_len : PySem.W.nsIn K mainGlobals "len" = some none)
    (z_int : PySem.W.nsIn K mainGlobals "int" = some none)
    (z_range : PySem.W.nsIn K mainGlobals "range" = some none)
    (z_isinstance : PySem.W.nsIn K mainGlobals "isinstance" = some none)
    (z_list : PySem.W.nsIn K mainGlobals "list" = some none)
    (z_tuple : PySem.W.nsIn K mainGlobals "tuple" = some none)
    (z_str : PySem.W.nsIn K mainGlobals "str" = some none)
    (z_dict : PySem.W.nsIn K mainGlobals "dict" = some none)
    (z_set : PySem.W.nsIn K mainGlobals "set" = some none)
    (z_all : PySem.W.nsIn K mainGlobals "all" = some none)
    (z_any : PySem.W.nsIn K mainGlobals "any" = some none)
    (z_sorted : PySem.W.nsIn K mainGlobals "sorted" = some none)
    (z_iter : PySem.W.nsIn K mainGlobals "iter" = some none)
    (z_super : PySem.W.nsIn K mainGlobals "super" = some none)
    (s_pg : PySem.W.plainGet K CS Str.empty = true)
    (s_hd : PySem.W.hasDictIn K CS = true)
    (s_po : PySem.W.plainOver K CS = true)
    (s_sa : PySem.W.findIn K (.ref CS) "__setattr__" = some (some (.builtin "object.__setattr__")))
    (s_mk : PySem.W.makesIn K CS = true)
    (s_kp : PySem.W.keepIn K (.ref CS) = true)
    (s_npeople : PySem.W.findIn K (.ref CS) "people" = some none)
    (s_nthings : PySem.W.findIn K (.ref CS) "things" = some none)
    (s_nrights : PySem.W.findIn K (.ref CS) "rights" = some none)
    (s_ha : PySem.W.findIn K (.ref CS) "__class__" = some (some (.builtin "object.__class__")))
    (o_hn : PySem.W.specialIn K (.builtin "object.__class__") "__get__" = some (some (.builtin "getset_descriptor.__get__")))
    (o_tk : PySem.W.takesIn K (.builtin "object.__class__") = some true)
    (s_hm : PySem.W.mroIn K CS (.type "object") = some true)
    (s_ne : PySem.W.findIn K (.ref CS) "__ne__" = some (some (.builtin "object.__ne__")))
    (s_sf : PySem.W.selfFirst K CS = true)
    (s_ra : PySem.W.findIn K (.ref CS) "__radd__" = some none)
    (s_rs : PySem.W.findIn K (.ref CS) "__rsub__" = some none)
    (r_list_add : PySem.W.findIn K (.type "list") "__add__" = some v_list_add)
    (r_list_radd : PySem.W.findIn K (.type "list") "__radd__" = some v_list_radd)
    (r_list_sub : PySem.W.findIn K (.type "list") "__sub__" = some v_list_sub)
    (r_list_rsub : PySem.W.findIn K (.type "list") "__rsub__" = some v_list_rsub)
    (u_list : PySem.W.subIn K (.type "list") (.ref CS) = some false)
    (r_tuple_add : PySem.W.findIn K (.type "tuple") "__add__" = some v_tuple_add)
    (r_tuple_radd : PySem.W.findIn K (.type "tuple") "__radd__" = some v_tuple_radd)
    (r_tuple_sub : PySem.W.findIn K (.type "tuple") "__sub__" = some v_tuple_sub)
    (r_tuple_rsub : PySem.W.findIn K (.type "tuple") "__rsub__" = some v_tuple_rsub)
    (u_tuple : PySem.W.subIn K (.type "tuple") (.ref CS) = some false)
    (e_B : PySem.W.exmOne K (.ref CB) (.ref CR) = some true)
    (e_Q : PySem.W.exmOne K (.ref CQ) (.ref CR) = some true)
    (y_BQ : PySem.W.kitOne K (.ref CB) (.ref CQ) = some false)
    (y_QB : PySem.W.kitOne K (.ref CQ) (.ref CB) = some false)
    (o_ho : PySem.W.nsIn K cStatics "thirdparty.any" = some none)
    (x_gaB : PySem.W.findIn K (.ref CB) "__getattribute__" = some (some (.builtin "BaseException.__getattribute__")))
    (x_ggB : PySem.W.findIn K (.ref CB) "__getattr__" = some none)
    (x_exB : PySem.W.subIn K (.ref CB) (.type "BaseException") = some true)
    (x_hdB : PySem.W.hasDictIn K CB = true)
    (x_noB : PySem.W.findIn K (.ref CB) "part" = some none)
    (x_haB : PySem.W.findIn K (.ref CB) "__class__" = some (some (.builtin "object.__class__")))
    (x_hmB : PySem.W.mroIn K CB (.type "object") = some true)
    (x_clB : K.lookup CB = some (excClassObj nm_B q_B CB N_B bs_B bm_B true sn_B sub_B ab_B col_B dd_B m0_B m1_B m2_B m3_B m5_B "ValueError.__new__"))
    (x_bmB : PySem.HandSPX.refsVE bm_B = true)
    (x_saB : PySem.W.findIn K (.ref CB) "__setattr__" = some (some (.builtin "object.__setattr__")))
    (x_tyB : PySem.W.typeIn K (.ref CB) = some (.type "type"))
    (x_kpB : PySem.W.keepIn K (.ref CB) = true)
    (x_inB : PySem.W.findIn K (.ref CB) "__init__" = some (some (.ref fB)))
    (x_tiB : PySem.W.typeIn K (.ref fB) = some (.type "function"))
    (x_suB : PySem.W.ks_superIn K CB CB "__init__" = some (some (.builtin "ValueError.__init__")))
    (x_svB : PySem.W.subIn K (.ref CB) (.type "ValueError") = some true)
    (x_mrB : PySem.W.mroIn K CB (.ref CB) = some true)
    (x_fnB : K.lookup fB = some ⟨oc_fB, od_fB, .func (ksFn "__init__" "BadState.__init__" (bA "part" a1_B a2_B) (bB "part" "this is no state" kc_fB p0_B p1_B p2_B p3_B p4_B p5_B q1_B q2_B q3_B q4_B) (bS "part") .none kV_fB dc_fB pm_fB an_fB (.ref cdB) ct_fB cB), sl_fB⟩)
    (x_ciB : PySem.W.codeIn K (.ref cdB) "BadState.__init__" = true)
    (x_lnB : (p2_B.endLine == p4_B.line) = true)
    (x_ceB : K.lookup cB = some ⟨ccl_B, cdd_B, .cell (some (.ref CB)), ccs_B⟩)
    (x_coB : K.lookup cdB = some ⟨xl_B, xd_B, .fields xv_B, xs_B⟩)
    (x_c2B : xv_B[2]? = some (.str file_B tf_B))
    (x_cfB : (l.prog.main.file == file_B) = true)
    (x_gaQ : PySem.W.findIn K (.ref CQ) "__getattribute__" = some (some (.builtin "BaseException.__getattribute__")))
    (x_ggQ : PySem.W.findIn K (.ref CQ) "__getattr__" = some none)
    (x_exQ : PySem.W.subIn K (.ref CQ) (.type "BaseException") = some true)
    (x_hdQ : PySem.W.hasDictIn K CQ = true)
    (x_noQ : PySem.W.findIn K (.ref CQ) "name" = some none)
    (x_haQ : PySem.W.findIn K (.ref CQ) "__class__" = some (some (.builtin "object.__class__")))
    (x_hmQ : PySem.W.mroIn K CQ (.type "object") = some true)
    (x_clQ : K.lookup CQ = some (excClassObj nm_Q q_Q CQ N_Q bs_Q bm_Q true sn_Q sub_Q ab_Q col_Q dd_Q m0_Q m1_Q m2_Q m3_Q m5_Q "ValueError.__new__"))
    (x_bmQ : PySem.HandSPX.refsVE bm_Q = true)
    (x_saQ : PySem.W.findIn K (.ref CQ) "__setattr__" = some (some (.builtin "object.__setattr__")))
    (x_tyQ : PySem.W.typeIn K (.ref CQ) = some (.type "type"))
    (x_kpQ : PySem.W.keepIn K (.ref CQ) = true)
    (x_inQ : PySem.W.findIn K (.ref CQ) "__init__" = some (some (.ref fQ)))
    (x_tiQ : PySem.W.typeIn K (.ref fQ) = some (.type "function"))
    (x_suQ : PySem.W.ks_superIn K CQ CQ "__init__" = some (some (.builtin "ValueError.__init__")))
    (x_svQ : PySem.W.subIn K (.ref CQ) (.type "ValueError") = some true)
    (x_mrQ : PySem.W.mroIn K CQ (.ref CQ) = some true)
    (x_fnQ : K.lookup fQ = some ⟨oc_fQ, od_fQ, .func (ksFn "__init__" "BadParty.__init__" (bA "name" a1_Q a2_Q) (bB "name" "this is no such party" kc_fQ p0_Q p1_Q p2_Q p3_Q p4_Q p5_Q q1_Q q2_Q q3_Q q4_Q) (bS "name") .none kV_fQ dc_fQ pm_fQ an_fQ (.ref cdQ) ct_fQ cQ), sl_fQ⟩)
    (x_ciQ : PySem.W.codeIn K (.ref cdQ) "BadParty.__init__" = true)
    (x_lnQ : (p2_Q.endLine == p4_Q.line) = true)
    (x_ceQ : K.lookup cQ = some ⟨ccl_Q, cdd_Q, .cell (some (.ref CQ)), ccs_Q⟩)
    (x_coQ : K.lookup cdQ = some ⟨xl_Q, xd_Q, .fields xv_Q, xs_Q⟩)
    (x_c2Q : xv_Q[2]? = some (.str file_Q tf_Q))
    (x_cfQ : (l.prog.main.file == file_Q) = true)
    (z_top : (l.prog.main.scope.names.lookup ("super" : Str)).isSome = false)
    (t_cd : cd_fRf = .ref cc)
    (t_hd : PySem.W.codeHdIn K cc PP = true)
    (t_no : K.lookup PP = none) : LawAtS l w K CX0 10 63 "script" mg fa h := by
  have e := hfa.symm.trans (PySem.W.mg_of X G g_fLw)
  cases e
  have F_fR := fun_mk (st := sIsRow) l_fR c_fR k_fR
  have b_fR := F_fR.binds (ps := ["value"]) fun _ _ _ _ _ _ us hl => match us, hl with | [_], _ => rfl
  have F_fT := fun_mk (st := sIsTriple) l_fT c_fT k_fT
  have b_fT := F_fT.binds (ps := ["value"]) fun _ _ _ _ _ _ us hl => match us, hl with | [_], _ => rfl
  have F_fAR := fun_mk (st := sAreRights) l_fAR c_fAR k_fAR
  have b_fAR := F_fAR.binds (ps := ["value", "names"]) fun _ _ _ _ _ _ us hl => match us, hl with | [_, _], _ => rfl
  have F_fC := fun_mk (st := sCellAt) l_fC c_fC k_fC
  have b_fC := F_fC.binds (ps := ["script", "k"]) fun _ _ _ _ _ _ us hl => match us, hl with | [_, _], _ => rfl
  have F_fD := fun_mk (st := sDraw) l_fD c_fD k_fD
  have b_fD := F_fD.binds (ps := ["cell", "k", "bound"]) fun _ _ _ _ _ _ us hl => match us, hl with | [_, _, _], _ => rfl
  have F_fN := fun_mk (st := sNumber) l_fN c_fN k_fN
  have b_fN := F_fN.binds (ps := ["cell", "k", "bound"]) fun _ _ _ _ _ _ us hl => match us, hl with | [_, _, _], _ => rfl
  have F_fX := fun_mk (st := sNext) l_fX c_fX k_fX
  have b_fX := F_fX.binds (ps := ["draw", "bound"]) fun _ _ _ _ _ _ us hl => match us, hl with | [_, _], _ => rfl
  have F_fP := fun_mk (st := sPick) l_fP c_fP k_fP
  have b_fP := F_fP.binds (ps := ["draw", "things"]) fun _ _ _ _ _ _ us hl => match us, hl with | [_, _], _ => rfl
  have F_fEr := fun_mk (st := sError) l_fEr c_fEr k_fEr
  have b_fEr := F_fEr.binds (ps := ["call"]) fun _ _ _ _ _ _ us hl => match us, hl with | [_], _ => rfl
  have F_fL := fun_mk (st := sRights) l_fL c_fL k_fL
  have b_fL := F_fL.binds (ps := ["draw", "names"]) fun _ _ _ _ _ _ us hl => match us, hl with | [_, _], _ => rfl
  have F_fRf := fun_mk (st := sRefused) l_fRf c_fRf k_fRf
  have b_fRf := F_fRf.binds (ps := ["draw", "state"]) fun _ _ _ _ _ _ us hl => match us, hl with | [_, _], _ => rfl
  have F_fLw := fun_mk (st := sLaw) l_fLw c_fLw k_fLw
  have b_fLw := F_fLw.binds (ps := ["script"]) fun _ _ _ _ _ _ us hl => match us, hl with | [_], _ => rfl
  have F_fPa := fun_mk (st := sParties) l_fPa c_fPa k_fPa
  have b_fPa := F_fPa.binds (ps := ["self"]) fun _ _ _ _ _ _ us hl => match us, hl with | [_], _ => rfl
  have F_fWo := fun_mk (st := sWords) l_fWo c_fWo k_fWo
  have b_fWo := F_fWo.binds (ps := ["self", "one", "other"]) fun _ _ _ _ _ _ us hl => match us, hl with | [_, _, _], _ => rfl
  have F_fRe := fun_mk (st := sRenamed) l_fRe c_fRe k_fRe
  have b_fRe := F_fRe.binds (ps := ["self", "names"]) fun _ _ _ _ _ _ us hl => match us, hl with | [_, _], _ => rfl
  have F_fLn := fun_mk (st := sLen) l_fLn c_fLn k_fLn
  have b_fLn := F_fLn.binds (ps := ["self"]) fun _ _ _ _ _ _ us hl => match us, hl with | [_], _ => rfl
  have F_fIt := fun_mk (st := sIter) l_fIt c_fIt k_fIt
  have b_fIt := F_fIt.binds (ps := ["self"]) fun _ _ _ _ _ _ us hl => match us, hl with | [_], _ => rfl
  have F_fCo := fun_mk (st := sContains) l_fCo c_fCo k_fCo
  have b_fCo := F_fCo.binds (ps := ["self", "right"]) fun _ _ _ _ _ _ us hl => match us, hl with | [_, _], _ => rfl
  have F_fEq := fun_mk (st := sEq) l_fEq c_fEq k_fEq
  have b_fEq := F_fEq.binds (ps := ["self", "other"]) fun _ _ _ _ _ _ us hl => match us, hl with | [_, _], _ => rfl
  have F_fAd := fun_mk (st := sAdd) l_fAd c_fAd k_fAd
  have b_fAd := F_fAd.binds (ps := ["self", "rights"]) fun _ _ _ _ _ _ us hl => match us, hl with | [_, _], _ => rfl
  have F_fSu := fun_mk (st := sSub) l_fSu c_fSu k_fSu
  have b_fSu := F_fSu.binds (ps := ["self", "rights"]) fun _ _ _ _ _ _ us hl => match us, hl with | [_, _], _ => rfl
  have F_fW : FunD K "is_word" "is_word" (defArgs sIsWord) (defBody sIsWord) (defScope sIsWord) [.int 8] [] fW _ := ⟨⟨_, _, _, _, _, _, _, _, _, _, rfl, l_fW, c_fW, .inr ⟨by simp, T_fW, _, [.int 8 tk_fW], _, rfl, t_fW, rfl, .cons ⟨_, rfl⟩ .nil⟩, .inl rfl⟩, k_fW⟩
  obtain ⟨d0_fW, v0_fW, b_fW⟩ := F_fW.binds1 (ps := ["value", "longest"]) 2 1 (by simp) rfl fun T kV doc pm an cdv ct us its l1 l2 => match us, its, l1, l2 with | [_, _], [_], _, _ => ⟨_, rfl, rfl⟩
  cases v0_fW
  obtain ⟨d1_fW, v1_fW, b1_fW⟩ := F_fW.binds1 (ps := ["value", "longest"]) 1 0 (by simp) rfl fun T kV doc pm an cdv ct us its l1 l2 => match us, its, l1, l2 with | [_], [_], _, _ => ⟨_, rfl, rfl⟩
  have F_fAW : FunD K "are_words" "are_words" (defArgs sAreWords) (defBody sAreWords) (defScope sAreWords) [.int 8] [] fAW _ := ⟨⟨_, _, _, _, _, _, _, _, _, _, rfl, l_fAW, c_fAW, .inr ⟨by simp, T_fAW, _, [.int 8 tk_fAW], _, rfl, t_fAW, rfl, .cons ⟨_, rfl⟩ .nil⟩, .inl rfl⟩, k_fAW⟩
  obtain ⟨d0_fAW, v0_fAW, b_fAW⟩ := F_fAW.binds1 (ps := ["value", "longest"]) 2 1 (by simp) rfl fun T kV doc pm an cdv ct us its l1 l2 => match us, its, l1, l2 with | [_, _], [_], _, _ => ⟨_, rfl, rfl⟩
  cases v0_fAW
  obtain ⟨d1_fAW, v1_fAW, b1_fAW⟩ := F_fAW.binds1 (ps := ["value", "longest"]) 1 0 (by simp) rfl fun T kV doc pm an cdv ct us its l1 l2 => match us, its, l1, l2 with | [_], [_], _, _ => ⟨_, rfl, rfl⟩
  have F_fI : FunD K "__init__" "State.__init__" (defArgs sInit) (defBody sInit) (defScope sInit) [.ref T0] [] fI _ := ⟨⟨_, _, _, _, _, _, _, _, _, _, rfl, l_fI, c_fI, .inr ⟨by simp, T_fI, _, [.ref T0], _, rfl, t_fI, rfl, .cons rfl .nil⟩, .inl rfl⟩, k_fI⟩
  obtain ⟨d0_fI, v0_fI, b_fI⟩ := F_fI.binds1 (ps := ["self", "people", "things", "rights"]) 4 1 (by simp) rfl fun T kV doc pm an cdv ct us its l1 l2 => match us, its, l1, l2 with | [_, _, _, _], [_], _, _ => ⟨_, rfl, rfl⟩
  cases v0_fI
  obtain ⟨d1_fI, v1_fI, b1_fI⟩ := F_fI.binds1 (ps := ["self", "people", "things", "rights"]) 3 0 (by simp) rfl fun T kV doc pm an cdv ct us its l1 l2 => match us, its, l1, l2 with | [_, _, _], [_], _, _ => ⟨_, rfl, rfl⟩
  have TF : TxtF mg := ⟨PySem.W.mg_none_of X G z_len, PySem.W.mg_none_of X G z_isinstance, PySem.W.mg_none_of X G z_list, PySem.W.mg_none_of X G z_tuple, PySem.W.mg_none_of X G z_str, PySem.W.mg_none_of X G z_dict, PySem.W.mg_none_of X G z_set, PySem.W.mg_none_of X G z_all, PySem.W.mg_none_of X G z_any, PySem.W.mg_none_of X G z_sorted, PySem.W.mg_none_of X G z_iter⟩
  have TW : TxtW K mg fR fW := ⟨TF, PySem.W.mg_of X G g_fR, PySem.W.mg_of X G g_fW, k_fR, k_fW⟩
  have TR : TxtR K mg fR fW fT := ⟨TW, PySem.W.mg_of X G g_fT, k_fT⟩
  have bad_B : BadTxt l.prog K mg CB fB cB cdB "part" "this is no state" "BadState.__init__" _ := { oex := { cls := ⟨_, _, _, _, _, _, _, _, _, _, _, _, _, _, _, x_clB, x_bmB⟩, sa := x_saB, exC := x_exB, tyC := x_tyB, kC := x_kpB }, noN := x_noB, iC := x_inB, tI := x_tiB, ho := o_ho, sup := x_suB, subV := x_svB, mro := x_mrB, noSuper := PySem.W.mg_none_of X G z_super, top := z_top, cell := ⟨_, _, _, x_ceB⟩, code := ⟨_, _, _, _, _, _, x_coB, x_c2B, x_cfB⟩, fn := ⟨_, _, _, _, _, _, _, _, _, _, _, _, _, _, _, _, _, _, _, _, _, _, rfl, x_fnB, x_ciB, fun env _ => bad_eval x_lnB env⟩ }
  have bb_B : Binds K _ ["self", "part"] [] := .all (fd := ksFn "__init__" "BadState.__init__" (bA "part" a1_B a2_B) (bB "part" "this is no state" kc_fB p0_B p1_B p2_B p3_B p4_B p5_B q1_B q2_B q3_B q4_B) (bS "part") .none kV_fB dc_fB pm_fB an_fB (.ref cdB) ct_fB cB) fun us hl => match us, hl with | [_, _], _ => rfl
  have bad_Q : BadTxt l.prog K mg CQ fQ cQ cdQ "name" "this is no such party" "BadParty.__init__" _ := { oex := { cls := ⟨_, _, _, _, _, _, _, _, _, _, _, _, _, _, _, x_clQ, x_bmQ⟩, sa := x_saQ, exC := x_exQ, tyC := x_tyQ, kC := x_kpQ }, noN := x_noQ, iC := x_inQ, tI := x_tiQ, ho := o_ho, sup := x_suQ, subV := x_svQ, mro := x_mrQ, noSuper := PySem.W.mg_none_of X G z_super, top := z_top, cell := ⟨_, _, _, x_ceQ⟩, code := ⟨_, _, _, _, _, _, x_coQ, x_c2Q, x_cfQ⟩, fn := ⟨_, _, _, _, _, _, _, _, _, _, _, _, _, _, _, _, _, _, _, _, _, _, rfl, x_fnQ, x_ciQ, fun env _ => bad_eval x_lnQ env⟩ }
  have bb_Q : Binds K _ ["self", "name"] [] := .all (fd := ksFn "__init__" "BadParty.__init__" (bA "name" a1_Q a2_Q) (bB "name" "this is no such party" kc_fQ p0_Q p1_Q p2_Q p3_Q p4_Q p5_Q q1_Q q2_Q q3_Q q4_Q) (bS "name") .none kV_fQ dc_fQ pm_fQ an_fQ (.ref cdQ) ct_fQ cQ) fun us hl => match us, hl with | [_, _], _ => rfl
  have TS : TxtS l.prog K mg fR fW fT fAW fAR CS CB fB cB cdB _ := { r := TR, gAW := PySem.W.mg_of X G g_fAW, kAW := k_fAW, gAR := PySem.W.mg_of X G g_fAR, kAR := k_fAR, cl := ⟨s_pg, s_hd, s_po, s_sa⟩, nP := s_npeople, nT := s_nthings, nR := s_nrights, gS := PySem.W.mg_of X G g_CS, gB := PySem.W.mg_of X G g_CB, B := bad_B, bB := bb_B }
  have TQ : TxtQ l.prog K mg CQ fQ cQ cdQ _ := { gQ := PySem.W.mg_of X G g_CQ, B := bad_Q, bB := bb_Q }
  have xc_B : ExcC K CB := ⟨x_gaB, x_ggB, x_exB, x_hdB, x_haB, o_hn, o_tk, x_hmB⟩
  have xc_Q : ExcC K CQ := ⟨x_gaQ, x_ggQ, x_exQ, x_hdQ, x_haQ, o_hn, o_tk, x_hmQ⟩
  have TE : TxtE K mg CR CB CQ := ⟨PySem.W.mg_none_of X G z_isinstance, PySem.W.mg_of X G g_CR, PySem.W.mg_of X G g_CB, PySem.W.mg_of X G g_CQ, e_B, e_Q, ⟨x_gaB, x_ggB, x_exB, x_hdB⟩, ⟨x_gaQ, x_ggQ, x_exQ, x_hdQ⟩, x_noB, x_noQ, xc_B, xc_Q, y_BQ, y_QB⟩
  have MK : Mk K CS fI := ⟨s_mk, a_fI, i_fI, s_kp⟩
  have M_fPa : Meth K CS _ fPa := ⟨a_fPa, i_fPa, k_fPa⟩
  have M_fWo : Meth K CS _ fWo := ⟨a_fWo, i_fWo, k_fWo⟩
  have M_fRe : Meth K CS _ fRe := ⟨a_fRe, i_fRe, k_fRe⟩
  have O_fAd_list : OwnOp K CS fAd .Add "list" := ⟨s_sf, a_fAd, i_fAd, s_ra, ⟨_, _, r_list_add, r_list_radd⟩, u_list⟩
  have O_fAd_tuple : OwnOp K CS fAd .Add "tuple" := ⟨s_sf, a_fAd, i_fAd, s_ra, ⟨_, _, r_tuple_add, r_tuple_radd⟩, u_tuple⟩
  have O_fSu_list : OwnOp K CS fSu .Sub "list" := ⟨s_sf, a_fSu, i_fSu, s_rs, ⟨_, _, r_list_sub, r_list_rsub⟩, u_list⟩
  have O_fSu_tuple : OwnOp K CS fSu .Sub "tuple" := ⟨s_sf, a_fSu, i_fSu, s_rs, ⟨_, _, r_tuple_sub, r_tuple_rsub⟩, u_tuple⟩
  have TRf : TxtRf l.prog K mg CS CB CQ CR fP fEr fI fWo fRe fAd fPa := { gP := PySem.W.mg_of X G g_fP, kP := k_fP, gE := PySem.W.mg_of X G g_fEr, kE := k_fEr, e := TE, made := MK, mW := M_fWo, mR := M_fRe, oL := O_fAd_list, oT := O_fAd_tuple }
  have TL : TxtL l.prog K mg CS fX fL fPa fIt fLn fCo fEq fAd fSu fRf := { gX := PySem.W.mg_of X G g_fX, kX := k_fX, gL := PySem.W.mg_of X G g_fL, kL := k_fL, gRf := PySem.W.mg_of X G g_fRf, kRf := k_fRf, mP := M_fPa, aL := O_fAd_list, aT := O_fAd_tuple, uL := O_fSu_list, uT := O_fSu_tuple, ne := s_ne, mro := s_hm, eq := a_fEq, eqF := i_fEq, co := a_fCo, coF := i_fCo, ln := a_fLn, lnF := i_fLn, it := a_fIt, itF := i_fIt }
  have TD : TxtD K mg fC fD fN fX := ⟨PySem.W.mg_none_of X G z_len, PySem.W.mg_none_of X G z_int, PySem.W.mg_none_of X G z_range, PySem.W.mg_of X G g_fC, PySem.W.mg_of X G g_fD, PySem.W.mg_of X G g_fN, PySem.W.mg_of X G g_fX, k_fC, k_fD, k_fN, k_fX⟩
  have TLR : TxtLR K mg fX fP := ⟨PySem.W.mg_of X G g_fX, k_fX, PySem.W.mg_of X G g_fP, k_fP, PySem.W.mg_none_of X G z_range⟩
  have hT0 : ∀ H, SqT K H T0 [] := fun H => .inr ⟨_, _, _, t_T0, rfl, rfl, by decide, .nil⟩
  refine ⟨PySem.W.fnOf "law" "law" (defArgs sLaw) (defBody sLaw) (defScope sLaw) .none kV_fLw dc_fLw pm_fLw an_fLw cd_fLw ct_fLw, [(cc, PP)], spLaw K PP, fun p hp => ?_, fun p hp => ?_, fun p hp => ?_, fun s u => .of_eq rfl, fun H a ns hl hb hT hS => ?_, fun base hK hN hB => ?_⟩
  · obtain rfl := List.mem_singleton.mp hp
    exact hPP
  · obtain rfl := List.mem_singleton.mp hp
    exact t_no
  · obtain rfl := List.mem_singleton.mp hp
    exact PySem.W.codeHd_of_K X t_hd
  · exact ⟨a, ns, rfl, hS, tabs_nil (hT _ (List.mem_singleton.mpr rfl)), fun _ => rfl⟩
  have TB : TabB base mg cc PP := hB _ (List.mem_singleton.mpr rfl)
  have G_fR : FnOk l.prog w K mg base CX0 1 fR _ ["value"] (spIsRow K) := ok_is_row F_fR TF
  have G_fW : FnOk l.prog w K mg base CX0 1 fW _ ["value", "longest"] (spIsWord K) := ok_is_word F_fW TF
  have G_fT : FnOk l.prog w K mg base CX0 1 fT _ ["value"] (spIsTriple K) := ok_is_triple F_fT TF
  have G_fAW : FnOk l.prog w K mg base CX0 2 fAW _ ["value", "longest"] (spAreWords K) := ok_are_words F_fAW TW G_fR b_fR G_fW b_fW
  have G_fAR : FnOk l.prog w K mg base CX0 2 fAR _ ["value", "names"] (spAreRights K) := ok_are_rights F_fAR TR G_fR b_fR G_fW b1_fW v1_fW G_fT b_fT
  have G_fI : FnOk l.prog w K mg base (L2.CX l.prog w) 3 fI _ pSI (spInit K CS CB) := ok_init F_fI TS G_fAW b1_fAW v1_fAW G_fAR b_fAR
  have G_fPa : FnOk l.prog w K mg base CX0 1 fPa _ ["self"] (spParties K CS) := ok_parties F_fPa TS
  have G_fWo : FnOk l.prog w K mg base (L2.CX l.prog w) 3 fWo _ ["self", "one", "other"] (spWords K CS CQ) := ok_words F_fWo TS TQ G_fPa b_fPa M_fPa
  have G_fRe : FnOk l.prog w K mg base (L2.CX l.prog w) 5 fRe _ ["self", "names"] (spRen K CS CB) := ok_ren F_fRe TS G_fI b_fI MK G_fPa b_fPa M_fPa
  have G_fAd : FnOk l.prog w K mg base (L2.CX l.prog w) 5 fAd _ ["self", "rights"] (spAdd K CS CB) := ok_add F_fAd TS G_fI b_fI MK G_fR b_fR
  have G_fSu : FnOk l.prog w K mg base (L2.CX l.prog w) 5 fSu _ ["self", "rights"] (spSub K CS CB) := ok_sub F_fSu TS G_fI b_fI MK G_fT b_fT
  have G_fIt : FnOk l.prog w K mg base CX0 1 fIt _ ["self"] (spIter CS) := ok_iter F_fIt TS
  have G_fLn : FnOk l.prog w K mg base CX0 1 fLn _ ["self"] (spLen K CS) := ok_len F_fLn TS
  have G_fCo : FnOk l.prog w K mg base CX0 1 fCo _ ["self", "right"] (spIn K CS) := ok_in F_fCo TS
  have G_fEq : FnOk l.prog w K mg base CX0 1 fEq _ ["self", "other"] (spEq K CS) := ok_eq F_fEq TS ⟨s_ha, o_hn, o_tk, s_hm⟩
  have G_fX : FnOk l.prog w K mg base CX0 3 fX _ ["draw", "bound"] (spNext K) := ok_next F_fX TD F_fC b_fC F_fD b_fD F_fN b_fN
  have G_fP : FnOk l.prog w K mg base CX0 4 fP _ ["draw", "things"] (spPick K) := ok_pick F_fP TD G_fX b_fX
  have G_fL : FnOk l.prog w K mg base CX0 5 fL _ ["draw", "names"] (spLRights K) := ok_lrights F_fL TLR G_fX b_fX G_fP b_fP
  have G_fRf : FnOk l.prog w K mg base CX0 8 fRf _ ["draw", "state"] (spRefused K CS PP) := ok_refused F_fRf t_cd TB TS TQ TRf F_fEr b_fEr G_fP b_fP G_fI b_fI b1_fI v1_fI hT0 G_fWo b_fWo G_fRe b_fRe G_fAd b_fAd
  exact ok_law F_fLw TS TQ TRf TL G_fX b_fX G_fL b_fL G_fI b_fI b1_fI v1_fI hT0 G_fPa b_fPa G_fWo b_fWo G_fRe b_fRe G_fAd b_fAd G_fSu b_fSu G_fIt b_fIt G_fLn b_fLn G_fCo b_fCo G_fEq b_fEq G_fRf b_fRf
end K
open PySem PySem.W PyProof.Rows
set_option Elab.async false
set_option maxRecDepth 100000 in
set_option maxHeartbeats 0 in
theorem PySem.Challenge.cw_handedkeys_k01_whole_states_holds : PySem.Challenge.rw_handedkeys_k01_whole_states.Holds := by
  w_on; o_law; k_head; (case hw => w_witness2)
  k_fill
  refine LamX.walk_ofTs (l := PySem.Challenge.rw_handedkeys_k01_whole_states) (n := 63) (k := 10) (CX := fun _ => L2.CX0) (x := "script") rfl (by decide) rfl ⟨rfl, by decide, by decide⟩ (fun w h Y => PySem.W.km_in_of Y) ?F (fun _ _ _ _ _ z => z)
  case F =>
    intro w mg fa h Y KX G hmg
    refine' K.all_mk (l := PySem.Challenge.rw_handedkeys_k01_whole_states) KX G hmg (PySem.W.km_tabs_of Y _ (List.mem_singleton.mpr rfl)) ?g_CR ?g_CB ?g_CQ ?g_CS ?g_fR ?l_fR ?c_fR ?k_fR ?g_fT ?l_fT ?c_fT ?k_fT ?g_fAR ?l_fAR ?c_fAR ?k_fAR ?g_fC ?l_fC ?c_fC ?k_fC ?g_fD ?l_fD ?c_fD ?k_fD ?g_fN ?l_fN ?c_fN ?k_fN ?g_fX ?l_fX ?c_fX ?k_fX ?g_fP ?l_fP ?c_fP ?k_fP ?g_fEr ?l_fEr ?c_fEr ?k_fEr ?g_fL ?l_fL ?c_fL ?k_fL ?g_fRf ?l_fRf ?c_fRf ?k_fRf ?g_fLw ?l_fLw ?c_fLw ?k_fLw ?a_fPa ?i_fPa ?l_fPa ?c_fPa ?k_fPa ?a_fWo ?i_fWo ?l_fWo ?c_fWo ?k_fWo ?a_fRe ?i_fRe ?l_fRe ?c_fRe ?k_fRe ?a_fLn ?i_fLn ?l_fLn ?c_fLn ?k_fLn ?a_fIt ?i_fIt ?l_fIt ?c_fIt ?k_fIt ?a_fCo ?i_fCo ?l_fCo ?c_fCo ?k_fCo ?a_fEq ?i_fEq ?l_fEq ?c_fEq ?k_fEq ?a_fAd ?i_fAd ?l_fAd ?c_fAd ?k_fAd ?a_fSu ?i_fSu ?l_fSu ?c_fSu ?k_fSu ?g_fW ?l_fW ?c_fW ?k_fW ?t_fW ?g_fAW ?l_fAW ?c_fAW ?k_fAW ?t_fAW ?a_fI ?i_fI ?l_fI ?c_fI ?k_fI ?t_fI ?t_T0 ?z_len ?z_int ?z_range ?z_isinstance ?z_list ?z_tuple ?z_str ?z_dict ?z_set ?z_all ?z_any ?z_sorted ?z_iter ?z_super ?s_pg ?s_hd ?s_po ?s_sa ?s_mk ?s_kp ?s_npeople ?s_nthings ?s_nrights ?s_ha ?o_hn ?o_tk ?s_hm ?s_ne ?s_sf ?s_ra ?s_rs ?r_list_add ?r_list_radd ?r_list_sub ?r_list_rsub ?u_list ?r_tuple_add ?r_tuple_radd ?r_tuple_sub ?r_tuple_rsub ?u_tuple ?e_B ?e_Q ?y_BQ ?y_QB ?o_ho ?x_gaB ?x_ggB ?x_exB ?x_hdB ?x_noB ?x_haB ?x_hmB ?x_clB ?x_bmB ?x_saB ?x_tyB ?x_kpB ?x_inB ?x_tiB ?x_suB ?x_svB ?x_mrB ?x_fnB ?x_ciB ?x_lnB ?x_ceB ?x_coB ?x_c2B ?x_cfB ?x_gaQ ?x_ggQ ?x_exQ ?x_hdQ ?x_noQ ?x_haQ ?x_hmQ ?x_clQ ?x_bmQ ?x_saQ ?x_tyQ ?x_kpQ ?x_inQ ?x_tiQ ?x_suQ ?x_svQ ?x_mrQ ?x_fnQ ?x_ciQ ?x_lnQ ?x_ceQ ?x_coQ ?x_c2Q ?x_cfQ ?z_top ?t_cd ?t_hd ?t_no
    (case g_CR => first | k_is | rfl)
    (case g_CB => first | k_is | rfl)
    (case g_CQ => first | k_is | rfl)
    (case g_CS => first | k_is | rfl)
    (case g_fR => first | k_is | rfl)
    (case l_fR => first | k_is | rfl)
    (case c_fR => first | k_is | rfl)
    (case k_fR => first | k_is | rfl)
    (case g_fT => first | k_is | rfl)
    (case l_fT => first | k_is | rfl)
    (case c_fT => first | k_is | rfl)
    (case k_fT => first | k_is | rfl)
    (case g_fAR => first | k_is | rfl)
    (case l_fAR => first | k_is | rfl)
    (case c_fAR => first | k_is | rfl)
    (case k_fAR => first | k_is | rfl)
    (case g_fC => first | k_is | rfl)
    (case l_fC => first | k_is | rfl)
    (case c_fC => first | k_is | rfl)
    (case k_fC => first | k_is | rfl)
    (case g_fD => first | k_is | rfl)
    (case l_fD => first | k_is | rfl)
    (case c_fD => first | k_is | rfl)
    (case k_fD => first | k_is | rfl)
    (case g_fN => first | k_is | rfl)
    (case l_fN => first | k_is | rfl)
    (case c_fN => first | k_is | rfl)
    (case k_fN => first | k_is | rfl)
    (case g_fX => first | k_is | rfl)
    (case l_fX => first | k_is | rfl)
    (case c_fX => first | k_is | rfl)
    (case k_fX => first | k_is | rfl)
    (case g_fP => first | k_is | rfl)
    (case l_fP => first | k_is | rfl)
    (case c_fP => first | k_is | rfl)
    (case k_fP => first | k_is | rfl)
    (case g_fEr => first | k_is | rfl)
    (case l_fEr => first | k_is | rfl)
    (case c_fEr => first | k_is | rfl)
    (case k_fEr => first | k_is | rfl)
    (case g_fL => first | k_is | rfl)
    (case l_fL => first | k_is | rfl)
    (case c_fL => first | k_is | rfl)
    (case k_fL => first | k_is | rfl)
    (case g_fRf => first | k_is | rfl)
    (case l_fRf => first | k_is | rfl)
    (case c_fRf => first | k_is | rfl)
    (case k_fRf => first | k_is | rfl)
    (case g_fLw => first | k_is | rfl)
    (case l_fLw => first | k_is | rfl)
    (case c_fLw => first | k_is | rfl)
    (case k_fLw => first | k_is | rfl)
    (case a_fPa => first | k_is | rfl)
    (case i_fPa => first | k_is | rfl)
    (case l_fPa => first | k_is | rfl)
    (case c_fPa => first | k_is | rfl)
    (case k_fPa => first | k_is | rfl)
    (case a_fWo => first | k_is | rfl)
    (case i_fWo => first | k_is | rfl)
    (case l_fWo => first | k_is | rfl)
    (case c_fWo => first | k_is | rfl)
    (case k_fWo => first | k_is | rfl)
    (case a_fRe => first | k_is | rfl)
    (case i_fRe => first | k_is | rfl)
    (case l_fRe => first | k_is | rfl)
    (case c_fRe => first | k_is | rfl)
    (case k_fRe => first | k_is | rfl)
    (case a_fLn => first | k_is | rfl)
    (case i_fLn => first | k_is | rfl)
    (case l_fLn => first | k_is | rfl)
    (case c_fLn => first | k_is | rfl)
    (case k_fLn => first | k_is | rfl)
    (case a_fIt => first | k_is | rfl)
    (case i_fIt => first | k_is | rfl)
    (case l_fIt => first | k_is | rfl)
    (case c_fIt => first | k_is | rfl)
    (case k_fIt => first | k_is | rfl)
    (case a_fCo => first | k_is | rfl)
    (case i_fCo => first | k_is | rfl)
    (case l_fCo => first | k_is | rfl)
    (case c_fCo => first | k_is | rfl)
    (case k_fCo => first | k_is | rfl)
    (case a_fEq => first | k_is | rfl)
    (case i_fEq => first | k_is | rfl)
    (case l_fEq => first | k_is | rfl)
    (case c_fEq => first | k_is | rfl)
    (case k_fEq => first | k_is | rfl)
    (case a_fAd => first | k_is | rfl)
    (case i_fAd => first | k_is | rfl)
    (case l_fAd => first | k_is | rfl)
    (case c_fAd => first | k_is | rfl)
    (case k_fAd => first | k_is | rfl)
    (case a_fSu => first | k_is | rfl)
    (case i_fSu => first | k_is | rfl)
    (case l_fSu => first | k_is | rfl)
    (case c_fSu => first | k_is | rfl)
    (case k_fSu => first | k_is | rfl)
    (case g_fW => first | k_is | rfl)
    (case l_fW => first | k_is | rfl)
    (case c_fW => first | k_is | rfl)
    (case k_fW => first | k_is | rfl)
    (case t_fW => first | k_is | rfl)
    (case g_fAW => first | k_is | rfl)
    (case l_fAW => first | k_is | rfl)
    (case c_fAW => first | k_is | rfl)
    (case k_fAW => first | k_is | rfl)
    (case t_fAW => first | k_is | rfl)
    (case a_fI => first | k_is | rfl)
    (case i_fI => first | k_is | rfl)
    (case l_fI => first | k_is | rfl)
    (case c_fI => first | k_is | rfl)
    (case k_fI => first | k_is | rfl)
    (case t_fI => first | k_is | rfl)
    (case t_T0 => first | k_is | rfl)
    (case z_len => first | k_is | rfl)
    (case z_int => first | k_is | rfl)
    (case z_range => first | k_is | rfl)
    (case z_isinstance => first | k_is | rfl)
    (case z_list => first | k_is | rfl)
    (case z_tuple => first | k_is | rfl)
    (case z_str => first | k_is | rfl)
    (case z_dict => first | k_is | rfl)
    (case z_set => first | k_is | rfl)
    (case z_all => first | k_is | rfl)
    (case z_any => first | k_is | rfl)
    (case z_sorted => first | k_is | rfl)
    (case z_iter => first | k_is | rfl)
    (case z_super => first | k_is | rfl)
    (case s_pg => first | k_is | rfl)
    (case s_hd => first | k_is | rfl)
    (case s_po => first | k_is | rfl)
    (case s_sa => first | k_is | rfl)
    (case s_mk => first | k_is | rfl)
    (case s_kp => first | k_is | rfl)
    (case s_npeople => first | k_is | rfl)
    (case s_nthings => first | k_is | rfl)
    (case s_nrights => first | k_is | rfl)
    (case s_ha => first | k_is | rfl)
    (case o_hn => first | k_is | rfl)
    (case o_tk => first | k_is | rfl)
    (case s_hm => first | k_is | rfl)
    (case s_ne => first | k_is | rfl)
    (case s_sf => first | k_is | rfl)
    (case s_ra => first | k_is | rfl)
    (case s_rs => first | k_is | rfl)
    (case r_list_add => first | k_is | rfl)
    (case r_list_radd => first | k_is | rfl)
    (case r_list_sub => first | k_is | rfl)
    (case r_list_rsub => first | k_is | rfl)
    (case u_list => first | k_is | rfl)
    (case r_tuple_add => first | k_is | rfl)
    (case r_tuple_radd => first | k_is | rfl)
    (case r_tuple_sub => first | k_is | rfl)
    (case r_tuple_rsub => first | k_is | rfl)
    (case u_tuple => first | k_is | rfl)
    (case e_B => first | k_is | rfl)
    (case e_Q => first | k_is | rfl)
    (case y_BQ => first | k_is | rfl)
    (case y_QB => first | k_is | rfl)
    (case o_ho => first | k_is | rfl)
    (case x_gaB => first | k_is | rfl)
    (case x_ggB => first | k_is | rfl)
    (case x_exB => first | k_is | rfl)
    (case x_hdB => first | k_is | rfl)
    (case x_noB => first | k_is | rfl)
    (case x_haB => first | k_is | rfl)
    (case x_hmB => first | k_is | rfl)
    (case x_clB => first | k_is | rfl)
    (case x_bmB => first | rfl | k_is | decide +kernel)
    (case x_saB => first | k_is | rfl)
    (case x_tyB => first | k_is | rfl)
    (case x_kpB => first | k_is | rfl)
    (case x_inB => first | k_is | rfl)
    (case x_tiB => first | k_is | rfl)
    (case x_suB => first | k_is | rfl)
    (case x_svB => first | k_is | rfl)
    (case x_mrB => first | k_is | rfl)
    (case x_fnB => first | k_is | rfl)
    (case x_ciB => first | k_is | rfl)
    (case x_lnB => first | rfl | k_is | decide +kernel)
    (case x_ceB => first | k_is | rfl)
    (case x_coB => first | k_is | rfl)
    (case x_c2B => first | rfl | k_is | decide +kernel)
    (case x_cfB => first | rfl | k_is | decide +kernel)
    (case x_gaQ => first | k_is | rfl)
    (case x_ggQ => first | k_is | rfl)
    (case x_exQ => first | k_is | rfl)
    (case x_hdQ => first | k_is | rfl)
    (case x_noQ => first | k_is | rfl)
    (case x_haQ => first | k_is | rfl)
    (case x_hmQ => first | k_is | rfl)
    (case x_clQ => first | k_is | rfl)
    (case x_bmQ => first | rfl | k_is | decide +kernel)
    (case x_saQ => first | k_is | rfl)
    (case x_tyQ => first | k_is | rfl)
    (case x_kpQ => first | k_is | rfl)
    (case x_inQ => first | k_is | rfl)
    (case x_tiQ => first | k_is | rfl)
    (case x_suQ => first | k_is | rfl)
    (case x_svQ => first | k_is | rfl)
    (case x_mrQ => first | k_is | rfl)
    (case x_fnQ => first | k_is | rfl)
    (case x_ciQ => first | k_is | rfl)
    (case x_lnQ => first | rfl | k_is | decide +kernel)
    (case x_ceQ => first | k_is | rfl)
    (case x_coQ => first | k_is | rfl)
    (case x_c2Q => first | rfl | k_is | decide +kernel)
    (case x_cfQ => first | rfl | k_is | decide +kernel)
    (case z_top => first | rfl | k_is | decide +kernel)
    (case t_cd => first | rfl | k_is | decide +kernel)
    (case t_hd => first | k_is | rfl)
    (case t_no => first | k_is | rfl)
