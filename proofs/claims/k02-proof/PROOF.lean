import PyProof.Rows.All
import Wide.All
import OpenK.AllK
import Wide.FinOn
import HandS.ForMost
import HandS.TupSets
import HandS.SetFor
import KE.SortData
import HandS.SetKeys
import HandS.ForExc
import HandS.Walk
import HandS.DictComp
import HandS.DictTup
import HandS.Defaults
import HandS.IsInst
import HandS.Wide
import HandS.StrMore
import HandS.Style
import HandS.Deep
import KE.DataEq
import PyProof.EnumMake
import KE.GoesMore
import HandS.Comp
import HandS.TupAny
import HandS.OwnEq
import KE.KOpsOwn
import OpenK.KMeth
import OpenK.KOps
import HandS.Star
import HandS.ExcInit
import KE.KExcSuper
import KE.KExcMake
import HandS.ExcField
import HandS.ExcIs
import HandS.WordsExc
import KE.KExcIs
import HandS.OwnIter
import HandS.IterNext
import HandS.ExcValue
import PyProof.CollectWalk
import PyProof.SumAny
import HandS.Lambda
import HandS.HeadWalk
import KE.KNestM
import HandS.EndTab
import PySem.Challenge.RW_handedkeys_k02_whole_policies
set_option Elab.async false
set_option linter.all false
set_option maxRecDepth 100000
set_option maxHeartbeats 4000000
/-! Sets made of a list or a tuple, whatever the items: one theorem over a step. -/
namespace Hk
open PySem PySem.Spec PyProof.Rows L2

theorem sub_tuple_set : isSubtype (.type "tuple") (.type "set") = pure false := by
  rw [isSubtype_type]
  kernel_rfl
theorem sub_tuple_frozenset : isSubtype (.type "tuple") (.type "frozenset") = pure false := by
  rw [isSubtype_type]
  kernel_rfl

/-- the new set's object -/
def freshSet (w : World) : Obj := { cls := .type "set", dict := none, data := .set #[] 0 (.fresh 0 0 (!w.params.followText "set-order")) }

section
variable {P : Program} {w : World} {A : Around} {E : Value → Shared → Prop} {s : Shared}

/-- one item more: what has to be shown of set.add, J i told of the heap behind i items -/
def AddStep (P : Program) (w : World) (h0 : Heap) (S : Addr) (vs : List Value) (J : Nat → Heap → Prop) (room : Nat) : Prop :=
  ∀ (A' : Around) (E' : Value → Shared → Prop) (Q : Bool → Shared → Prop) (i : Nat) (v : Value) (s1 : Shared), A'.units + room < cLine → vs[i]? = some v → J i s1.heap →
    (∀ b o, h0.get? b = some o → s1.heap.get? b = some o) →
    (∀ (c : Bool) (h' : Heap) (tk : Nat), Heap.SameBut S s1.heap h' → J (i + 1) h' → s1.toks ≤ tk → Q c { s1 with heap := h', toks := tk }) →
    wpAny (model P w) A' (setAdd S v) Q E' s1

/-- set.update's loop, for any items -/
theorem update_loop_any {I : Addr} {fp wr : List Addr} {G : Array GenState → Array GenState → Prop} {n : Nat} {Pv : Nat → Value → Prop} {St : Nat → Shared → Prop} {R : Result → Shared → Prop} {J : Nat → Heap → Prop} {room : Nat}
    (W : WalksS P w A.in1 I fp wr G n Pv St) (S : Addr) (hSf : S ∉ fp) (vs : List Value) (hn : n = vs.length) (hval : ∀ i v, Pv i v → vs[i]? = some v)
    (h0 : Heap) (hS0 : h0.get? S = none) (hw0 : ∀ b ∈ wr, h0.get? b = none) (hu : A.in1.units + room < cLine)
    (hstep : AddStep P w h0 S vs J room) (hJ : ∀ i h h', J i h → (∀ o, h.get? S = some o → h'.get? S = some o) → (∀ b o, h0.get? b = some o → h'.get? b = some o) → J i h') :
    ∀ (k i : Nat) (s : Shared), n - i = k → i ≤ n → St i s → (∀ b o, h0.get? b = some o → s.heap.get? b = some o) → J i s.heap →
      (∀ s', Moved (S :: wr) G s s' → J n s'.heap → (∀ b o, h0.get? b = some o → s'.heap.get? b = some o) → R (.ok (.ret .none)) s') →
      codeAny (model P w) A (.builtin "set.update.loop" ⟨[.ref S, .ref I], []⟩) R s := by
  have nSw : S ∉ wr := fun q => hSf (W.sub _ q)
  have wider : ∀ b ∈ wr, b ∈ S :: wr := fun b q => List.mem_cons_of_mem _ q
  have stays : ∀ {a b : Shared}, Moved wr G a b → (∀ c o, h0.get? c = some o → a.heap.get? c = some o) → ∀ c o, h0.get? c = some o → b.heap.get? c = some o := fun m k c o e =>
    m.heap c o (fun q => by rw [hw0 c q] at e; cases e) (k c o e)
  intro k
  induction k with
  | zero =>
    intro i s ek hi st kp j fin
    have ei : i = n := by omega
    subst ei
    refine codeAny_builtin F.entry_set_update_loop ?_
    rw [Around.under_plainId F.plain_set_update_loop _]
    show wpAny _ A.in1 (pyNext (.ref I) >>= _) _ _ s
    refine wpAny_bind (W.done s _ _ st fun b m => ?_)
    show wpAny _ A.in1 (ret Value.none) _ _ b
    have kp2 := stays m kp
    exact wpAny_pure (fin b (m.mono wider) (hJ _ _ _ j (fun o e => m.heap S o nSw e) kp2) kp2)
  | succ k ih =>
    intro i s ek hi st kp j fin
    have lt : i < n := by omega
    refine codeAny_builtin F.entry_set_update_loop ?_
    rw [Around.under_plainId F.plain_set_update_loop _]
    show wpAny _ A.in1 (pyNext (.ref I) >>= _) _ _ s
    refine wpAny_bind (W.item i s _ _ lt st fun v b pv st2 m => ?_)
    have kp2 := stays m kp
    have j2 := hJ _ _ _ j (fun o e => m.heap S o nSw e) kp2
    show wpAny _ A.in1 (holding [v] (setAdd S v) >>= _) _ _ b
    refine wpAny_bind (wpAny_holding ?_)
    refine hstep A.in1 _ _ i v b hu (hval i v pv) j2 kp2 fun c h2 tk same j3 le => ?_
    have kp3 : ∀ a o, h0.get? a = some o → h2.get? a = some o := fun a o e => (same.2 a (fun q => by rw [q, hS0] at e; cases e)).trans (kp2 a o e)
    refine wpAny_pure ⟨plainId_quiet F.plain_set_update_loop _, ih (i + 1) { b with heap := h2, toks := tk } (by omega) lt (W.frame _ b _ _ st2 le fun a ha o e => ?_) kp3 j3 fun z mz jz kz => ?_⟩
    · rw [same.2 a (fun q : a = S => hSf (by rw [← q]; exact ha))]
      exact e
    · refine fin z (Moved.trans W.gtrans ((m.mono wider).then_heap le fun a o ha e => ?_) mz) jz kz
      rw [same.2 a (fun q : a = S => ha (by rw [q]; exact List.mem_cons_self))]
      exact e
end
end Hk
set_option Elab.async false
set_option linter.all false
set_option maxRecDepth 100000
set_option maxHeartbeats 4000000
namespace Hk
open PySem PySem.Spec PyProof.Rows L2
section
variable {P : Program} {w : World} {A : Around} {E : Value → Shared → Prop} {s : Shared}

/-- what a walk over the object at l is made of: a list's or a tuple's -/
structure Seqs (P : Program) (w : World) (T : String) (l : Addr) (items : Array Value) (s : Shared) : Prop where
  cls : ∃ o, s.heap.get? l = some o ∧ o.cls = .type T
  s1 : isSubtype (.type T) (.type "set") = pure false
  s2 : isSubtype (.type T) (.type "frozenset") = pure false
  nd : (Value.type T == Value.type "dict") = false
  it : ∀ (A1 : Around) (E1 : Value → Shared → Prop) (Q1 : Value → Shared → Prop) (x : Obj), A1.handled = none →
    (∀ (It : Addr) (h2 : Heap) (fp wr : List Addr) (G : Array GenState → Array GenState → Prop) (St : Nat → Shared → Prop),
      (∀ g g' : Array GenState, G g g' → g' = g) →
      (∀ b ∈ fp, b = l ∨ s.heap.objs.size < b) → (∀ b ∈ wr, s.heap.objs.size < b) → (∀ b o, (s.heap.push x).get? b = some o → h2.get? b = some o) → St 0 { s with heap := h2 } →
      (∀ A2 : Around, A2.handled = none → WalksS P w A2 It fp wr G items.size (fun i v => items[i]? = some v) St) → Q1 (.ref It) { s with heap := h2 }) →
    wpAny (model P w) A1 (pyIter (.ref l)) Q1 E1 { s with heap := s.heap.push x }

theorem Seqs.list {l : Addr} {items : Array Value} (h : s.heap.IsList l items) : Seqs P w "list" l items s where
  cls := let ⟨o, ho, hc, _⟩ := h; ⟨o, ho, hc⟩
  s1 := F.sub_list_set
  s2 := F.sub_list_frozenset
  nd := by decide
  it := fun A1 E1 Q1 x hh go => by
    have lt : l < s.heap.objs.size := let ⟨o, ho, _⟩ := h; Heap.lt_size ho
    have sz : (s.heap.push x).objs.size = s.heap.objs.size + 1 := Heap.size_push ..
    have ne : l ≠ (s.heap.push x).objs.size := by rw [sz]; exact Nat.ne_of_lt (Nat.lt_succ_of_lt lt)
    refine wpAny_pyIter_list (h.push _) ?_
    refine go _ _ _ _ _ _ (fun _ _ g => g) (fun b hb => ?_) (fun b hb => ?_) (fun b o e => Heap.get?_push_of_some _ e) ?_ fun A2 h2 => (Walks.list h2 _ l ne items).toS
    · rcases List.mem_cons.mp hb with e | hb
      · right; rw [e, sz]; exact Nat.lt_succ_self _
      · left; exact List.mem_singleton.mp hb
    · rw [List.mem_singleton.mp hb, sz]; exact Nat.lt_succ_self _
    · exact ⟨⟨_, Heap.get?_push_size _ rfl, rfl, rfl⟩, (h.push _).push _⟩
theorem Seqs.tuple {l : Addr} {items : Array Value} (h : s.heap.IsTuple l items) : Seqs P w "tuple" l items s where
  cls := let ⟨o, ho, hc, _⟩ := h; ⟨o, ho, hc⟩
  s1 := sub_tuple_set
  s2 := sub_tuple_frozenset
  nd := by decide
  it := fun A1 E1 Q1 x hh go => by
    have lt : l < s.heap.objs.size := let ⟨o, ho, _⟩ := h; Heap.lt_size ho
    have sz : (s.heap.push x).objs.size = s.heap.objs.size + 1 := Heap.size_push ..
    have ne : l ≠ (s.heap.push x).objs.size := by rw [sz]; exact Nat.ne_of_lt (Nat.lt_succ_of_lt lt)
    have h1 : (s.heap.push x).IsTuple l items := let ⟨o, ho, r⟩ := h; ⟨o, Heap.get?_push_of_some _ ho, r⟩
    refine wpAny_pyIter_tuple h1 ?_
    refine go _ _ _ _ _ _ (fun _ _ g => g) (fun b hb => ?_) (fun b hb => ?_) (fun b o e => Heap.get?_push_of_some _ e) ?_ fun A2 h2 => (Walks.tuple h2 _ l ne items).toS
    · rcases List.mem_cons.mp hb with e | hb
      · right; rw [e, sz]; exact Nat.lt_succ_self _
      · left; exact List.mem_singleton.mp hb
    · rw [List.mem_singleton.mp hb, sz]; exact Nat.lt_succ_self _
    · exact ⟨⟨_, Heap.get?_push_size _ rfl, rfl, rfl⟩, let ⟨o, ho, r⟩ := h1; ⟨o, Heap.get?_push_of_some _ ho, r⟩⟩
end
end Hk
set_option Elab.async false
set_option linter.all false
set_option maxRecDepth 100000
set_option maxHeartbeats 4000000
namespace Hk
open PySem PySem.Spec PyProof.Rows L2
section
variable {P : Program} {w : World} {A : Around} {E : Value → Shared → Prop} {s : Shared}
theorem get_end {h : Heap} {b : Addr} (hb : h.objs.size ≤ b) : h.get? b = none := by
  cases q : h.get? b with
  | none => rfl
  | some o => exact absurd (Nat.lt_of_lt_of_le (Heap.lt_size q) hb) (Nat.lt_irrefl _)

set_option maxHeartbeats 8000000 in
/-- set(x), x a list or a tuple, by one step -/
theorem call_set_any {T : String} {l : Addr} {items : Array Value} {J : Nat → Heap → Prop} {room : Nat} {Q : Value → Shared → Prop} (hh : A.handled = none) (W : Seqs P w T l items s)
    (hu : A.units + 3 + room < cLine) (hstep : AddStep P w s.heap s.heap.objs.size items.toList J room)
    (hJ : ∀ i h h', J i h → (∀ o, h.get? s.heap.objs.size = some o → h'.get? s.heap.objs.size = some o) → (∀ b o, s.heap.get? b = some o → h'.get? b = some o) → J i h')
    (h0 : ∀ h', h'.get? s.heap.objs.size = some (freshSet w) → (∀ b o, s.heap.get? b = some o → h'.get? b = some o) → J 0 h')
    (h : ∀ (h' : Heap) (tk : Nat), J items.size h' → (∀ b o, s.heap.get? b = some o → h'.get? b = some o) → Q (.ref s.heap.objs.size) { s with heap := h', toks := tk }) :
    wpAny (model P w) A (call (.type "set") [.ref l]) Q E s := by
  obtain ⟨c, tl, hmro⟩ := F.called_set.mro
  have made := F.called_set.made
  have sub := F.called_set.sub
  refine wpAny_call (codeAny_of_tree ?_)
  show wpAny _ _ (callAny (.type "set") _) _ _ _
  refine wpAny_pure ⟨Code.quiet_builtin _ (by decide +kernel), codeAny_builtin F.entry_type_call ?_⟩
  rw [Around.under_plain (weight_type_call_type "set" [.ref l] []) rfl]
  have q1 := F.called_set.notType
  have q2 := F.called_set.canCreate
  have q3 := F.typeCall_set_1 (.ref l)
  repeat (any_goals (first | assumption | wp_step))
  refine codeAny_mono (code_set_led1 (.ref l) (E := E) (Q₁ := fun obj s₁ => obj = .ref s.heap.objs.size ∧ s₁ = { s with heap := s.heap.push (freshSet w) }) ⟨rfl, rfl⟩) fun r s₁ hr => ?_
  cases r with
  | error e => exact hr
  | ok fl =>
    cases fl with
    | ret obj =>
      obtain ⟨rfl, rfl⟩ := hr
      have hS : (s.heap.push (freshSet w)).get? s.heap.objs.size = some (freshSet w) := Heap.get?_push_size _ rfl
      have hT : Shared.TypeIs { s with heap := s.heap.push (freshSet w) } (.ref s.heap.objs.size) "set" := ⟨_, hS, rfl⟩
      have li := F.called_set.init.lookup
      have bi := F.called_set.init.bind (.ref s.heap.objs.size)
      repeat (any_goals (first | assumption | wp_step))
      refine codeAny_mono (codeAny_call_builtin (R := wants (fun r s₂ => r = .none ∧ ∃ h' tk, s₂ = { s with heap := h', toks := tk } ∧ J items.size h' ∧
          (∀ b o, s.heap.get? b = some o → h'.get? b = some o)) E) F.called_set.init.plain F.entry_set_init (check_set_init_1 hT ?_)) fun r₂ s₂ hr₂ => ?_
      · obtain ⟨⟨ol, hol, hcl⟩, ws1, ws2, wnd, wit⟩ := W
        obtain ⟨ocls, odict, odata, oslots⟩ := ol
        simp only at hcl
        subst hcl
        have hol' : (s.heap.push (freshSet w)).get? l = some { cls := .type T, dict := odict, data := odata, slots := oslots } := Heap.get?_push_of_some _ hol
        have z1 := ws1
        have z2 := ws2
        have z3 := wnd
        unfold Builtin.«set.__init__» noKeywords Builtin.Frozenset.updateFrom
        generalize hPI : pyIter = PI
        wp_walk
        subst hPI
        refine wit _ _ _ (freshSet w) (by simp [hh]) fun It h2 fp wr G St geq hfp hwr hk2 st0 wk => ?_
        refine wpAny_bind (wpAny_runValue ?_)
        have nf : s.heap.objs.size ∉ fp := fun m => by
          rcases hfp _ m with e | e
          · have lt := Heap.lt_size hol
            rw [← e] at lt
            exact absurd lt (Nat.lt_irrefl _)
          · exact absurd e (Nat.lt_irrefl _)
        have hS2 := hk2 _ _ hS
        have hk3 : ∀ b o, s.heap.get? b = some o → h2.get? b = some o := fun b o e => hk2 b o (Heap.get?_push_of_some _ e)
        have hh3 : A.in1.in1.in1.handled = none := by simp [hh]
        refine update_loop_any (J := J) (room := room) (wk _ hh3) s.heap.objs.size nf items.toList (by simp) (fun i v e => by rw [Array.getElem?_toList]; exact e) s.heap (get_end (Nat.le_refl _))
          (fun b hb => get_end (Nat.le_of_lt (hwr b hb))) hu hstep hJ (items.size - 0) 0 _ rfl (Nat.zero_le _) st0 hk3 (h0 _ hS2 hk3) fun s' m jn kp => ?_
        obtain ⟨h', g2, d', tk', os'⟩ := s'
        have eg : g2 = s.gens := geq _ _ m.gens
        have ed : d' = s.drawn := m.drawn
        have eo : os' = s.os := m.os
        subst eg
        subst ed
        subst eo
        show wpAny _ _ _ _ _ _
        refine wpAny_pure ?_
        show wpAny _ _ (ret Value.none) _ _ _
        exact wpAny_pure ⟨rfl, h', tk', rfl, jn, kp⟩
      · cases r₂ with
        | error e => exact hr₂
        | ok fl₂ =>
          cases fl₂ with
          | ret r =>
            obtain ⟨rfl, h', tk, rfl, jn, kp⟩ := hr₂
            repeat (any_goals (first | assumption | wp_step))
            exact h _ _ jn kp
          | _ => exact hr₂.elim
    | _ => exact hr.elim
end
end Hk
set_option Elab.async false
set_option linter.all false
set_option maxRecDepth 100000
set_option maxHeartbeats 4000000
/-! Sets of tuples of keys (ints and texts): fewer than 64 of them. -/
namespace Hk
open PySem PySem.Spec PyProof.Rows L2
abbrev khash (P : Program) (w : World) (k : List Key) : Int := tupleKeyHash (mixKind P w) k
/-- the tuple at a has the keys k -/
abbrev IsK (P : Program) (w : World) (h : Heap) (k : List Key) (a : Addr) : Prop := IsTupleKey (mixKind P w) h k a
def Leaf (v : Value) : Prop := (∃ i t, v = Value.int i t) ∨ ∃ x t, v = Value.str x t
section
variable {P : Program} {w : World} {A : Around} {E : Value → Shared → Prop} {s : Shared}
theorem leafs {k : List Key} {vs : List Value} (h : ItemsAre (mixKind P w) k vs) : ∀ v ∈ vs, Leaf v := by
  induction h with
  | nil => intro v m; cases m
  | @cons k0 u ks us h1 _ ih =>
    intro v m
    rcases List.mem_cons.mp m with e | m
    · subst e
      rcases keyIs_shape (k := k0) h1 with ⟨i, t, _, e⟩ | ⟨x, t, _, e⟩
      · exact .inl ⟨i, t, e⟩
      · exact .inr ⟨x, t, e⟩
    · exact ih v m
theorem class_leaf {v : Value} (h : Leaf v) (n : Nat) : ofAClassStatement n v = pure false := by
  rcases h with ⟨i, t, rfl⟩ | ⟨x, t, rfl⟩ <;> cases n <;> rfl
theorem hash_leaf {v : Value} (h : Leaf v) (n : Nat) : ∃ c, hashByValue n v = pure c := by
  rcases h with ⟨i, t, rfl⟩ | ⟨x, t, rfl⟩
  · exact ⟨true, by cases n <;> rfl⟩
  · exact ⟨false, by cases n <;> rfl⟩
theorem class_keys {k : List Key} {b : Addr} {Q : Bool → Shared → Prop} (hk : IsK P w s.heap k b) (h : Q false s) : wpAny (model P w) A (ofAClassStatement 8 (.ref b)) Q E s := by
  have ty := hk.typeIs
  obtain ⟨o, items, n, ho, _, hd, hi⟩ := hk
  unfold ofAClassStatement
  refine wpAny_bind (wpAny_typeOf ty ?_)
  dsimp only
  have e : (("tuple" : String) == "tuple") = true := by decide
  simp only [e, if_true, Bool.not_true, Bool.false_eq_true, if_false]
  try refine wpAny_bind (wpAny_pure ?_)
  try simp only [Bool.not_true, Bool.false_eq_true, if_false]
  show wpAny _ _ (seqItems? (.ref b) >>= _) _ _ s
  refine wpAny_bind (wpAny_seqItems ho hd ?_)
  dsimp only
  refine wpAny_bind ?_
  show wpAny _ _ (forIn items _ _) _ _ s
  rw [← Array.forIn_toList]
  refine wpAny_forIn_list _ (fun left r z => r.1 = none ∧ z = s ∧ ∀ v ∈ left, Leaf v) _ ?_ ?_ _ _ ⟨rfl, rfl, leafs hi⟩
  · rintro v left r z ⟨hr, rfl, all⟩
    rw [class_leaf (all v List.mem_cons_self)]
    refine wpAny_bind (wpAny_pure ?_)
    simp only [Bool.false_eq_true, if_false]
    exact wpAny_pure ⟨rfl, rfl, fun u m => all u (List.mem_cons_of_mem _ m)⟩
  · rintro ⟨r1, r2⟩ z ⟨hr, rfl, _⟩
    simp only at hr
    subst hr
    exact wpAny_pure h
theorem hash_keys {k : List Key} {b : Addr} {Q : Bool → Shared → Prop} (hk : IsK P w s.heap k b) (h : ∀ c, Q c s) : wpAny (model P w) A (hashByValue 8 (.ref b)) Q E s := by
  have ty := hk.typeIs
  obtain ⟨o, items, n, ho, _, hd, hi⟩ := hk
  unfold hashByValue
  refine wpAny_bind (wpAny_specialOf ty F.slot_tuple_hash.lookup ?_)
  show wpAny _ _ (seqItems? (.ref b) >>= _) _ _ s
  refine wpAny_bind (wpAny_seqItems ho hd ?_)
  refine wpAny_bind ?_
  show wpAny _ _ (forIn items _ _) _ _ s
  rw [← Array.forIn_toList]
  refine wpAny_forIn_list _ (fun left r z => z = s ∧ ∀ v ∈ left, Leaf v) _ ?_ ?_ _ _ ⟨rfl, leafs hi⟩
  · rintro v left r z ⟨rfl, all⟩
    obtain ⟨c, ec⟩ := hash_leaf (all v List.mem_cons_self) 7
    rw [ec]
    refine wpAny_bind (wpAny_pure ?_)
    cases c with
    | true =>
      simp only [Bool.not_true, Bool.false_eq_true, if_false]
      exact wpAny_pure ⟨rfl, fun u m => all u (List.mem_cons_of_mem _ m)⟩
    | false =>
      simp only [Bool.not_false, if_true]
      refine wpAny_pure ?_
      exact wpAny_pure (h false)
  · rintro ⟨r1, r2⟩ z ⟨rfl, _⟩
    cases r1 with
    | none => exact wpAny_pure (h true)
    | some c => exact wpAny_pure (h c)
end
end Hk
set_option Elab.async false
set_option linter.all false
set_option maxRecDepth 100000
set_option maxHeartbeats 4000000
namespace Hk
open PySem PySem.Spec PyProof.Rows L2
section
variable {P : Program} {w : World} {A : Around} {E : Value → Shared → Prop} {s : Shared}
/-- a search among tuples of keys shows nothing -/
theorem seen_keys {k : List Key} {b : Addr} {Q : Bool → Shared → Prop} (hk : IsK P w s.heap k b) {ys : List Value} (hy : ∀ y ∈ ys, ∃ k' c, y = Value.ref c ∧ IsK P w s.heap k' c) (h : Q false s) :
    wpAny (model P w) A (searchCouldBeSeen (.ref b) ys) Q E s := by
  unfold searchCouldBeSeen
  refine wpAny_bind ?_
  refine wpAny_forIn_list _ (fun left r z => r.1 = none ∧ z = s ∧ ∀ y ∈ left, ∃ k' c, y = Value.ref c ∧ IsK P w s.heap k' c) _ ?_ ?_ _ _ ⟨rfl, rfl, hy⟩
  · rintro v left r z ⟨hr, rfl, all⟩
    obtain ⟨k', c, rfl, hc⟩ := all v List.mem_cons_self
    have more : ∀ y ∈ left, ∃ k' c, y = Value.ref c ∧ IsK P w z.heap k' c := fun u m => all u (List.mem_cons_of_mem _ m)
    dsimp only
    by_cases hv : (b == c || (carriedByValue (.ref b) && carriedByValue (.ref c))) = true
    · exact wp_if_pos hv (wpAny_pure ⟨rfl, rfl, more⟩)
    · refine wp_if_neg hv (wpAny_bind (wpAny_eqIsQuiet_tuple hk ?_))
      simp only [Bool.not_true, Bool.false_eq_true, if_false]
      refine wpAny_bind (wpAny_eqIsQuiet_tuple hc ?_)
      simp only [Bool.not_true, Bool.false_eq_true, if_false]
      refine wpAny_bind (class_keys hk ?_)
      simp only [Bool.false_eq_true, if_false]
      refine wpAny_bind (class_keys hc ?_)
      simp only [Bool.false_eq_true, if_false]
      exact wpAny_pure ⟨rfl, rfl, more⟩
  · rintro ⟨r1, r2⟩ z ⟨hr, rfl, _⟩
    simp only at hr
    subst hr
    exact wpAny_pure h

def keyRows (P : Program) (w : World) (L : List (Addr × List Key)) : List (Int × Value) := L.map fun p => (khash P w p.2, Value.ref p.1)
theorem keyRows_len (L : List (Addr × List Key)) : (keyRows P w L).length = L.length := List.length_map ..
/-- a set of tuples of keys: its rows, its table -/
structure SetKR (P : Program) (w : World) (h : Heap) (a : Addr) (L : List (Addr × List Key)) (es : Array (Int × Value)) (ep : Nat) (t : SetTable) : Prop where
  ob : ∃ o, h.get? a = some o ∧ o.ExactSet ∧ o.data = .set es ep t
  rows : es.toList = keyRows P w L
  tab : L2.TabOk t (L.map fun p => khash P w p.2)
  nd : (L.map (·.2)).Nodup
  tup : ∀ p ∈ L, IsK P w h p.2 p.1
  led : w.params.followText "set-order" = true ∨ t.led = true
  room : L.length * 5 < t.mask * 3
  few : L.length < 64
variable {a : Addr} {L : List (Addr × List Key)} {es : Array (Int × Value)} {ep : Nat} {t : SetTable}
theorem SetKR.size (R : SetKR P w s.heap a L es ep t) : es.size = L.length := by
  rw [← Array.length_toList, R.rows, keyRows_len]
theorem SetKR.psz (R : SetKR P w s.heap a L es ep t) : t.place.size = L.length := by
  have q := R.tab.sz
  rw [List.length_map] at q
  exact q
theorem SetKR.fits (R : SetKR P w s.heap a L es ep t) : t.fits es.size = true := by
  have h1 := R.psz
  have h2 := R.size
  have h3 := R.room
  unfold SetTable.fits SetTable.fill
  rw [R.tab.dm, Bool.and_eq_true, beq_iff_eq, decide_eq_true_eq]
  show t.place.size = es.size ∧ t.place.size + 0 ≤ t.mask
  omega
theorem SetKR.entry (R : SetKR P w s.heap a L es ep t) {i : Nat} {p : Addr × List Key} (h : L[i]? = some p) : es[i]? = some (khash P w p.2, Value.ref p.1) := by
  rw [← Array.getElem?_toList, R.rows]
  unfold keyRows
  rw [List.getElem?_map, h]
  all_goals rfl
theorem SetKR.whole (R : SetKR P w s.heap a L es ep t) : ¬ t.gaveWay = true := by
  unfold SetTable.gaveWay
  rw [mask_odd R.tab.mok]
  decide
theorem no_dummy (m : Nat) : ∀ (n : Nat) (p : SetTable.Probe), p.dummy = none → (L2.nth m p n).dummy = none
  | 0, _, h => h
  | n + 1, p, h => no_dummy m n (L2.adv m p) (by
    unfold L2.adv
    split <;> exact h)

/-- the probe's start, and its c-th step -/
abbrev go0 (m : Nat) (H : Int) : SetTable.Probe := L2.runAt m (SetTable.bits H % (m + 1)) (SetTable.bits H)

theorem find_from (R : SetKR P w s.heap a L es ep t) {x : Addr} {k : List Key} (hx : IsK P w s.heap k x) (hu : A.units < cLine) {K : Nat}
    (hfree : L2.way t.mask (khash P w k) K ∉ t.place.toList) (hfull : ∀ c, c < K → L2.way t.mask (khash P w k) c ∈ t.place.toList) (hlim : K < 10 * SetTable.turns t.mask) {Q : SetFound → Shared → Prop}
    (yes : k ∈ L.map (·.2) → Q (.there none) s) (no : k ∉ L.map (·.2) → Q (.free (L2.way t.mask (khash P w k) K) false) s) :
    ∀ (f c : Nat) (stand : Option SetTable.Probe), stand.getD (t.probeStart (khash P w k)) = L2.nth t.mask (go0 t.mask (khash P w k)) c → c ≤ K → K - c < f →
      (∀ (i : Nat) p, L[i]? = some p → p.2 = k → ∃ d, c ≤ d ∧ d < K ∧ t.place.toList[i]? = some (L2.way t.mask (khash P w k) d)) →
      wpAny (model P w) A (setSearchFrom a (.ref x) (khash P w k) true f stand) Q E s
  | 0, c, stand, _, _, hf, _ => absurd hf (Nat.not_lt_zero _)
  | f + 1, c, stand, hst, hc, hf, hre => by
    obtain ⟨o, ho, hex, hd⟩ := R.ob
    rw [setSearchFrom_succ]
    refine wpAny_bind (wpAny_setState_of ho hd R.fits ?_)
    dsimp only
    refine wp_if_neg R.whole ?_
    try refine wpAny_bind (wpAny_pure ?_)
    have dn : (L2.nth t.mask (go0 t.mask (khash P w k)) c).dummy = none := no_dummy _ c _ rfl
    have shift : ∀ q, L2.nth t.mask (L2.nth t.mask (go0 t.mask (khash P w k)) c) q = L2.nth t.mask (go0 t.mask (khash P w k)) (c + q) := fun q => (nth_add t.mask c _ q).symm
    have slotq : ∀ q, (L2.nth t.mask (L2.nth t.mask (go0 t.mask (khash P w k)) c) q).j = L2.way t.mask (khash P w k) (c + q) := fun q => congrArg SetTable.Probe.j (shift q)
    have told := go_spec t R.tab.ris R.tab.dm (fun i => (es[i]?.map (·.1)).getD 0) (khash P w k) (10 * SetTable.turns t.mask) (K - c) _ dn (by omega)
      (fun q hq => by rw [slotq]; exact hfull (c + q) (by omega)) (by rw [slotq, show c + (K - c) = K by omega]; exact hfree)
    have hashes : ∀ (i : Nat) p, L[i]? = some p → (fun i => (es[i]?.map (·.1)).getD 0) i = khash P w p.2 := fun i p hp => by
      show (es[i]?.map (·.1)).getD 0 = _
      rw [R.entry hp]
      all_goals rfl
    rcases told with ⟨q, i, hq, hi, hh, fresh, hpr⟩ | ⟨fresh, hpr⟩
    · have hpr2 : t.probe (fun i => (es[i]?.map (·.1)).getD 0) (khash P w k) (stand.getD (t.probeStart (khash P w k))) = some (.candidate (L2.way t.mask (khash P w k) (c + q)) i (L2.nth t.mask (go0 t.mask (khash P w k)) (c + (q + 1)))) := by
        rw [hst, ← slotq, ← shift]
        exact hpr
      rw [hpr2]
      dsimp only
      rw [slotq] at hi
      have il : i < L.length := by
        have h1 : i < t.place.toList.length := (List.getElem?_eq_some_iff.mp hi).1
        rw [Array.length_toList, R.psz] at h1
        exact h1
      have hp : L[i]? = some L[i] := List.getElem?_eq_getElem il
      generalize hpe : L[i] = p at hp
      have pm : p ∈ L := List.mem_of_getElem? hp
      have pt := R.tup p pm
      have behind : wpAny (model P w) A (searchRest a (.ref x) (khash P w k) true f es t (L2.way t.mask (khash P w k) (c + q)) i (L2.nth t.mask (go0 t.mask (khash P w k)) (c + (q + 1)))) Q E s := by
        unfold searchRest
        rw [R.entry hp]
        dsimp only
        refine wpAny_bind (wpAny_holding (wpAny_eqBool_tuple hu pt hx ?_))
        refine wpAny_bind (wpAny_setState_of ho hd R.fits ?_)
        dsimp only
        by_cases same : p.2 = k
        · refine wp_if_pos (by simp [same]) (wpAny_pure (yes ?_))
          exact List.mem_map.mpr ⟨p, pm, same⟩
        · refine wp_if_neg (by simp [same]) ?_
          try refine wpAny_bind (wpAny_pure ?_)
          rw [sameMem]
          dsimp only
          have live : t.slot (L2.way t.mask (khash P w k) (c + q)) = .live i := slot_live R.tab.ris hi
          simp only [if_true, live, R.entry hp]
          refine wpAny_bind (wpAny_isSame_ref_self (wpAny_bind (wpAny_pure ?_)))
          simp only [if_true]
          refine wp_if_neg (by simp [same]) ?_
          refine find_from R hx hu hfree hfull hlim yes no f (c + (q + 1)) _ rfl (by omega) (by omega) fun i0 p0 h0 k0 => ?_
          obtain ⟨d, d1, d2, d3⟩ := hre i0 p0 h0 k0
          refine ⟨d, ?_, d2, d3⟩
          rcases Nat.lt_trichotomy d (c + q) with z | z | z
          · exfalso
            refine fresh (d - c) i0 (by omega) (by rw [slotq, show c + (d - c) = d by omega]; exact d3) ?_
            exact (hashes i0 p0 h0).trans (congrArg (khash P w) k0)
          · exfalso
            rw [z] at d3
            have l2 := slot_live R.tab.ris d3
            rw [live] at l2
            injection l2 with l2
            rw [← l2, hp] at h0
            exact same ((congrArg Prod.snd (Option.some.inj h0)).trans k0)
          · omega
      by_cases ledc : t.led = true
      · refine wp_if_neg (by simp [ledc]) ?_
        try refine wpAny_bind (wpAny_pure ?_)
        exact behind
      · refine wp_if_pos (by simp [ledc]) ?_
        refine wpAny_bind (seen_keys hx (fun y hy => ?_) ?_)
        · obtain ⟨e, he, ee⟩ := List.mem_map.mp hy
          have in1 : e ∈ es ∧ e.1 = khash P w k := by simpa using he
          have in2 : e ∈ es.toList := by simpa using in1.1
          rw [R.rows] at in2
          obtain ⟨p2, m2, e2⟩ := List.mem_map.mp in2
          exact ⟨p2.2, p2.1, by rw [← ee, ← e2], R.tup p2 m2⟩
        · refine wp_if_neg (by decide) ?_
          try refine wpAny_bind (wpAny_pure ?_)
          exact behind
    · have hpr2 : t.probe (fun i => (es[i]?.map (·.1)).getD 0) (khash P w k) (stand.getD (t.probeStart (khash P w k))) = some (.empty (L2.way t.mask (khash P w k) K) none) := by
        have e2 : L2.way t.mask (khash P w k) K = (L2.nth t.mask (L2.nth t.mask (go0 t.mask (khash P w k)) c) (K - c)).j := by
          rw [slotq, show c + (K - c) = K by omega]
        rw [hst, e2]
        exact hpr
      rw [hpr2]
      dsimp only
      refine wpAny_pure (no fun hm => ?_)
      obtain ⟨p0, h0, k0⟩ := List.mem_map.mp hm
      obtain ⟨i0, hi0, e0⟩ := List.getElem_of_mem h0
      have h00 : L[i0]? = some p0 := by rw [List.getElem?_eq_getElem hi0, e0]
      obtain ⟨d, d1, d2, d3⟩ := hre i0 p0 h00 k0
      refine fresh (d - c) i0 (by omega) (by rw [slotq, show c + (d - c) = d by omega]; exact d3) ?_
      exact (hashes i0 p0 h00).trans (congrArg (khash P w) k0)
theorem find_at (R : SetKR P w s.heap a L es ep t) {x : Addr} {k : List Key} (hx : IsK P w s.heap k x) (hu : A.units < cLine) {Q : SetFound → Shared → Prop}
    (yes : k ∈ L.map (·.2) → Q (.there none) s)
    (no : ∀ K, k ∉ L.map (·.2) → L2.way t.mask (khash P w k) K ∉ t.place.toList → (∀ c, c < K → L2.way t.mask (khash P w k) c ∈ t.place.toList) → Q (.free (L2.way t.mask (khash P w k) K) false) s) :
    wpAny (model P w) A (setSearch a (.ref x) (khash P w k) true) Q E s := by
  have rm := R.room
  obtain ⟨K, lim, fre, ful⟩ := R.tab.first (by rw [List.length_map]; omega) (khash P w k)
  have small : K < 100000 := by
    have : 10 * SetTable.turns t.mask ≤ 1420 := by
      unfold SetTable.turns
      rcases R.tab.mok with e | e | e <;> omega
    omega
  unfold setSearch
  refine find_from R hx hu fre ful lim yes (fun hn => no K hn fre ful) 100000 0 none rfl (Nat.zero_le _) (by omega) fun i p hp hk => ?_
  have hi : (L.map fun p => khash P w p.2)[i]? = some (khash P w k) := by
    rw [List.getElem?_map, hp, ← hk]
    all_goals rfl
  have il : i < t.place.toList.length := by
    rw [Array.length_toList, R.psz]
    exact (List.getElem?_eq_some_iff.mp hp).1
  have hj := List.getElem?_eq_getElem il
  obtain ⟨c, hc, e⟩ := R.tab.before fre hi hj
  exact ⟨c, Nat.zero_le _, hc, by rw [hj, e]⟩
end
end Hk
set_option Elab.async false
set_option linter.all false
set_option maxRecDepth 100000
set_option maxHeartbeats 4000000
namespace Hk
open PySem PySem.Spec PyProof.Rows L2
theorem range_pick {α : Type} (L : List α) : (List.range L.length).filterMap (fun i => L[i]?) = L := by
  induction L with
  | nil => rfl
  | cons x L ih =>
    rw [List.length_cons, List.range_succ_eq_map]
    show List.filterMap _ (0 :: (List.range L.length).map Nat.succ) = _
    rw [List.filterMap_cons_some (f := fun i => (x :: L)[i]?) (a := 0) (b := x) rfl, List.filterMap_map]
    refine congrArg (x :: ·) ?_
    exact ih
section
variable {P : Program} {w : World} {A : Around} {E : Value → Shared → Prop} {s : Shared}
theorem isK_but {h h' : Heap} {k : List Key} {a b : Addr} {o : Obj} {es : Array (Int × Value)} {ep : Nat} {t : SetTable} (hb : IsK P w h k b) (ho : h.get? a = some o) (hd : o.data = .set es ep t) (hs : Heap.SameBut a h h') : IsK P w h' k b := by
  obtain ⟨q, items, n, hq, hc, hd2, hi⟩ := hb
  refine ⟨q, items, n, (hs.2 b ?_).trans hq, hc, hd2, hi⟩
  rintro rfl
  rw [ho] at hq
  cases hq
  rw [hd] at hd2
  exact nomatch hd2
theorem rows_at (L : List (Addr × List Key)) (p : Nat) (x : Addr) (k : List Key) : keyRows P w (L.take p ++ (x, k) :: L.drop p) = (keyRows P w L).take p ++ (khash P w k, Value.ref x) :: (keyRows P w L).drop p := by
  unfold keyRows
  rw [List.map_append, List.map_cons, List.map_take, List.map_drop]
theorem keys_order (L : List (Addr × List Key)) (es : Array (Int × Value)) (order : Array Nat) (hr : es.toList = keyRows P w L) (hp : order.toList.Perm (List.range L.length)) :
    ∃ M, (order.filterMap (es[·]?)).toList = keyRows P w M ∧ M.Perm L ∧ (M.map fun p => khash P w p.2) = order.toList.map fun i => (es.map (·.1)).getD i 0 := by
  have at_ : ∀ i : Nat, es[i]? = (L[i]?).map fun p => (khash P w p.2, Value.ref p.1) := fun i => by
    rw [← Array.getElem?_toList, hr]
    unfold keyRows
    rw [List.getElem?_map]
  refine ⟨order.toList.filterMap (fun i => L[i]?), ?_, ?_, ?_⟩
  · rw [Array.toList_filterMap]
    unfold keyRows
    rw [List.map_filterMap]
    refine congrArg (fun f => List.filterMap f order.toList) ?_
    funext i
    exact at_ i
  · have q := hp.filterMap (fun i => L[i]?)
    rw [range_pick] at q
    exact q
  · have all : ∀ l : List Nat, (∀ i ∈ l, i < L.length) → (l.filterMap fun i => L[i]?).map (fun p => khash P w p.2) = l.map fun i => (es.map (·.1)).getD i 0 := by
      intro l
      induction l with
      | nil => intro _; rfl
      | cons i l ih =>
        intro hl
        have hi := hl i List.mem_cons_self
        have e : (es.map (·.1)).getD i 0 = khash P w (L[i]).2 := by
          have e5 : (es.map (·.1))[i]? = some (khash P w (L[i]).2) := by
            rw [Array.getElem?_map, at_ i, List.getElem?_eq_getElem hi]
            all_goals rfl
          simp [Array.getD_eq_getD_getElem?, e5]
        rw [List.filterMap_cons_some (List.getElem?_eq_getElem hi), List.map_cons, List.map_cons, ih fun j hj => hl j (List.mem_cons_of_mem _ hj), e]
    exact all _ fun i hi => List.mem_range.mp (hp.mem_iff.mp hi)
variable {a : Addr} {L : List (Addr × List Key)} {es : Array (Int × Value)} {ep : Nat} {t : SetTable}
theorem relay_keys {o : Obj} (ho : s.heap.get? a = some o) (hex : o.ExactSet) (hd : o.data = .set es ep t) (hrows : es.toList = keyRows P w L) (hsz : t.place.size = es.size) (hdm : t.dummies = #[]) (hfl : es.size ≤ t.mask)
    (nd : (L.map (·.2)).Nodup) (tup : ∀ p ∈ L, IsK P w s.heap p.2 p.1) (ld : w.params.followText "set-order" = true ∨ t.led = true) (few : L.length < 64) {wanted M : Nat}
    (hw : SetTable.sizeAbove wanted - 1 = M) (hM : MaskOk M) (hw2 : SetTable.sizeAbove wanted ≤ 128) (hn : L.length * 5 < M * 3) {Q : Unit → Shared → Prop}
    (hQ : ∀ h' L' es' ep' t', Heap.SameBut a s.heap h' → SetKR P w h' a L' es' ep' t' → L'.Perm L → Q () { s with heap := h' }) : wpAny (model P w) A (setRelay a wanted) Q E s := by
  have esl : es.size = L.length := by rw [← Array.length_toList, hrows, keyRows_len]
  have fits : t.fits es.size = true := by
    unfold SetTable.fits SetTable.fill
    rw [hdm, Bool.and_eq_true, beq_iff_eq, decide_eq_true_eq]
    show t.place.size = es.size ∧ t.place.size + 0 ≤ t.mask
    omega
  obtain ⟨t', order, e, hp, T, em, el, _, ed⟩ := relaid_ok t (hs := es.map (·.1)) (wanted := wanted) hw hM (by rw [Array.size_map, esl]; omega)
  rw [Array.size_map, esl] at hp
  obtain ⟨N, r1, r2, r3⟩ := keys_order L es order hrows hp
  rw [← r3] at T
  have sz2 : (order.filterMap (es[·]?)).size = es.size := by
    rw [← Array.length_toList, r1, keyRows_len, r2.length_eq, esl]
  rw [setRelay_eq]
  refine wpAny_bind (wpAny_setState_of ho hd fits ?_)
  dsimp only
  refine wp_if_neg (by rw [sizeLine_eq]; omega) ?_
  try refine wpAny_bind (wpAny_pure ?_)
  rw [e]
  dsimp only
  refine wpAny_bind ?_
  refine wp_if_neg (by rw [sz2]; simp) ?_
  try refine wpAny_bind (wpAny_pure ?_)
  refine wpAny_pure ?_
  dsimp only
  refine wpAny_storeSet_of ho hd ?_ (by rw [sz2, esl, sizeLine_eq]; omega)
  have sb : Heap.SameBut a s.heap (s.heap.update a (Obj.putSet (order.filterMap (es[·]?)) t')) := Heap.SameBut.update ..
  refine hQ _ N (order.filterMap (es[·]?)) (ep + 1) t' sb ?_ r2
  refine { ob := ⟨_, store_at ho hd, ⟨hex.1, hex.2.1, hex.2.2⟩, rfl⟩, rows := r1, tab := T, nd := (r2.map (·.2)).nodup_iff.mpr nd, tup := fun p m => isK_but (tup p (r2.mem_iff.mp m)) ho hd sb, led := by rw [el]; exact ld, room := ?_, few := by rw [r2.length_eq]; exact few }
  rw [r2.length_eq, em]
  exact hn

/-- a table's word does not speak of plain -/
theorem tab_plain {hs : List Int} (T : L2.TabOk t hs) (c : Bool) : L2.TabOk (if c = true then t else { t with plain := false }) hs := by
  cases c
  · exact ⟨T.ris, T.dm, T.sz, T.mok, T.bd, T.reach⟩
  · exact T
/-- set.add of a tuple of keys -/
theorem add_keys (R : SetKR P w s.heap a L es ep t) {x : Addr} {k : List Key} (hx : IsK P w s.heap k x) (hu : A.units < cLine) (hfew : L.length + 1 < 64) {Q : Bool → Shared → Prop}
    (hQ : ∀ b h' L' es' ep' t', Heap.SameBut a s.heap h' → SetKR P w h' a L' es' ep' t' → (k ∈ L.map (·.2) → L' = L) → (k ∉ L.map (·.2) → L'.Perm ((x, k) :: L)) → Q b { s with heap := h' }) :
    wpAny (model P w) A (setAddHashed a (.ref x) (khash P w k)) Q E s := by
  obtain ⟨o, ho, hex, hd⟩ := R.ob
  have esl := R.size
  have rm := R.room
  unfold setAddHashed
  refine wpAny_holding ?_
  rw [show (100000 : Nat) = 99999 + 1 from rfl, setAddHashedIn_succ]
  refine wpAny_bind (wpAny_setState_of ho hd R.fits ?_)
  dsimp only
  refine wp_if_neg (by simp [byScan, Value.scannable]) ?_
  try refine wpAny_bind (wpAny_pure ?_)
  refine wpAny_bind (find_at R hx hu (fun hm => ?_) fun K hm hfree hfull => ?_)
  · dsimp only
    exact wpAny_pure (hQ false s.heap L es ep t (Heap.SameBut.refl a s.heap) R (fun _ => rfl) fun z => absurd hm z)
  · dsimp only
    refine wpAny_bind (wpAny_setState_of ho hd R.fits ?_)
    dsimp only
    obtain ⟨q1, q2, q3, q4, q5, _, _, _, q9⟩ := R.tab.put hfree hfull
    generalize hpt : t.put (L2.way t.mask (khash P w k) K) = pt at q1 q3 q4 q5 q9 ⊢
    obtain ⟨t1, p⟩ := pt
    dsimp only at q1 q3 q4 q5 q9 ⊢
    subst q1
    have rest : ∀ c : Bool, wpAny (model P w) A (do
        storeSet a (SetTable.insertAt es (SetTable.below t.place (L2.way t.mask (khash P w k) K)) (khash P w k, Value.ref x)) (if c = true then t1 else { t1 with plain := false })
        if (!false && (if c = true then t1 else { t1 with plain := false }).tooFull) = true then setRelay a (SetTable.grown (es.size + 1))
        return true) Q E s := fun c => by
      have mk : (if c = true then t1 else { t1 with plain := false }).mask = t.mask := by cases c <;> exact q4
      have ld : (if c = true then t1 else { t1 with plain := false }).led = t.led := by cases c <;> exact q5
      have fl : (if c = true then t1 else { t1 with plain := false }).fill = (L.map fun p => khash P w p.2).length + 1 := by cases c <;> exact q9
      have T := tab_plain q3 c
      generalize (if c = true then t1 else { t1 with plain := false }) = t2 at mk ld fl T ⊢
      have rows1 : (SetTable.insertAt es (SetTable.below t.place (L2.way t.mask (khash P w k) K)) (khash P w k, Value.ref x)).toList = keyRows P w (L.take (SetTable.below t.place (L2.way t.mask (khash P w k) K)) ++ (x, k) :: L.drop (SetTable.below t.place (L2.way t.mask (khash P w k) K))) := by
        rw [SetTable.toList_insertAt, rows_at, R.rows]
      generalize SetTable.below t.place (L2.way t.mask (khash P w k) K) = p at q2 T rows1 ⊢
      have pm := put_perm L p (x, k)
      have len1 : (L.take p ++ (x, k) :: L.drop p).length = L.length + 1 := pm.length_eq
      have hs1 : (L.take p ++ (x, k) :: L.drop p).map (fun p => khash P w p.2) = (L.map fun p => khash P w p.2).take p ++ khash P w k :: (L.map fun p => khash P w p.2).drop p := by
        rw [List.map_append, List.map_cons, List.map_take, List.map_drop]
      rw [← hs1] at T
      have nd1 : ((L.take p ++ (x, k) :: L.drop p).map (·.2)).Nodup := (pm.map (·.2)).nodup_iff.mpr (List.nodup_cons.mpr ⟨hm, R.nd⟩)
      have es1 : (SetTable.insertAt es p (khash P w k, Value.ref x)).size = L.length + 1 := by rw [← Array.length_toList, rows1, keyRows_len, len1]
      generalize SetTable.insertAt es p (khash P w k, Value.ref x) = en at rows1 es1 ⊢
      generalize L.take p ++ (x, k) :: L.drop p = N at pm len1 T nd1 rows1
      refine wpAny_bind (wpAny_storeSet_of ho hd ?_ (by rw [es1, sizeLine_eq]; omega))
      have sb : Heap.SameBut a s.heap (s.heap.update a (Obj.putSet en t2)) := Heap.SameBut.update ..
      have ho1 := store_at (es' := en) (t' := t2) ho hd
      generalize s.heap.update a (Obj.putSet en t2) = h1 at sb ho1 ⊢
      have tup1 : ∀ p ∈ N, IsK P w h1 p.2 p.1 := fun p hp => by
        rcases List.mem_cons.mp (pm.mem_iff.mp hp) with e | hp
        · rw [e]
          exact isK_but hx ho hd sb
        · exact isK_but (R.tup p hp) ho hd sb
      have led1 : w.params.followText "set-order" = true ∨ t2.led = true := by rw [ld]; exact R.led
      have psz : t2.place.size = en.size := by
        have q := T.sz
        rw [List.length_map, len1] at q
        rw [q, es1]
      rw [List.length_map] at fl
      by_cases full : t2.tooFull = true
      · have much : (L.length + 1) * 5 ≥ t.mask * 3 := by
          have q := full
          unfold SetTable.tooFull at q
          rw [decide_eq_true_eq, fl, mk] at q
          exact q
        have two : (t.mask = 7 ∧ L.length = 4) ∨ (t.mask = 31 ∧ L.length = 18) := by
          rcases R.tab.mok with e | e | e
          · left; rw [e] at much rm; exact ⟨e, by omega⟩
          · right; rw [e] at much rm; exact ⟨e, by omega⟩
          · exfalso; rw [e] at much; omega
        rw [esl]
        have go : ∀ M, SetTable.sizeAbove (SetTable.grown (L.length + 1)) - 1 = M → MaskOk M → SetTable.sizeAbove (SetTable.grown (L.length + 1)) ≤ 128 → (L.length + 1) * 5 < M * 3 →
            wpAny (model P w) A (setRelay a (SetTable.grown (L.length + 1))) (fun _ z => wpAny (model P w) A (pure true) Q E z) E { s with heap := h1 } := fun M g1 g2 g3 g4 => by
          refine relay_keys (s := { s with heap := h1 }) ho1 ⟨hex.1, hex.2.1, hex.2.2⟩ rfl rows1 psz T.dm (by rw [es1, mk]; rcases two with ⟨e, e2⟩ | ⟨e, e2⟩ <;> omega) nd1 tup1 led1 (by rw [len1]; exact hfew) g1 g2 g3 (by rw [len1]; exact g4) ?_
          intro h2 L2' es2 ep2 t3 sb2 R2 pm2
          exact wpAny_pure (hQ true h2 L2' es2 ep2 t3 (sb.trans sb2) R2 (fun z => absurd z hm) fun _ => pm2.trans pm)
        first
          | (refine wpAny_bind ?_; refine wp_if_pos (by simp [full]) ?_)
          | (refine wp_if_pos (by simp [full]) ?_; refine wpAny_bind ?_)
        rcases two with ⟨_, e2⟩ | ⟨_, e2⟩
        · exact go 31 (by rw [e2, size_20]) (.inr (.inl rfl)) (by rw [e2, size_20]; decide) (by omega)
        · exact go 127 (by rw [e2, size_76]) (.inr (.inr rfl)) (by rw [e2, size_76]; decide) (by omega)
      · first
          | refine wp_if_neg (by simp [full]) ?_
          | (refine wpAny_bind ?_; refine wp_if_neg (by simp [full]) ?_; refine wpAny_pure ?_)
        refine wpAny_pure (hQ true h1 N en (ep + 1) t2 sb { ob := ⟨_, ho1, ⟨hex.1, hex.2.1, hex.2.2⟩, rfl⟩, rows := rows1, tab := T, nd := nd1, tup := tup1, led := led1, room := ?_, few := by rw [len1]; exact hfew } (fun z => absurd z hm) fun _ => pm)
        have q := full
        unfold SetTable.tooFull at q
        rw [decide_eq_true_eq, fl] at q
        rw [len1]
        omega
    by_cases pl : t1.plain = true
    · first
        | (refine wpAny_bind ?_; refine wp_if_pos pl ?_; exact hash_keys hx fun c => rest c)
        | exact wp_if_pos pl (wpAny_bind (hash_keys hx fun c => rest c))
    · first
        | (refine wpAny_bind ?_; refine wp_if_neg pl ?_; exact wpAny_pure (rest true))
        | exact wp_if_neg pl (wpAny_bind (wpAny_pure (rest true)))
end
end Hk
set_option Elab.async false
set_option linter.all false
set_option maxRecDepth 100000
set_option maxHeartbeats 4000000
/-! sorted(x) for x a list, a tuple, a set: what it gives is the one sorted list, by data. -/
namespace Hk
open PySem PySem.Spec PyProof.Rows L2
open PySem.W (EachIs AllAlike Sortable dataLe list_sort_data)
section
variable {P : Program} {w : World} {A : Around} {E : Value → Shared → Prop} {s : Shared} {β : Type}
/-- what the items of the sorted thing are -/
structure Items (R : Value → β → Prop) (enc : β → PyData) (A : Around) (s : Shared) (vs : List Value) (bs : List β) (s1 : Shared) : Prop where
  each : EachIs R vs bs
  reads : EachIs (fun v b => Reads s1.heap v (enc b) []) vs bs
  alike : AllAlike (bs.map enc)
  sortable : Sortable (bs.map enc)
  room : ∀ b, b ∈ bs → A.units + 4 + (enc b).depth < cLine
  len : bs.length ≤ sizeLine
  keep : ∀ b o, s.heap.get? b = some o → s1.heap.get? b = some o
  gens : s1.gens = s.gens
  os : s1.os = s.os
theorem Items.vlen {R : Value → β → Prop} {enc : β → PyData} {vs : List Value} {bs : List β} {s1 : Shared} (I : Items R enc A s vs bs s1) : vs.length ≤ sizeLine := by
  rw [I.each.length]
  exact I.len
theorem each_map2 {α γ : Type} {R R2 : α → γ → Prop} (h : ∀ a c, R a c → R2 a c) {xs : List α} {ys : List γ} (e : EachIs R xs ys) : EachIs R2 xs ys := e.mono h
theorem sorted_via {v : Value} {R : Value → β → Prop} {enc : β → PyData} {C : List Value → List β → Shared → Prop} {Q : Value → Shared → Prop}
    (hc : ∀ (Q1 : List Value → Shared → Prop), (∀ vs bs s1, C vs bs s1 → Items R enc A s vs bs s1 → Q1 vs s1) → wpAny (model P w) A.in1 (collect v) Q1 E s)
    (h : ∀ vs bs s1 (out : List Value) (c : Nat) (s' : Shared), C vs bs s1 → Items R enc A s vs bs s1 → EachIs R out (bs.mergeSort (dataLe false enc)) → (∀ b o, s1.heap.get? b = some o → s'.heap.get? b = some o) → s'.gens = s.gens → s'.os = s.os →
      s'.heap.get? s1.heap.objs.size = some (seqObj "list" out.toArray c) → Q (.ref s1.heap.objs.size) s') :
    wpAny (model P w) A (call (.builtin "sorted") [v]) Q E s := by
  refine Calls.call_function_entry kind_sorted plain_sorted entry_sorted (args_sorted1 _) ?_
  unfold Builtin.«sorted»
  refine wpAny_bind (m := checkCount "sorted" 1 1 _) (wpAny_pure ?_)
  refine wpAny_bind (hc _ fun vs bs s1 cc I => ?_)
  have vl := I.vlen
  refine wpAny_bind (wpAny_newList ?_ vl)
  have hoL : (s1.heap.push (seqObj "list" vs.toArray 0)).get? s1.heap.objs.size = some (seqObj "list" vs.toArray 0) := Heap.get?_push_size _ rfl
  have er : EachIs (fun v b => ∃ as, Reads (s1.heap.push (seqObj "list" vs.toArray 0)) v (enc b) as ∧ s1.heap.objs.size ∉ as) vs bs :=
    I.reads.mono fun v b r => ⟨[], PyProof.Rows.Reads.keeps (fun _ _ e => Heap.get?_push_of_some _ e) r, by simp⟩
  refine wpAny_bind (wpAny_holding (list_sort_data (A := A.in1) (s := { s1 with heap := s1.heap.push (seqObj "list" vs.toArray 0) }) hoL I.each er I.alike I.sortable I.len (fun b hb => by
    have q := I.room b hb
    show A.units + 1 + 1 + (enc b).depth < cLine
    omega) fun out ol eo => ?_))
  obtain ⟨c, hc2⟩ := sortedHeap_at (vs := vs) (out := out.toArray) hoL
  refine wpAny_pure ⟨_, rfl, h vs bs s1 out c _ cc I eo (fun b u e => ?_) I.gens I.os hc2⟩
  have lt := Heap.lt_size e
  show (sortedHeap (s1.heap.push (seqObj "list" vs.toArray 0)) s1.heap.objs.size vs out.toArray).get? b = some u
  rw [sortedHeap_old (Nat.ne_of_lt lt) (by rw [size_push']; exact Nat.lt_succ_of_lt lt)]
  exact Heap.get?_push_of_some _ e
end

/-! ### texts and tuples of texts as data -/
def encS (l : List Str) : PyData := .tuple (l.map PyData.str)
theorem alike_strs : ∀ {l m : List Str}, l.length = m.length → PySem.W.alikeAll (l.map PyData.str) (m.map PyData.str) = true
  | [], [], _ => by simp [PySem.W.alikeAll]
  | [], _ :: _, h => by simp at h
  | _ :: _, [], h => by simp at h
  | x :: l, y :: m, h => by
    show PySem.W.alikeAll (.str x :: l.map .str) (.str y :: m.map .str) = true
    rw [PySem.W.alikeAll, alike_strs (by simpa using h)]
    simp [PySem.W.alike]
theorem alike_encS {l m : List Str} (h : l.length = m.length) : PySem.W.alike (encS l) (encS m) = true := by
  unfold encS
  rw [PySem.W.alike]
  exact alike_strs h
theorem depth_strs : ∀ l : List Str, PyData.depthAll (l.map .str) = 0
  | [] => by simp [PyData.depthAll]
  | x :: l => by
    show PyData.depthAll (.str x :: l.map .str) = 0
    rw [PyData.depthAll, depth_strs l]
    simp [PyData.depth]
theorem depth_encS (l : List Str) : (encS l).depth = 1 := by
  unfold encS
  rw [PyData.depth, depth_strs]
theorem toks_strs : ∀ {l m : List Str}, PySem.W.keyToksAll (l.map PyData.str) = PySem.W.keyToksAll (m.map PyData.str) → l = m
  | [], [], _ => rfl
  | [], y :: m, h => by
    have h' : [Sum.inl 0] = (Sum.inl 1 :: (PySem.W.keyToks (.str y) ++ PySem.W.keyToksAll (m.map PyData.str)) : List (Int ⊕ List Nat)) := h
    simp at h'
  | x :: l, [], h => by
    have h' : (Sum.inl 1 :: (PySem.W.keyToks (.str x) ++ PySem.W.keyToksAll (l.map PyData.str)) : List (Int ⊕ List Nat)) = [Sum.inl 0] := h
    simp at h'
  | x :: l, y :: m, h => by
    have h' : (Sum.inl 1 :: (PySem.W.keyToks (.str x) ++ PySem.W.keyToksAll (l.map PyData.str)) : List (Int ⊕ List Nat)) = Sum.inl 1 :: (PySem.W.keyToks (.str y) ++ PySem.W.keyToksAll (m.map PyData.str)) := h
    have h1 := (List.cons.inj h').2
    have h2 : (Sum.inr x.cps.toList :: PySem.W.keyToksAll (l.map PyData.str) : List (Int ⊕ List Nat)) = Sum.inr y.cps.toList :: PySem.W.keyToksAll (m.map PyData.str) := h1
    obtain ⟨e1, e2⟩ := List.cons.inj h2
    rw [PySem.W.str_of_cps (Sum.inr.inj e1), toks_strs e2]
/-- the order of tuples of texts -/
def leS (l m : List Str) : Bool := dataLe false encS l m
theorem leS_total : PySem.W.TotalLe leS := PySem.W.sortLe_total (listOrd itemOrd) false fun b => PySem.W.keyToks (encS b)
theorem leS_anti {l m : List Str} (h1 : leS l m = true) (h2 : leS m l = true) : l = m := by
  have e1 : PySem.W.dataLt (encS m) (encS l) = false := by
    have q : (!PySem.W.dataLt (encS m) (encS l)) = true := h1
    simpa using q
  have e2 : PySem.W.dataLt (encS l) (encS m) = false := by
    have q : (!PySem.W.dataLt (encS l) (encS m)) = true := h2
    simpa using q
  have e3 : PySem.W.keyToks (encS l) = PySem.W.keyToks (encS m) := (listOrd itemOrd).total _ _ e2 e1
  exact toks_strs e3
/-- the order of texts -/
def leT (x y : Str) : Bool := dataLe false PyData.str x y
theorem leT_total : PySem.W.TotalLe leT := PySem.W.sortLe_total (listOrd itemOrd) false fun b => PySem.W.keyToks (.str b)
theorem leT_anti {x y : Str} (h1 : leT x y = true) (h2 : leT y x = true) : x = y := by
  have e1 : PySem.W.dataLt (.str y) (.str x) = false := by
    have q : (!PySem.W.dataLt (.str y) (.str x)) = true := h1
    simpa using q
  have e2 : PySem.W.dataLt (.str x) (.str y) = false := by
    have q : (!PySem.W.dataLt (.str x) (.str y)) = true := h2
    simpa using q
  have e3 : PySem.W.keyToks (.str x) = PySem.W.keyToks (.str y) := (listOrd itemOrd).total _ _ e2 e1
  have e4 : ([Sum.inr x.cps.toList] : List (Int ⊕ List Nat)) = [Sum.inr y.cps.toList] := e3
  exact PySem.W.str_of_cps (Sum.inr.inj (List.cons.inj e4).1)
/-- two sorted lists with the same members, each once, are one -/
theorem sorted_one {α : Type} {le : α → α → Bool} (anti : ∀ {a b : α}, le a b = true → le b a = true → a = b) {m n : List α} (hm : m.Pairwise fun a b => le a b = true) (hn : n.Pairwise fun a b => le a b = true) (p : m.Perm n) : m = n := by
  exact List.Perm.eq_of_pairwise (le := fun a b => le a b = true) (fun a b _ _ h1 h2 => anti h1 h2) hm hn p
end Hk
set_option Elab.async false
set_option linter.all false
set_option maxRecDepth 100000
set_option maxHeartbeats 4000000
/-! Rules over the hand layer: set(x) of tuples of keys, of keys; len of these; sorted(x). -/
namespace Hk
open PySem PySem.Spec PyProof.Rows L2
open PySem.W (EachIs AllAlike Sortable dataLe)
abbrev KT := Addr × List Key
/-! ### set(x), x a list or a tuple of tuples of keys -/
/-- what the set has behind i items -/
structure Gets (ks : List KT) (i : Nat) (L : List KT) : Prop where
  sub : ∀ p ∈ L, p ∈ ks.take i
  all : ∀ p ∈ ks.take i, p.2 ∈ L.map (·.2)
  len : L.length ≤ i
theorem take_up {α : Type} {l : List α} {i : Nat} {x : α} (h : l[i]? = some x) : l.take (i + 1) = l.take i ++ [x] := by
  rw [List.take_add_one, h]
  all_goals rfl
theorem Gets.none (ks : List KT) : Gets ks 0 [] := ⟨by simp, by simp, Nat.le_refl _⟩
theorem Gets.old {ks L : List KT} {i : Nat} {x : KT} (g : Gets ks i L) (h : ks[i]? = some x) (m : x.2 ∈ L.map (·.2)) : Gets ks (i + 1) L := by
  have e := take_up h
  refine ⟨fun p hp => by rw [e]; exact List.mem_append_left _ (g.sub p hp), fun p hp => ?_, Nat.le_succ_of_le g.len⟩
  rw [e] at hp
  rcases List.mem_append.mp hp with z | z
  · exact g.all p z
  · rw [List.mem_singleton.mp z]
    exact m
theorem Gets.new {ks L M : List KT} {i : Nat} {x : KT} (g : Gets ks i L) (h : ks[i]? = some x) (pm : M.Perm (x :: L)) : Gets ks (i + 1) M := by
  have e := take_up h
  refine ⟨fun p hp => ?_, fun p hp => ?_, ?_⟩
  · rw [e]
    rcases List.mem_cons.mp (pm.mem_iff.mp hp) with z | z
    · exact List.mem_append_right _ (List.mem_singleton.mpr z)
    · exact List.mem_append_left _ (g.sub p z)
  · rw [e] at hp
    rw [(pm.map (·.2)).mem_iff, List.map_cons]
    rcases List.mem_append.mp hp with z | z
    · exact List.mem_cons_of_mem _ (g.all p z)
    · rw [List.mem_singleton.mp z]
      exact List.mem_cons_self
  · rw [pm.length_eq]
    exact Nat.succ_le_succ g.len
section
variable {P : Program} {w : World} {A : Around} {E : Value → Shared → Prop} {s : Shared}
theorem IsK.kept {h h' : Heap} {k : List Key} {b : Addr} (x : IsK P w h k b) (hk : ∀ c o, h.get? c = some o → h'.get? c = some o) : IsK P w h' k b := by
  obtain ⟨o, items, n, ho, r⟩ := x
  exact ⟨o, items, n, hk b o ho, r⟩
theorem setKR_fresh {h : Heap} {a : Addr} (ho : h.get? a = some (freshSet w)) : SetKR P w h a [] #[] 0 (.fresh 0 0 (!w.params.followText "set-order")) where
  ob := ⟨_, ho, ⟨rfl, rfl, rfl⟩, rfl⟩
  rows := rfl
  tab := ⟨List.Pairwise.nil, rfl, rfl, .inl rfl, fun x hx => (by cases hx), fun i h j hi => (by simp at hi)⟩
  nd := List.nodup_nil
  tup := fun p hp => (by cases hp)
  led := by
    show _ ∨ (!w.params.followText "set-order") = true
    cases w.params.followText "set-order"
    · exact .inr rfl
    · exact .inl rfl
  room := by
    show 0 * 5 < 7 * 3
    decide
  few := by
    show 0 < 64
    decide
/-- the invariant of set(x), x of tuples of keys -/
def JT (P : Program) (w : World) (S : Addr) (ks : List KT) (i : Nat) (h : Heap) : Prop := (∀ p ∈ ks, IsK P w h p.2 p.1) ∧ ∃ L es ep t, SetKR P w h S L es ep t ∧ Gets ks i L
theorem step_keys {S : Addr} {ks : List KT} (hk : ∀ p ∈ ks, IsK P w s.heap p.2 p.1) (few : ks.length < 64) (hS : s.heap.get? S = none) : AddStep P w s.heap S (ks.map fun p => Value.ref p.1) (JT P w S ks) 0 := by
  intro A' E' Q i v s1 hu hv ⟨tk, L, es, ep, t, R, g⟩ kp fin
  rw [List.getElem?_map] at hv
  obtain ⟨p, hp, ev⟩ := Option.map_eq_some_iff.mp hv
  subst ev
  have hx : IsK P w s1.heap p.2 p.1 := tk p (List.mem_of_getElem? hp)
  have il : i < ks.length := (List.getElem?_eq_some_iff.mp hp).1
  unfold setAdd
  refine wpAny_holding ?_
  refine wpAny_bind (wpAny_pyHash_tuple hu hx ?_)
  refine add_keys (s := { s1 with toks := s1.toks + (p.2.length + 1) }) R hx hu (by have := g.len; omega) fun b h' M es' ep' t' sb R' c1 c2 => ?_
  have g' : Gets ks (i + 1) M := by
    rcases Classical.em (p.2 ∈ L.map (·.2)) with c | c
    · rw [c1 c]
      exact g.old hp c
    · exact g.new hp (c2 c)
  obtain ⟨o, ho, _, hd⟩ := R.ob
  exact fin b h' _ sb ⟨fun q hq => isK_but (tk q hq) ho hd sb, M, es', ep', t', R', g'⟩ (Nat.le_add_right _ _)
theorem JT.stays {S : Addr} {ks : List KT} (hk : ∀ p ∈ ks, IsK P w s.heap p.2 p.1) (i : Nat) (h h' : Heap) (j : JT P w S ks i h) (hS : ∀ o, h.get? S = some o → h'.get? S = some o) (kp : ∀ b o, s.heap.get? b = some o → h'.get? b = some o) : JT P w S ks i h' := by
  obtain ⟨_, L, es, ep, t, R, g⟩ := j
  have tk : ∀ p ∈ ks, IsK P w h' p.2 p.1 := fun p hp => (hk p hp).kept kp
  obtain ⟨o, ho, r⟩ := R.ob
  exact ⟨tk, L, es, ep, t, ⟨⟨o, hS o ho, r⟩, R.rows, R.tab, R.nd, fun p hp => tk p (List.mem_of_mem_take (g.sub p hp)), R.led, R.room, R.few⟩, g⟩
/-- set(x) -/
theorem call_set_keys {T : String} {l : Addr} {items : Array Value} (ks : List KT) {Q : Value → Shared → Prop} (hh : A.handled = none) (W : Seqs P w T l items s) (hit : items.toList = ks.map fun p => Value.ref p.1)
    (hk : ∀ p ∈ ks, IsK P w s.heap p.2 p.1) (few : ks.length < 64) (hu : A.units + 3 < cLine)
    (h : ∀ (h' : Heap) (tk : Nat) L es ep t, SetKR P w h' s.heap.objs.size L es ep t → Gets ks ks.length L → (∀ b o, s.heap.get? b = some o → h'.get? b = some o) → Q (.ref s.heap.objs.size) { s with heap := h', toks := tk }) :
    wpAny (model P w) A (call (.type "set") [.ref l]) Q E s := by
  have sz : items.size = ks.length := by rw [← Array.length_toList, hit, List.length_map]
  refine call_set_any (J := JT P w s.heap.objs.size ks) (room := 0) hh W hu (by rw [hit]; exact step_keys hk few (get_end (Nat.le_refl _))) (JT.stays hk) (fun h' fr kp => ?_) fun h' tk j kp => ?_
  · exact ⟨fun p hp => (hk p hp).kept kp, [], #[], 0, _, setKR_fresh fr, Gets.none ks⟩
  · obtain ⟨_, L, es, ep, t, R, g⟩ := j
    rw [sz] at g
    exact h h' tk L es ep t R g kp
end
/-! ### over the layer -/
structure SetK0 (P : Program) (w : World) (h : Heap) (a : Addr) (L : List KT) : Prop where
  ex : ∃ (es : Array (Int × Value)) (ep : Nat) (t : SetTable), (∃ o, h.get? a = some o ∧ o.ExactSet ∧ o.data = .set es ep t) ∧ es.toList = keyRows P w L ∧ L2.TabOk t (L.map fun p => khash P w p.2) ∧ (L.map (·.2)).Nodup ∧
    (w.params.followText "set-order" = true ∨ t.led = true) ∧ L.length * 5 < t.mask * 3 ∧ L.length < 64
/-- the set at a, its members the tuples in L -/
def SetKO (P : Program) (w : World) (a : Addr) (L : List KT) : HO := .ext fun h => SetK0 P w h a L
theorem SetKR.less {P : Program} {w : World} {h : Heap} {a : Addr} {L : List KT} {es : Array (Int × Value)} {ep : Nat} {t : SetTable} (R : SetKR P w h a L es ep t) : SetK0 P w h a L :=
  ⟨es, ep, t, R.ob, R.rows, R.tab, R.nd, R.led, R.room, R.few⟩
theorem SetK0.full {P : Program} {w : World} {h : Heap} {a : Addr} {L : List KT} (R : SetK0 P w h a L) (ht : ∀ p ∈ L, IsK P w h p.2 p.1) : ∃ es ep t, SetKR P w h a L es ep t := by
  obtain ⟨es, ep, t, h1, h2, h3, h4, h6, h7, h8⟩ := R.ex
  exact ⟨es, ep, t, h1, h2, h3, h4, ht, h6, h7, h8⟩
theorem setKO_new {P : Program} {w : World} {H : Hp} {h : Heap} {a : Addr} {L : List KT} (R : SetK0 P w h a L) : ObjOk P w H h a (SetKO P w a L) := by
  have ⟨es, ep, t, ⟨o, ho, r⟩, q⟩ := R.ex
  refine ⟨R, ⟨o, ho⟩, fun h1 h2 p k => ?_⟩
  have ⟨es', ep', t', ⟨o', ho', r'⟩, q'⟩ := SetK0.ex p
  exact ⟨es', ep', t', ⟨o', k o' ho', r'⟩, q'⟩
theorem keys_vals {P : Program} {w : World} : ∀ {k : List Key} {us : List Value}, Vals (k.map kV) us → ItemsAre (mixKind P w) k us
  | [], _, .nil => .nil
  | .inl i :: k, _, .cons r t => by
    obtain ⟨tk, rfl⟩ := r
    exact .cons (mixKind_int P w i tk) (keys_vals t)
  | .inr x :: k, _, .cons r t => by
    obtain ⟨tk, rfl⟩ := r
    exact .cons (mixKind_str P w x tk) (keys_vals t)
theorem vals_refs : ∀ {ks : List KT} {us : List Value}, Vals (ks.map fun p => V.ref p.1) us → us = ks.map fun p => Value.ref p.1
  | [], _, .nil => rfl
  | p :: ks, _, .cons r t => by
    cases r
    rw [vals_refs t]
    all_goals rfl
theorem refs_vals : ∀ (ks : List KT), Vals (ks.map fun p => V.ref p.1) (ks.map fun p => Value.ref p.1)
  | [] => .nil
  | p :: ks => .cons rfl (refs_vals ks)
section
variable {X : Cx}
theorem inv_isK {pins : List (Addr × Obj)} {σ : L2.St} {H : Hp} {s : Shared} {b : Addr} {k : List Key} (I : Inv X pins σ H s) (h : SqT X.K H b (k.map kV)) : IsK X.prog X.w s.heap k b := by
  obtain ⟨its, r, ⟨o, ho, hc, n, hd⟩, _⟩ := I.tuple h
  exact ⟨o, its.toArray, n, ho, hc, hd, by simpa using keys_vals r⟩
/-- set(x), x a list or a tuple of tuples of keys -/
def rSetT (K : PySem.W.Frag) (P : Program) (w : World) : List V → Hp → VK → Prop := fun xs H Q => ∃ (l : Addr) (ks : List KT), xs = [V.ref l] ∧ (SqL K H l (ks.map fun p => V.ref p.1) ∨ SqT K H l (ks.map fun p => V.ref p.1)) ∧
  (∀ p ∈ ks, SqT K H p.1 (p.2.map kV)) ∧ ks.length < 64 ∧
  ∀ a L, H a = none → (∀ p ∈ L, p ∈ ks) → (∀ p ∈ ks, p.2 ∈ L.map (·.2)) → (L.map (·.2)).Nodup → Q (.ref a) (upd H a (SetKO P w a L))
theorem cr_setT (hc : X.calm = true) (hu : X.A.units + 64 < cLine) : CallR X (.type "set") (rSetT X.K X.prog X.w) := by
  intro pins s σ H xs us Q I r h
  obtain ⟨l, ks, rfl, hl, hk, hf, q⟩ := h
  rw [Vals.ref1 r]
  have hn : H s.heap.objs.size = none := I.hok.fresh (Nat.le_refl _)
  have fin : ∀ (h' : Heap) (tk : Nat) L es ep t, SetKR X.prog X.w h' s.heap.objs.size L es ep t → Gets ks ks.length L → (∀ b o, s.heap.get? b = some o → h'.get? b = some o) →
      ∃ v H', Inv X pins σ H' { s with heap := h', toks := tk } ∧ RelV v (.ref s.heap.objs.size) ∧ Q v H' := fun h' tk L es ep t R g k => by
    refine ⟨.ref s.heap.objs.size, upd H s.heap.objs.size (SetKO X.prog X.w s.heap.objs.size L), I.laid (t' := tk) k (Nat.le_refl _) (setKO_new R.less), rfl, q _ L hn (fun p hp => ?_) (fun p hp => ?_) R.nd⟩
    · exact List.mem_of_mem_take (g.sub p hp)
    · exact g.all p (by rw [List.take_length]; exact hp)
  rcases hl with hl | hl
  · obtain ⟨its, rv, pl, hz⟩ := I.list hl
    exact call_set_keys (P := X.prog) (w := X.w) ks (I.ok.hd hc) (Seqs.list pl.isList) (by simpa using vals_refs rv) (fun p hp => inv_isK I (hk p hp)) hf (by omega) fin
  · obtain ⟨its, rv, pl, hz⟩ := I.tuple hl
    exact call_set_keys (P := X.prog) (w := X.w) ks (I.ok.hd hc) (Seqs.tuple pl) (by simpa using vals_refs rv) (fun p hp => inv_isK I (hk p hp)) hf (by omega) fin
end
end Hk
set_option Elab.async false
set_option linter.all false
set_option maxRecDepth 100000
set_option maxHeartbeats 4000000
namespace Hk
open PySem PySem.Spec PyProof.Rows L2
open PySem.W (EachIs AllAlike Sortable dataLe)
def unK (k : List Key) : List Str := k.filterMap fun x => match x with
  | .inr t => some t
  | .inl _ => none
theorem unK_inr (l : List Str) : unK (l.map Sum.inr) = l := by
  unfold unK
  rw [List.filterMap_map]
  induction l with
  | nil => rfl
  | cons x l ih =>
    rw [List.filterMap_cons_some (f := (fun x => match x with
      | Sum.inr t => some t
      | Sum.inl _ => none : Key → Option Str) ∘ Sum.inr) (a := x) (b := x) rfl]
    exact congrArg (x :: ·) ih
/-- the invariant where all objects are kept -/
theorem inv_kept {X : Cx} {pins : List (Addr × Obj)} {σ : L2.St} {H : Hp} {s z : Shared} (I : L2.Inv X pins σ H s) (k : ∀ b o, s.heap.get? b = some o → z.heap.get? b = some o) (g : z.gens = s.gens) (os : z.os = s.os) : L2.Inv X pins σ H z := by
  have J : L2.Inv X pins σ H { s with heap := z.heap, gens := z.gens, drawn := z.drawn, toks := z.toks } := I.call (ch := []) (Un.kept k) (I.hok.kept k) (by rw [g]; exact I.bare) (fun _ y => nomatch y)
  have e : z = { s with heap := z.heap, gens := z.gens, drawn := z.drawn, toks := z.toks } := by
    cases z
    cases s
    cases os
    rfl
  rw [e]
  exact J
/-- .. and one more is laid at the end -/
theorem inv_laid {X : Cx} {pins : List (Addr × Obj)} {σ : L2.St} {H : Hp} {s z : Shared} {o : HO} (I : L2.Inv X pins σ H s) (k : ∀ b o, s.heap.get? b = some o → z.heap.get? b = some o) (g : z.gens = s.gens) (os : z.os = s.os)
    (new : ObjOk X.prog X.w (upd H s.heap.objs.size o) z.heap s.heap.objs.size o) : L2.Inv X pins σ (upd H s.heap.objs.size o) z := by
  have hn : H s.heap.objs.size = none := I.hok.fresh (Nat.le_refl _)
  have J : L2.Inv X pins σ (upd H s.heap.objs.size o) { s with heap := z.heap, gens := z.gens, drawn := z.drawn, toks := z.toks } :=
    I.call (ch := []) (Un.laid k (Nat.le_refl _) hn) (I.hok.laid k (Nat.le_refl _) new) (by rw [g]; exact I.bare) (fun _ y => nomatch y)
  have e : z = { s with heap := z.heap, gens := z.gens, drawn := z.drawn, toks := z.toks } := by
    cases z
    cases s
    cases os
    rfl
  rw [e]
  exact J
section
variable {P : Program} {w : World}
theorem reads_strs {h : Heap} : ∀ {l : List Str} {vs : List Value}, ItemsAre (mixKind P w) (l.map Sum.inr) vs → ReadsAll h vs (l.map PyData.str) []
  | [], _, x => by
    cases x
    exact .nil
  | t :: l, _, x => by
    cases x with
    | cons h1 h2 =>
      rcases keyIs_shape (k := (Sum.inr t : Key)) h1 with ⟨i, u, e, _⟩ | ⟨y, u, e, rfl⟩
      · cases e
      · cases e
        exact .cons (.str _ _) (reads_strs h2)
theorem reads_isK {h : Heap} {l : List Str} {a : Addr} (x : IsK P w h (l.map Sum.inr) a) : Reads h (.ref a) (encS l) [] := by
  obtain ⟨o, items, n, ho, hc, hd, hi⟩ := x
  exact .tuple ho hc hd (reads_strs hi)
theorem nodup_map {α γ : Type} {f : α → γ} {l : List α} (h : (l.map f).Nodup) : l.Nodup := List.Pairwise.of_map f (fun _ _ hne e => hne (congrArg f e)) h
theorem each_self {α γ : Type} {R : α → γ → Prop} (f : γ → α) (h : ∀ c, R (f c) c) : ∀ l : List γ, EachIs R (l.map f) l
  | [] => .nil
  | c :: l => .cons (h c) (each_self f h l)
theorem each_mem2 {α γ : Type} {R : α → γ → Prop} (f : γ → α) : ∀ l : List γ, (∀ c ∈ l, R (f c) c) → EachIs R (l.map f) l
  | [], _ => .nil
  | c :: l, h => .cons (h c List.mem_cons_self) (each_mem2 f l fun d m => h d (List.mem_cons_of_mem _ m))
theorem each_eq {α γ : Type} {f : γ → α} : ∀ {xs : List α} {l : List γ}, EachIs (fun a c => a = f c) xs l → xs = l.map f
  | _, _, .nil => rfl
  | _, _, .cons h t => by rw [h, each_eq t]; rfl
end
section
variable {X : Cx}
/-- sorted(set), its members tuples of d texts -/
def rSortKO (K : PySem.W.Frag) (P : Program) (w : World) : List V → Hp → VK → Prop := fun vs H Q => ∃ (a : Addr) (L : List KT) (d : Nat), vs = [V.ref a] ∧ H a = some (SetKO P w a L) ∧ (∀ p ∈ L, SqT K H p.1 (p.2.map kV)) ∧
  (∀ p ∈ L, ∃ t : List Str, p.2 = t.map Sum.inr ∧ t.length = d + 1) ∧
  ∀ (M : List KT) (p : Addr), M.Perm L → (M.map (·.2)).Nodup → M.Pairwise (fun q r => leS (unK q.2) (unK r.2) = true) → H p = none → Q (.ref p) (upd H p (.lst (M.map fun q => V.ref q.1)))
theorem cr_sortKO (hc : X.calm = true) (hu : X.A.units + 64 < cLine) : CallR X (.builtin "sorted") (rSortKO X.K X.prog X.w) := by
  intro pins s σ H vs us Q I r h
  obtain ⟨a, L, d, rfl, ha, hk, ht, q⟩ := h
  have R0 : SetK0 X.prog X.w s.heap a L := (I.hok a _ ha).1
  obtain ⟨es, ep, t, R⟩ := R0.full fun p hp => inv_isK I (hk p hp)
  rw [Vals.ref1 r]
  obtain ⟨o, ho, hex, hd⟩ := R.ob
  have esl := R.size
  have few := R.few
  have evs : es.toList.map (·.2) = L.map fun q => Value.ref q.1 := by
    rw [R.rows]
    unfold keyRows
    rw [List.map_map]
    all_goals rfl
  -- an address has one key
  have one : ∀ q ∈ L, ∀ r ∈ L, q.1 = r.1 → q = r := fun q hq r hr e => by
    have a1 := R.tup q hq
    have a2 := R.tup r hr
    rw [e] at a1
    exact Prod.ext e (a1.inj a2)
  have back : ∀ vs : List Value, (∀ v ∈ vs, ∃ q ∈ L, v = Value.ref q.1) → ∃ M : List KT, vs = M.map (fun q => Value.ref q.1) ∧ ∀ q ∈ M, q ∈ L := by
    intro vs
    induction vs with
    | nil => intro _; exact ⟨[], rfl, by simp⟩
    | cons v vs ih =>
      intro hv
      obtain ⟨q, hq, e⟩ := hv v List.mem_cons_self
      obtain ⟨M, e1, hs⟩ := ih fun u hu => hv u (List.mem_cons_of_mem _ hu)
      refine ⟨q :: M, by rw [List.map_cons, e, e1], fun r hr => ?_⟩
      rcases List.mem_cons.mp hr with z | z
      · rw [z]; exact hq
      · exact hs r z
  have permL : ∀ M : List KT, (∀ q ∈ M, q ∈ L) → (M.map (fun q => Value.ref q.1)).Perm (L.map fun q => Value.ref q.1) → M.Perm L := by
    intro M hs pm
    have nL : L.Nodup := nodup_map R.nd
    have nref : (L.map fun q => Value.ref q.1).Nodup := by
      refine List.pairwise_map.mpr (List.Pairwise.imp_of_mem (fun {q r} hq hr hne e => ?_) nL)
      injection e with e
      exact hne (one q hq r hr e)
    refine (List.perm_ext_iff_of_nodup (nodup_map (pm.nodup_iff.mpr nref)) nL).mpr fun q => ⟨hs q, fun hq => ?_⟩
    obtain ⟨r, hr, e⟩ := List.mem_map.mp (pm.mem_iff.mpr (List.mem_map.mpr ⟨q, hq, rfl⟩))
    injection e with e
    rw [← one r (hs r hr) q hq e]
    exact hr
  refine sorted_via (β := KT) (R := fun v p => v = Value.ref p.1) (enc := fun p => encS (unK p.2)) (C := fun vs M s1 => M.Perm L ∧ vs = M.map fun q => Value.ref q.1) (fun Q1 go => ?_) fun vs M s1 out c z cc it eo kz g os hz => ?_
  · refine collect_set (A := X.A.in1) (I.ok.hd hc) ⟨o, ho, hex.1, hd⟩ R.fits (by unfold scanBound; omega) R.tab.ris R.led fun s1 vs k1 hz g1 o1 pm => ?_
    rw [evs] at pm
    obtain ⟨M, e1, hs⟩ := back vs fun v hv => by
      obtain ⟨q, hq, e⟩ := List.mem_map.mp (pm.mem_iff.mp hv)
      exact ⟨q, hq, e.symm⟩
    have pM : M.Perm L := permL M hs (by rw [← e1]; exact pm)
    have lenM : M.length < 64 := by rw [pM.length_eq]; exact few
    subst e1
    refine go _ M s1 ⟨pM, rfl⟩ { each := each_mem2 _ M fun _ _ => rfl, reads := each_mem2 _ M fun p hp => ?_, alike := fun x hx y hy => ?_, sortable := .inl fun x hx => ?_, room := fun p hp => ?_, len := by rw [sizeLine_eq]; omega, keep := k1, gens := g1, os := o1 }
    · obtain ⟨t, et, _⟩ := ht p (hs p hp)
      have x : IsK X.prog X.w s1.heap (t.map Sum.inr) p.1 := by
        rw [← et]
        exact (R.tup p (hs p hp)).kept k1
      show Reads s1.heap (.ref p.1) (encS (unK p.2)) []
      rw [et, unK_inr]
      exact reads_isK x
    · obtain ⟨p, hp, rfl⟩ := List.mem_map.mp hx
      obtain ⟨p', hp', rfl⟩ := List.mem_map.mp hy
      obtain ⟨t, et, lt⟩ := ht p (hs p hp)
      obtain ⟨t', et', lt'⟩ := ht p' (hs p' hp')
      show PySem.W.alike (encS (unK p.2)) (encS (unK p'.2)) = true
      rw [et, et', unK_inr, unK_inr]
      exact alike_encS (lt.trans lt'.symm)
    · obtain ⟨p, hp, rfl⟩ := List.mem_map.mp hx
      obtain ⟨t, et, lt⟩ := ht p (hs p hp)
      show ∃ y r, encS (unK p.2) = .tuple (y :: r)
      rw [et, unK_inr]
      cases t with
      | nil => simp at lt
      | cons y t => exact ⟨_, _, rfl⟩
    · show X.A.units + 4 + (encS (unK p.2)).depth < cLine
      rw [depth_encS]
      omega
  · obtain ⟨pM, _⟩ := cc
    have eo2 : out = (M.mergeSort (dataLe false fun p => encS (unK p.2))).map fun q => Value.ref q.1 := each_eq eo
    have I1 := inv_kept I it.keep it.gens it.os
    have hn : H s1.heap.objs.size = none := I1.hok.fresh (Nat.le_refl _)
    have pm2 : (M.mergeSort (dataLe false fun p => encS (unK p.2))).Perm L := (List.mergeSort_perm _ _).trans pM
    have pw : (M.mergeSort (dataLe false fun p => encS (unK p.2))).Pairwise (fun q r => leS (unK q.2) (unK r.2) = true) :=
      PySem.W.sort_pairwise (le := dataLe false fun p : KT => encS (unK p.2)) (PySem.W.sortLe_total (listOrd itemOrd) false fun p : KT => PySem.W.keyToks (encS (unK p.2))) M
    generalize M.mergeSort (dataLe false fun p => encS (unK p.2)) = N at eo2 pm2 pw
    have len : (N.map fun q => V.ref q.1).length ≤ sizeLine := by rw [List.length_map, pm2.length_eq, sizeLine_eq]; omega
    have J := inv_laid (o := .lst (N.map fun q => V.ref q.1)) I1 kz (g.trans it.gens.symm) (os.trans it.os.symm) ⟨len, out, c, by rw [eo2]; exact refs_vals N, hz⟩
    exact ⟨.ref s1.heap.objs.size, _, J, rfl, q N _ pm2 ((pm2.map (·.2)).nodup_iff.mpr R.nd) pw hn⟩

/-- sorted(x), x a list or a tuple of texts -/
def rSortX (K : PySem.W.Frag) : List V → Hp → VK → Prop := fun vs H Q => ∃ (a : Addr) (xs : List Str), vs = [V.ref a] ∧ (SqL K H a (xs.map V.str) ∨ SqT K H a (xs.map V.str)) ∧ 
  ∀ p : Addr, H p = none → Q (.ref p) (upd H p (.lst ((xs.mergeSort leT).map V.str)))
theorem vals_strs : ∀ {xs : List Str} {us : List Value}, Vals (xs.map V.str) us → EachIs (fun v x => ∃ t, v = Value.str x t) us xs
  | [], _, .nil => .nil
  | x :: xs, _, .cons r t => by
    obtain ⟨k, rfl⟩ := r
    exact .cons ⟨k, rfl⟩ (vals_strs t)
theorem strs_vals : ∀ {xs : List Str} {us : List Value}, EachIs (fun v x => ∃ t, v = Value.str x t) us xs → Vals (xs.map V.str) us
  | [], _, .nil => .nil
  | x :: xs, _, .cons ⟨k, e⟩ t => by
    subst e
    exact .cons ⟨k, rfl⟩ (strs_vals t)
theorem cr_sortX (hu : X.A.units + 64 < cLine) : CallR X (.builtin "sorted") (rSortX X.K) := by
  intro pins s σ H vs us Q I r h
  obtain ⟨a, xs, rfl, ha, q⟩ := h
  rw [Vals.ref1 r]
  have seq : ∃ (T : String) (o : Obj) (its : List Value) (n : Nat), (T = "list" ∨ T = "tuple") ∧ s.heap.get? a = some o ∧ o.cls = .type T ∧ o.data = .seq its.toArray n ∧ Vals (xs.map V.str) its ∧ xs.length ≤ sizeLine := by
    rcases ha with ha | ha
    · obtain ⟨its, rv, ⟨o, n, ho, hc, _, hd⟩, hz⟩ := I.list ha
      exact ⟨"list", o, its, n, .inl rfl, ho, hc, hd, rv, by simpa using hz⟩
    · obtain ⟨its, rv, ⟨o, ho, hc, n, hd⟩, hz⟩ := I.tuple ha
      exact ⟨"tuple", o, its, n, .inr rfl, ho, hc, hd, rv, by simpa using hz⟩
  obtain ⟨T, o, its, n, hT, ho, hc, hd, rv, hz⟩ := seq
  have ev := vals_strs rv
  refine sorted_via (β := Str) (R := fun v x => ∃ t, v = Value.str x t) (enc := PyData.str) (C := fun vs bs s1 => bs = xs) (fun Q1 go => ?_) fun vs bs s1 out c z cc it eo kz g os hzz => ?_
  · refine wpAny_collect_seq a hT ho hc hd (fun h' k => go _ xs _ rfl ?_) (by rw [List.size_toArray, ← rv.length, List.length_map]; exact hz)
    have ev2 : EachIs (fun v x => ∃ t, v = Value.str x t) its.toArray.toList xs := by simpa using ev
    refine { each := ev2, reads := ev2.mono fun v x ⟨t, e⟩ => by rw [e]; exact .str x t, alike := fun x hx y hy => ?_, sortable := .inr fun x hx => ?_, room := fun x hx => ?_, len := hz, keep := k, gens := rfl, os := rfl }
    · obtain ⟨p, hp, rfl⟩ := List.mem_map.mp hx
      obtain ⟨p', hp', rfl⟩ := List.mem_map.mp hy
      simp [PySem.W.alike]
    · obtain ⟨p, hp, rfl⟩ := List.mem_map.mp hx
      exact ⟨by simp, by simp⟩
    · simp only [PyData.depth]
      omega
  · have ebs : bs = xs := cc
    rw [ebs] at eo
    have I1 := inv_kept I it.keep it.gens it.os
    have hn : H s1.heap.objs.size = none := I1.hok.fresh (Nat.le_refl _)
    have len : ((xs.mergeSort leT).map V.str).length ≤ sizeLine := by rw [List.length_map, (List.mergeSort_perm _ _).length_eq]; exact hz
    have J := inv_laid (o := .lst ((xs.mergeSort leT).map V.str)) I1 kz (g.trans it.gens.symm) (os.trans it.os.symm) ⟨len, out, c, strs_vals eo, hzz⟩
    exact ⟨.ref s1.heap.objs.size, _, J, rfl, q _ hn⟩
end
end Hk
set_option Elab.async false
set_option linter.all false
set_option maxRecDepth 100000
set_option maxHeartbeats 4000000
namespace Hk
open PySem PySem.Spec PyProof.Rows L2
def memK (k : Key) (l : List Key) : Bool := l.any fun x => decide (x = k)
theorem memK_iff {k : Key} {l : List Key} : memK k l = true ↔ k ∈ l := by
  unfold memK
  rw [List.any_eq_true]
  constructor
  · rintro ⟨x, hx, e⟩
    rw [← of_decide_eq_true e]
    exact hx
  · exact fun h => ⟨k, h, decide_eq_true rfl⟩
section
variable {P : Program} {w : World} {A : Around} {E : Value → Shared → Prop} {s : Shared}
/-- the invariant of set(x), x of keys: what is in, how many -/
def JW (P : Program) (w : World) (S : Addr) (ks : List Key) (i : Nat) (h : Heap) : Prop := ∃ n, h.SetOf (mixKind P w) S (fun k => memK k (ks.take i)) n ∧ n ≤ i ∧ (n = i ↔ (ks.take i).Nodup)
theorem setOf_eq {h : Heap} {a : Addr} {S T : Key → Bool} {n : Nat} (x : h.SetOf (mixKind P w) a S n) (e : ∀ k, S k = T k) : h.SetOf (mixKind P w) a T n := by
  have q : S = T := funext e
  rw [← q]
  exact x
theorem step_words {S : Addr} {ks : List Key} {vs : List Value} (hv : Vals (ks.map kV) vs) (few : ks.length < 4000) : AddStep P w s.heap S vs (JW P w S ks) 0 := by
  intro A' E' Q i v s1 hu hi ⟨n, R, hn, hd⟩ kp fin
  have il : i < ks.length := by
    have q := (List.getElem?_eq_some_iff.mp hi).1
    rw [← hv.length, List.length_map] at q
    exact q
  have hk : ks[i]? = some ks[i] := List.getElem?_eq_getElem il
  have rk : RelV (kV ks[i]) v := by
    obtain ⟨u, e, r⟩ := hv.get (i := i) (x := kV ks[i]) (by rw [List.getElem?_map, hk]; rfl)
    rw [hi] at e
    cases e
    exact r
  have up := take_up hk
  generalize ks[i] = k at hk rk up
  unfold setAdd
  refine wpAny_holding ?_
  refine wpAny_bind ((mixKind P w).pyHash (kV_is rk) ?_)
  refine wpAny_setAddHashed_of (knd := mixKind P w) (s := { s1 with toks := s1.toks + 1 }) (kV_is rk) (key_scan rk) R (by unfold scanBound; omega) fun h' sb R' => ?_
  refine fin _ h' _ sb ⟨_, setOf_eq R' fun j => ?_, ?_, ?_⟩ (Nat.le_succ _)
  · rw [up]
    rw [Bool.eq_iff_iff, Bool.or_eq_true, memK_iff, memK_iff, decide_eq_true_eq, List.mem_append, List.mem_singleton]
  · split <;> omega
  · rw [up]
    by_cases m : k ∈ ks.take i
    · rw [if_pos (memK_iff.mpr m)]
      refine ⟨fun e => by omega, fun nd => ?_⟩
      have q := (List.nodup_append.mp nd).2.2 k m k (by simp)
      exact absurd rfl q
    · rw [if_neg (fun e => m (memK_iff.mp e))]
      constructor
      · intro e
        refine List.nodup_append.mpr ⟨hd.mp (by omega), by simp, fun a ha b hb z => ?_⟩
        rw [List.mem_singleton.mp hb] at z
        exact m (z ▸ ha)
      · intro nd
        have := hd.mpr (List.nodup_append.mp nd).1
        omega
end
section
variable {X : Cx}
/-- set(x), x a list or a tuple of keys: the set's size tells whether all differ -/
def rSetW (K : PySem.W.Frag) (P : Program) (w : World) : List V → Hp → VK → Prop := fun xs H Q => ∃ (l : Addr) (ks : List Key), xs = [V.ref l] ∧ (SqL K H l (ks.map kV) ∨ SqT K H l (ks.map kV)) ∧ ks.length < 4000 ∧
  ∀ a n, H a = none → (n = ks.length ↔ ks.Nodup) → Q (.ref a) (upd H a (SetK P w a (fun k => memK k ks) n))
theorem cr_setW (hc : X.calm = true) (hu : X.A.units + 64 < cLine) : CallR X (.type "set") (rSetW X.K X.prog X.w) := by
  intro pins s σ H xs us Q I r h
  obtain ⟨l, ks, rfl, hl, hf, q⟩ := h
  rw [Vals.ref1 r]
  have hn : H s.heap.objs.size = none := I.hok.fresh (Nat.le_refl _)
  have go : ∀ (T : String) (its : List Value), Seqs X.prog X.w T l its.toArray s → Vals (ks.map kV) its →
      wpAny (model X.prog X.w) X.A (call (.type "set") [.ref l]) (fun u s' => ∃ v H', Inv X pins σ H' s' ∧ RelV v u ∧ Q v H') X.xe s := fun T its W rv => by
    have ln : its.length = ks.length := by rw [← rv.length, List.length_map]
    refine call_set_any (J := JW X.prog X.w s.heap.objs.size ks) (room := 0) (I.ok.hd hc) W (by omega) (by simpa using step_words rv hf) (fun i h h' ⟨n, R, m⟩ kS _ => ⟨n, setOf_at R kS, m⟩) (fun h' fr kp => ?_) fun h' tk j kp => ?_
    · exact ⟨0, ⟨_, #[], 0, _, fr, ⟨rfl, rfl, rfl⟩, rfl, (fun e he => by simp at he), (fun k => by simp [memK]), (by decide), (by rfl), rfl⟩, Nat.le_refl _, by simp⟩
    · obtain ⟨n, R, hle, hd⟩ := j
      have esz : its.toArray.size = ks.length := by simp [ln]
      rw [esz, List.take_length] at R hd
      exact ⟨.ref s.heap.objs.size, upd H s.heap.objs.size (SetK X.prog X.w s.heap.objs.size (fun k => memK k ks) n), I.laid (t' := tk) kp (Nat.le_refl _) (setK_new R), rfl, q _ n hn hd⟩
  rcases hl with hl | hl
  · obtain ⟨its, rv, pl, hz⟩ := I.list hl
    exact go "list" its (Seqs.list pl.isList) rv
  · obtain ⟨its, rv, pl, hz⟩ := I.tuple hl
    exact go "tuple" its (Seqs.tuple pl) rv
/-- len of such a set -/
def rLenK (P : Program) (w : World) : List V → Hp → VK → Prop := fun xs H Q => ∃ (a : Addr) (S : Key → Bool) (n : Nat), xs = [V.ref a] ∧ H a = some (SetK P w a S n) ∧ Q (.int n) H
theorem cr_lenK : CallR X (.builtin "len") (rLenK X.prog X.w) := by
  intro pins s σ H xs us Q I r h
  obtain ⟨a, S, n, rfl, ha, q⟩ := h
  rw [Vals.ref1 r]
  obtain ⟨o, es, ep, t, ho, hex, hd, _, _, hb, hf, hn⟩ := setK_get I ha
  refine call_len_set ho hex hd hf (by have : scanBound = 4096 := rfl; omega) ⟨.int n, H, I.tok _, ⟨_, by rw [hn]⟩, q⟩
/-- len of a set of tuples -/
def rLenT (P : Program) (w : World) : List V → Hp → VK → Prop := fun xs H Q => ∃ (a : Addr) (L : List KT), xs = [V.ref a] ∧ H a = some (SetKO P w a L) ∧ Q (.int L.length) H
theorem cr_lenT : CallR X (.builtin "len") (rLenT X.prog X.w) := by
  intro pins s σ H xs us Q I r h
  obtain ⟨a, L, rfl, ha, q⟩ := h
  rw [Vals.ref1 r]
  have R0 : SetK0 X.prog X.w s.heap a L := (I.hok a _ ha).1
  obtain ⟨es, ep, t, ⟨o, ho, hex, hd⟩, hr, T, nd, led, rm, few⟩ := R0.ex
  have esl : es.size = L.length := by rw [← Array.length_toList, hr, keyRows_len]
  have fits : t.fits es.size = true := by
    have h1 := T.sz
    rw [List.length_map] at h1
    unfold SetTable.fits SetTable.fill
    rw [T.dm, Bool.and_eq_true, beq_iff_eq, decide_eq_true_eq]
    show t.place.size = es.size ∧ t.place.size + 0 ≤ t.mask
    omega
  refine call_len_set ho hex hd fits (by omega) ⟨.int L.length, H, I.tok _, ⟨_, by rw [esl]⟩, q⟩
end
end Hk
set_option Elab.async false
set_option linter.all false
set_option maxRecDepth 100000
set_option maxHeartbeats 4000000
/-! Walks of lists and tuples alike; comprehensions that leave what stood. -/
namespace Hk
open PySem PySem.Spec PyProof.Rows L2
/-- a list (b) or a tuple (not b) -/
def SqX (K : PySem.W.Frag) (H : Hp) (b : Bool) (a : Addr) (xs : List V) : Prop := if b = true then SqL K H a xs else SqT K H a xs
theorem SqX.list {K : PySem.W.Frag} {H : Hp} {a : Addr} {xs : List V} (h : SqL K H a xs) : SqX K H true a xs := h
theorem SqX.tup {K : PySem.W.Frag} {H : Hp} {a : Addr} {xs : List V} (h : SqT K H a xs) : SqX K H false a xs := h
theorem SqX.either {K : PySem.W.Frag} {H : Hp} {b : Bool} {a : Addr} {xs : List V} (h : SqX K H b a xs) : SqL K H a xs ∨ SqT K H a xs := by
  cases b
  · exact .inr h
  · exact .inl h
theorem seqT_same {K : PySem.W.Frag} {H H' : Hp} {a : Addr} {xs : List V} (s : Same H H') (h : SqT K H a xs) : SqT K H' a xs := by
  rcases h with (h | ⟨o, h⟩) | h
  · exact .inl (.inl (s _ _ h))
  · exact .inl (.inr ⟨o, s _ _ h⟩)
  · exact .inr h
theorem SqX.same {K : PySem.W.Frag} {H H' : Hp} {b : Bool} {a : Addr} {xs : List V} (h : SqX K H b a xs) (s : Same H H') : SqX K H' b a xs := by
  cases b
  · exact seqT_same s h
  · exact s.seq h
def iSeq (K : PySem.W.Frag) (tl : TE) : TI := fun σ H R => tl σ H fun x H1 => ∃ b a xs, x = .ref a ∧ SqX K H1 b a xs ∧ ∀ J, Walk J xs.length (fun H => SqX K H b a xs) (YAt xs) → R J H1
section
variable {X : Cx} {tg : Expr}
theorem pi_seq {l : Expr} {tl : TE} (hl : PE X l tl) : PI X tg l (iSeq X.K tl) := by
  refine ⟨fun pins s σ H R I h => ?_⟩
  refine thn (hl.run pins s σ H _ I h) fun v s1 ⟨x, H1, I1, r1, b, a, xs, e, hq, q⟩ => ?_
  subst e
  cases r1
  have fresh : ∀ c ∈ [s1.heap.objs.size], FpOk X pins H1 c := fun c hc => by
    rw [List.mem_singleton.mp hc]
    exact I1.fpOk (Nat.le_refl _) (I1.hok.fresh (Nat.le_refl _))
  cases b with
  | true =>
    obtain ⟨its, rv, p, hz⟩ := I1.list (xs := xs) hq
    refine wpAny_pyIter_list p.isList ?_
    exact ⟨s1.heap.objs.size, [s1.heap.objs.size], _, _, H1, rfl, I1.kept (t' := s1.toks) fun c o e => Heap.get?_push_of_some _ e, turn_list a _, ⟨_, Heap.get?_push_size _ rfl, rfl, rfl⟩, fresh, q _ walk_list⟩
  | false =>
    obtain ⟨its, rv, p, hz⟩ := I1.tuple (xs := xs) hq
    refine wpAny_pyIter_tuple (show s1.heap.IsTuple a its.toArray from p) ?_
    exact ⟨s1.heap.objs.size, [s1.heap.objs.size], _, _, H1, rfl, I1.kept (t' := s1.toks) fun c o e => Heap.get?_push_of_some _ e, turn_tuple a _, ⟨_, Heap.get?_push_size _ rfl, rfl, rfl⟩, fresh, q _ walk_tup⟩
end
theorem Same.fresh {H H1 : Hp} {p : Addr} {o : HO} (a : Same H H1) (hp : H1 p = none) : Same H (L2.upd H1 p o) := fun b u e => by
  have q := a b u e
  rw [upd_ne (ne_of_none q hp)]
  exact q
/-- an object that was new where the walk began is written -/
theorem Same.put {H H1 : Hp} {p : Addr} {o : HO} (a : Same H H1) (hp : H p = none) : Same H (L2.upd H1 p o) := fun b u e => by
  have q := a b u e
  rw [upd_ne (ne_of_none e hp)]
  exact q
/-- no test stands in a comprehension -/
theorem tYes_ok {σ : L2.St} {H : Hp} {te : TE} {k : VK} {no : Hp → Prop} (h : te σ H k) : tYes σ H fun b H3 => if b = true then te σ H3 k else no H3 := by
  show if (true : Bool) = true then te σ H k else no H
  exact iteT h
/-- all but d stands as it stood -/
def But (d : Addr) (H H' : Hp) : Prop := ∀ b o, b ≠ d → H b = some o → H' b = some o
theorem But.rfl' {d : Addr} {H : Hp} : But d H H := fun _ _ _ e => e
theorem But.trans {d : Addr} {H H1 H2 : Hp} (a : But d H H1) (b : But d H1 H2) : But d H H2 := fun c o n e => b c o n (a c o n e)
theorem But.of {d : Addr} {H H' : Hp} (s : Same H H') : But d H H' := fun b o _ e => s b o e
theorem But.upd {d : Addr} {H H1 : Hp} {o : HO} (a : But d H H1) : But d H (L2.upd H1 d o) := fun b u n e => by
  rw [upd_ne n]
  exact a b u n e
theorem But.new {d : Addr} {H H1 : Hp} {p : Addr} {o : HO} (a : But d H H1) (hp : H1 p = none) : But d H (L2.upd H1 p o) := fun b u n e => by
  have q := a b u n e
  rw [upd_ne (ne_of_none q hp)]
  exact q
theorem But.same {d : Addr} {H H' : Hp} (b : But d H H') (h : H d = none) : Same H H' := fun c o e => b c o (ne_of_none e h) e
theorem SqX.but {K : PySem.W.Frag} {H H' : Hp} {b : Bool} {d a : Addr} {xs : List V} (h : SqX K H b a xs) (n : a ≠ d) (s : But d H H') : SqX K H' b a xs := by
  cases b
  · rcases (h : SqT K H a xs) with (h | ⟨o, h⟩) | h
    · exact (.inl (.inl (s _ _ n h)) : SqT K H' a xs)
    · exact (.inl (.inr ⟨o, s _ _ n h⟩) : SqT K H' a xs)
    · exact (.inr h : SqT K H' a xs)
  · rcases (h : SqL K H a xs) with (h | ⟨o, h⟩) | h
    · exact (.inl (.inl (s _ _ n h)) : SqL K H' a xs)
    · exact (.inl (.inr ⟨o, s _ _ n h⟩) : SqL K H' a xs)
    · exact (.inr h : SqL K H' a xs)
/-- a comprehension each of whose turns only makes objects; R i acc H: what its list holds behind i turns (nothing of the list's own place D) -/
theorem lcX {J : It} {n : Nat} {G : Hp → Prop} {xs : List V} (w : Walk J n G (YAt xs)) {g : TG} {tt : TT} {te : TE} {vs : List Nat} {σ : L2.St} {H1 : Hp} {D : Addr} {Qd : Hp → Prop} (hD : H1 D = none) (R : Nat → List V → Hp → Prop) (big : n < sizeLine)
    (hR : ∀ i l H H', R i l H → But D H H' → R i l H') (h0 : R 0 [] H1) (hG : ∀ H, Same H1 H → G H)
    (turn : ∀ i x H acc, i < n → xs[i]? = some x → Same H1 H → H D = some (.lst acc) → R i acc H → ∀ Nx : Hp → Prop,
      (∀ y H4, Same H H4 → R (i + 1) (acc ++ [y]) H4 → ∃ acc, H4 D = some (.lst acc) ∧ acc.length < sizeLine ∧ Nx (L2.upd H4 D (.lst (acc ++ [y])))) → (∀ H3, Same H H3 → R (i + 1) acc H3 → Nx H3) →
      g x (wipe σ vs) H fun σ2 H2 => wipe σ2 vs = wipe σ vs ∧ tt σ2 H2 fun b H3 =>
        if b = true then te σ2 H3 fun y H4 => ∃ acc, H4 D = some (.lst acc) ∧ acc.length < sizeLine ∧ Nx (L2.upd H4 D (.lst (acc ++ [y]))) else Nx H3)
    (fin : ∀ H acc, Same H1 H → H D = some (.lst acc) → R n acc H → Qd H) :
    ∃ W : Nat → Nat → Hp → Prop, (∃ m, W 0 m (L2.upd H1 D (.lst []))) ∧ ∀ i m H, W i m H →
      (J.stop i H ∧ Qd H) ∨ (J.go i H ∧ ∃ Nx : Hp → Prop, (∀ H', Nx H' → ∃ m', m' < m ∧ W (i + 1) m' H') ∧ ∀ x H', J.yld i H x H' → g x (wipe σ vs) H' fun σ2 H2 => wipe σ2 vs = wipe σ vs ∧ tt σ2 H2 fun b H3 =>
        if b = true then te σ2 H3 fun y H4 => ∃ acc, H4 D = some (.lst acc) ∧ acc.length < sizeLine ∧ Nx (L2.upd H4 D (.lst (acc ++ [y]))) else Nx H3) := by
  refine lc_it w (fun i H => Same H1 H ∧ ∃ acc, H D = some (.lst acc) ∧ acc.length ≤ i ∧ R i acc H) ⟨Same.fresh (Same.refl H1) hD, [], upd_same, Nat.le_refl _, hR _ _ _ _ h0 (But.upd But.rfl')⟩ (fun i H _ p => hG H p.1) (fun i x H H' hi p y => ?_) fun H ⟨s, acc, e, _, r⟩ => fin H acc s e r
  obtain ⟨s, acc, e, l, r⟩ := p
  obtain ⟨rfl, ex⟩ := y
  refine turn i x H' acc hi ex s e r _ (fun y H4 s4 r4 => ⟨acc, s4 _ _ e, by omega, ?_, acc ++ [y], upd_same, by rw [List.length_append]; exact Nat.succ_le_succ l, hR _ _ _ _ r4 (But.upd But.rfl')⟩) fun H3 s3 r3 => ⟨s.trans s3, acc, s3 _ _ e, Nat.le_succ_of_le l, r3⟩
  exact Same.put (s.trans s4) hD
/-- the keys of a locked dict -/
theorem walk_keysX {d : Addr} {o : Obj} {kvs : List (Key × V)} : Walk (Itk d o kvs) kvs.length (fun H => H d = some (.frz o (.dK kvs))) (YAt (kvs.map fun kv => kV kv.1)) :=
  walk_keys.mono (fun _ h => h) fun i H x H' _ _ ⟨e, k, v, ek, ex⟩ => ⟨e, by rw [List.getElem?_map, ek, ex]; rfl⟩
/-- {k: v for ..} over it, in the same way -/
theorem dc_it {J : It} {n : Nat} {G : Hp → Prop} {Y : Nat → Hp → V → Hp → Prop} (w : Walk J n G Y) {g : TG} {tt : TT} {tk tv : TE} {vs : List Nat} {σ : L2.St} {H1 : Hp} {D : Addr} {Qd : Hp → Prop} (Pv : Nat → Hp → Prop) (h0 : Pv 0 (L2.upd H1 D (.dK []))) (hG : ∀ i H, i ≤ n → Pv i H → G H)
    (hs : ∀ i x H H', i < n → Pv i H → Y i H x H' → g x (wipe σ vs) H' fun σ2 H2 => wipe σ2 vs = wipe σ vs ∧ tt σ2 H2 fun b H3 =>
      if b = true then tk σ2 H3 fun y H4 => tv σ2 H4 fun z H5 => ∃ kvs k, y = kV k ∧ H5 D = some (.dK kvs) ∧ kvs.length < sizeLine ∧ Pv (i + 1) (L2.upd H5 D (.dK (putK kvs k z))) else Pv (i + 1) H3) (hd : ∀ H, Pv n H → Qd H) :
    ∃ W : Nat → Nat → Hp → Prop, (∃ m, W 0 m (L2.upd H1 D (.dK []))) ∧ ∀ i m H, W i m H →
      (J.stop i H ∧ Qd H) ∨ (J.go i H ∧ ∃ Nx : Hp → Prop, (∀ H', Nx H' → ∃ m', m' < m ∧ W (i + 1) m' H') ∧ ∀ x H', J.yld i H x H' → g x (wipe σ vs) H' fun σ2 H2 => wipe σ2 vs = wipe σ vs ∧ tt σ2 H2 fun b H3 =>
        if b = true then tk σ2 H3 fun y H4 => tv σ2 H4 fun z H5 => ∃ kvs k, y = kV k ∧ H5 D = some (.dK kvs) ∧ kvs.length < sizeLine ∧ Nx (L2.upd H5 D (.dK (putK kvs k z))) else Nx H3) := by
  refine ⟨fun i m H => m = n - i ∧ i ≤ n ∧ Pv i H, ⟨n, by simp, Nat.zero_le _, h0⟩, ?_⟩
  rintro i m H ⟨rfl, hi, p⟩
  have q := hG i H hi p
  by_cases lt : i < n
  · refine .inr ⟨w.goes i H lt q, Pv (i + 1), fun H' p' => ⟨n - (i + 1), by omega, rfl, lt, p'⟩, fun x H' y => hs i x H H' lt p (w.yields i H x H' lt q y)⟩
  · have e : i = n := by omega
    subst e
    exact .inl ⟨w.stops H q, hd H p⟩
theorem tYes_ok2 {σ : L2.St} {H : Hp} {tk tv : TE} {k : V → VK} {no : Hp → Prop} (h : tk σ H fun y H4 => tv σ H4 (k y)) : tYes σ H fun b H3 => if b = true then tk σ H3 fun y H4 => tv σ H4 (k y) else no H3 := by
  show if (true : Bool) = true then _ else no H
  exact iteT h
/-- a dict comprehension whose turns only make objects -/
theorem dcX {J : It} {n : Nat} {G : Hp → Prop} {xs : List V} (w : Walk J n G (YAt xs)) {g : TG} {tt : TT} {tk tv : TE} {vs : List Nat} {σ : L2.St} {H1 : Hp} {D : Addr} {Qd : Hp → Prop} (hD : H1 D = none) (R : Nat → List (Key × V) → Hp → Prop) (big : n < sizeLine)
    (hR : ∀ i l H H', R i l H → But D H H' → R i l H') (h0 : R 0 [] H1) (hG : ∀ H, Same H1 H → G H)
    (turn : ∀ i x H kvs, i < n → xs[i]? = some x → Same H1 H → H D = some (.dK kvs) → R i kvs H → ∀ Nx : Hp → Prop,
      (∀ k z H5, Same H H5 → R (i + 1) (putK kvs k z) H5 → ∃ kvs k', kV k = kV k' ∧ H5 D = some (.dK kvs) ∧ kvs.length < sizeLine ∧ Nx (L2.upd H5 D (.dK (putK kvs k' z)))) → (∀ H3, Same H H3 → R (i + 1) kvs H3 → Nx H3) →
      g x (wipe σ vs) H fun σ2 H2 => wipe σ2 vs = wipe σ vs ∧ tt σ2 H2 fun b H3 =>
        if b = true then tk σ2 H3 fun y H4 => tv σ2 H4 fun z H5 => ∃ kvs k, y = kV k ∧ H5 D = some (.dK kvs) ∧ kvs.length < sizeLine ∧ Nx (L2.upd H5 D (.dK (putK kvs k z))) else Nx H3)
    (fin : ∀ H kvs, Same H1 H → H D = some (.dK kvs) → R n kvs H → Qd H) :
    ∃ W : Nat → Nat → Hp → Prop, (∃ m, W 0 m (L2.upd H1 D (.dK []))) ∧ ∀ i m H, W i m H →
      (J.stop i H ∧ Qd H) ∨ (J.go i H ∧ ∃ Nx : Hp → Prop, (∀ H', Nx H' → ∃ m', m' < m ∧ W (i + 1) m' H') ∧ ∀ x H', J.yld i H x H' → g x (wipe σ vs) H' fun σ2 H2 => wipe σ2 vs = wipe σ vs ∧ tt σ2 H2 fun b H3 =>
        if b = true then tk σ2 H3 fun y H4 => tv σ2 H4 fun z H5 => ∃ kvs k, y = kV k ∧ H5 D = some (.dK kvs) ∧ kvs.length < sizeLine ∧ Nx (L2.upd H5 D (.dK (putK kvs k z))) else Nx H3) := by
  refine dc_it w (fun i H => Same H1 H ∧ ∃ kvs, H D = some (.dK kvs) ∧ kvs.length ≤ i ∧ R i kvs H) ⟨Same.fresh (Same.refl H1) hD, [], upd_same, Nat.le_refl _, hR _ _ _ _ h0 (But.upd But.rfl')⟩ (fun i H _ p => hG H p.1) (fun i x H H' hi p y => ?_) fun H ⟨s, kvs, e, _, r⟩ => fin H kvs s e r
  obtain ⟨s, kvs, e, l, r⟩ := p
  obtain ⟨rfl, ex⟩ := y
  refine turn i x H' kvs hi ex s e r _ (fun k z H5 s5 r5 => ⟨kvs, k, rfl, s5 _ _ e, by omega, ?_, putK kvs k z, upd_same, ?_, hR _ _ _ _ r5 (But.upd But.rfl')⟩) fun H3 s3 r3 => ⟨s.trans s3, kvs, s3 _ _ e, Nat.le_succ_of_le l, r3⟩
  · exact Same.put (s.trans s5) hD
  · have := length_putK kvs k z
    omega
end Hk
set_option Elab.async false
set_option linter.all false
set_option maxRecDepth 100000
set_option maxHeartbeats 4000000
/-! The text by places (k02). -/
namespace K
open PySem L2
def top (i : Nat) : Stmt := PySem.Challenge.pw_handedkeys_k02_whole_policies.main.body.getD i (.Pass ⟨0, 0, 0, 0⟩)
abbrev sIsInt : Stmt := top 5
abbrev sIsPlace : Stmt := top 6
abbrev sIsRow : Stmt := top 7
abbrev sIsWord : Stmt := top 8
abbrev sIsGroup : Stmt := top 9
abbrev sAreWords : Stmt := top 10
abbrev sMakeNumber : Stmt := top 12
abbrev sMadeWords : Stmt := top 13
abbrev sWordsOf : Stmt := top 14
abbrev sRuleWords : Stmt := top 15
abbrev sPlainPairs : Stmt := top 19
abbrev sPlainRule : Stmt := top 20
abbrev sInit : Stmt := inClass (top 21) 0
abbrev sWithout : Stmt := inClass (top 21) 1
abbrev sMade : Stmt := inClass (top 21) 2
abbrev sWords : Stmt := inClass (top 21) 3
abbrev sLen : Stmt := inClass (top 21) 4
abbrev sIter : Stmt := inClass (top 21) 5
abbrev sGetitem : Stmt := inClass (top 21) 6
abbrev sEq : Stmt := inClass (top 21) 7
abbrev sAdd : Stmt := inClass (top 21) 8
abbrev sCellAt : Stmt := top 23
abbrev sDraw : Stmt := top 24
abbrev sNumber : Stmt := top 25
abbrev sNext : Stmt := top 26
abbrev sPick : Stmt := top 27
abbrev sLRules : Stmt := top 28
abbrev sLMade : Stmt := top 29
abbrev sError : Stmt := top 30
abbrev sLWords : Stmt := top 31
abbrev sLaw : Stmt := top 32
end K
set_option Elab.async false
set_option linter.all false
set_option maxRecDepth 100000
set_option maxHeartbeats 4000000
/-! How the law draws: each draw is a number below its bound, and only the list of the draws changes. -/
namespace K
open PySem L2
open Hk
def spCellAt (K : PySem.W.Frag) : Sp := fun vs H Q _ => ∃ (a : Addr) (ns : List Int) (k : Int), vs = [.ref a, .int k] ∧ SqL K H a (ns.map V.int) ∧ 0 ≤ k ∧ ∀ z : Int, Q (.int z) H
def spDraw : Sp := fun vs H Q _ => ∃ c k b : Int, vs = [.int c, .int k, .int b] ∧ 0 < b ∧ ∀ (n : Int) (H' : Hp), 0 ≤ n → n < b → Same H H' → Q (.int n) H'
/-- the draws so far: the script, nought, a number -/
def Dr (K : PySem.W.Frag) (H : Hp) (d : Addr) : Prop := ∃ (a : Addr) (ns : List Int) (k : Int), H d = some (.lst [.ref a, .int 0, .int k]) ∧ SqL K H a (ns.map V.int) ∧ a ≠ d ∧ 0 ≤ k
/-- the draws go on with the same script -/
def Go (H H' : Hp) (d : Addr) : Prop := ∀ (a : Addr) (k : Int), H d = some (.lst [.ref a, .int 0, .int k]) → 0 ≤ k → ∃ k' : Int, 0 ≤ k' ∧ H' d = some (.lst [.ref a, .int 0, .int k'])
theorem Go.rfl' {H : Hp} {d : Addr} : Go H H d := fun a k e h => ⟨k, h, e⟩
theorem Go.trans {H H1 H2 : Hp} {d : Addr} (x : Go H H1 d) (y : Go H1 H2 d) : Go H H2 d := fun a k e h => by
  obtain ⟨k1, h1, e1⟩ := x a k e h
  exact y a k1 e1 h1
theorem Go.same {H H1 H2 : Hp} {d : Addr} (x : Go H H1 d) (s : ∀ o, H1 d = some o → H2 d = some o) : Go H H2 d := fun a k e h => by
  obtain ⟨k1, h1, e1⟩ := x a k e h
  exact ⟨k1, h1, s _ e1⟩
def spNext (K : PySem.W.Frag) : Sp := fun vs H Q _ => ∃ (d : Addr) (b : Int), vs = [.ref d, .int b] ∧ Dr K H d ∧ 0 < b ∧ ∀ (n : Int) (H' : Hp), 0 ≤ n → n < b → But d H H' → Dr K H' d → Go H H' d → Q (.int n) H'
/-- one of some things is picked -/
def spPick (K : PySem.W.Frag) : Sp := fun vs H Q _ => ∃ (d l : Addr) (xs : List V), vs = [.ref d, .ref l] ∧ Dr K H d ∧ l ≠ d ∧ (SqL K H l xs ∨ SqT K H l xs) ∧ xs ≠ [] ∧ ∀ (v : V) (H' : Hp), v ∈ xs → But d H H' → Dr K H' d → Go H H' d → Q v H'
structure TxtD (K : PySem.W.Frag) (mg : Str → Option Value) (fC fD fN fX : Addr) : Prop where
  len : mg "len" = none
  int : mg "int" = none
  range : mg "range" = none
  gC : mg "_law_cell_at" = some (.ref fC)
  gD : mg "_law_draw" = some (.ref fD)
  gN : mg "_law_number" = some (.ref fN)
  gX : mg "_law_next" = some (.ref fX)
  kC : PySem.W.keepIn K (.ref fC) = true
  kD : PySem.W.keepIn K (.ref fD) = true
  kN : PySem.W.keepIn K (.ref fN) = true
  kX : PySem.W.keepIn K (.ref fX) = true
section
variable {P : Program} {w : World} {K : PySem.W.Frag} {mg : Str → Option Value} {base : Heap} {fC fD fN fX : Addr} {fdC fdD fdN fdX fd : FuncData} {f : Addr}
theorem scCellAt : FnScope ["script", "k"] ["script", "k"] (defScope sCellAt) := ⟨rfl, rfl, rfl, by decide +kernel, rfl, by decide +kernel, by decide +kernel⟩
theorem ok_cell_at (F : Fun K "_law_cell_at" "_law_cell_at" sCellAt f fd) (T : TxtD K mg fC fD fN fX) : FnOk P w K mg base CX0 1 f fd ["script", "k"] (spCellAt K) := by
  refine F.ok scCellAt (fun vs H Q E h => ?_) (fun cdv A outer s H vs Q E hr h => ?_)
  · obtain ⟨a, ns, k, rfl, _⟩ := h
    rfl
  · obtain ⟨a, ns, k, rfl, hs, hk, q⟩ := h
    refine ⟨_, pss_cons (ps_if (pt_cmpR op_lt (pv 1) (pe_callB call_len_seq (by rfl) T.len PySem.boot_len (pa_cons (pv 0) pa_nil)) (nomark _))
      (pss_one (ps_ret (pe_ix ix_list (pv 0) (pv 1) (fun _ _ => rfl)))) pss_nil) (pss_one (ps_ret pe_int)), ?_⟩
    refine ⟨_, rfl, _, rfl, a, _, rfl, .inl hs, _, _, rfl, rfl, _, rfl, ?_⟩
    refine ite2 (fun c => ?_) (fun c => ?_)
    · have c2 := of_decide_eq_true c
      rw [List.length_map] at c2
      obtain ⟨j, rfl⟩ := Int.eq_ofNat_of_zero_le hk
      have hj : j < ns.length := by omega
      exact ⟨_, rfl, _, rfl, a, _, _, V.int ns[j], rfl, rfl, hs, atI_nat (by rw [List.getElem?_map, List.getElem?_eq_getElem hj]; rfl), q _⟩
    · exact q 0
end
end K
set_option Elab.async false
set_option linter.all false
set_option maxRecDepth 100000
set_option maxHeartbeats 4000000
namespace K
open PySem L2 Hk
section
variable {P : Program} {w : World} {K : PySem.W.Frag} {mg : Str → Option Value} {base : Heap} {fC fD fN fX : Addr} {fdC fdD fdN fdX fd : FuncData} {f : Addr}
def primes : List Int := [1000003, 1000033, 1000037, 1000039, 1000081, 1000099, 1000117, 1000121, 1000133, 1000151, 1000159, 1000171, 1000183, 1000187, 1000193, 1000199]
theorem prime_at {k : Int} (h0 : 0 ≤ k) (h1 : k < 16) : ∃ p : Int, 0 < p ∧ atI (primes.map V.int) k = some (V.int p) := by
  obtain ⟨j, rfl⟩ := Int.eq_ofNat_of_zero_le h0
  have hj : j < primes.length := by
    have e : primes.length = 16 := rfl
    omega
  refine ⟨primes[j], ?_, atI_nat (by rw [List.getElem?_map, List.getElem?_eq_getElem hj]; rfl)⟩
  have all : ∀ p ∈ primes, 0 < p := by decide
  exact all _ (List.getElem_mem hj)
theorem scDraw : FnScope ["cell", "k", "bound", "primes"] ["cell", "k", "bound"] (defScope sDraw) := ⟨rfl, rfl, rfl, by decide +kernel, rfl, by decide +kernel, by decide +kernel⟩
theorem ok_draw (F : Fun K "_law_draw" "_law_draw" sDraw f fd) (T : TxtD K mg fC fD fN fX) : FnOk P w K mg base CX0 1 f fd ["cell", "k", "bound"] spDraw := by
  refine F.ok scDraw (fun vs H Q E h => ?_) (fun cdv A outer s H vs Q E hr h => ?_)
  · obtain ⟨c, k, b, rfl, _⟩ := h
    rfl
  · obtain ⟨c, k, b, rfl, hb, q⟩ := h
    refine ⟨_, pss_cons (ps_set (i := 3) scDraw.nd rfl (Or.inl rfl) (pe_tup (pa_cons pe_int (pa_cons pe_int (pa_cons pe_int (pa_cons pe_int (pa_cons pe_int (pa_cons pe_int (pa_cons pe_int (pa_cons pe_int (pa_cons pe_int (pa_cons pe_int (pa_cons pe_int (pa_cons pe_int (pa_cons pe_int (pa_cons pe_int (pa_cons pe_int (pa_cons pe_int pa_nil))))))))))))))))))
      (pss_one (ps_ret (pe_op op_mod (pe_op op_mod (pe_callTy call_int1 (by rfl) T.int (by decide +kernel) (pa_cons (pe_op op_add (pe_op op_mul (pv 0) pe_int) (pe_op op_mul (pv 1) pe_int)) pa_nil))
        (pe_ix ix_tup (pv 3) (pe_op op_mod (pe_callTy call_int1 (by rfl) T.int (by decide +kernel) (pa_cons (pv 1) pa_nil)) pe_int) (fun _ _ => rfl))) (pv 2)))), ?_⟩
    refine ⟨by show 16 ≤ sizeLine; decide, fun p hp => ?_⟩
    have ep : (upd H p (.tup (primes.map V.int))) p = some (.tup (primes.map V.int)) := upd_same
    obtain ⟨z, z0, ez⟩ := prime_at (k := k % 16) (Int.emod_nonneg _ (by decide)) (Int.emod_lt_of_pos _ (by decide))
    refine ⟨_, rfl, _, _, rfl, rfl, .inr ⟨by decide, by decide⟩, _, rfl, _, _, rfl, rfl, .inr ⟨by decide, by decide⟩, _, _, rfl, rfl, .inl ⟨_, rfl, _, rfl, _, rfl, .inl ⟨_, rfl, _, _, rfl, rfl, by show (0 : Int) < 16; decide, p, _, _, _, rfl, rfl, SqT.of ep, ez, _, _, rfl, rfl, z0, _, rfl, _, _, rfl, rfl, hb, ?_⟩⟩⟩
    exact q _ _ (Int.emod_nonneg _ (by omega)) (Int.emod_lt_of_pos _ hb) (Same.fresh (Same.refl H) hp)
end
end K
set_option Elab.async false
set_option linter.all false
set_option maxRecDepth 100000
set_option maxHeartbeats 4000000
namespace K
open PySem L2 Hk
def spNumber : Sp := fun vs H Q _ => ∃ c k b : Int, vs = [.int c, .int k, .int b] ∧ 0 < b ∧ 0 ≤ k ∧ k < 100 ∧ ∀ (n : Int) (H' : Hp), 0 ≤ n → n < b → Same H H' → Q (.int n) H'
theorem pow_small {i : Nat} (h : i ≤ 24) : ((1009 : Int) ^ i).natAbs < 2 ^ 240 := by
  rw [Int.natAbs_pow]
  calc (1009 : Int).natAbs ^ i ≤ (1009 : Int).natAbs ^ 24 := Nat.pow_le_pow_right (by decide) h
    _ < 2 ^ 240 := by decide
section
variable {P : Program} {w : World} {K : PySem.W.Frag} {mg : Str → Option Value} {base : Heap} {fC fD fN fX : Addr} {fdC fdD fdN fdX fd : FuncData} {f : Addr}
theorem scNumber : FnScope ["cell", "k", "bound", "power", "lap", "remains", "small"] ["cell", "k", "bound"] (defScope sNumber) := ⟨rfl, rfl, rfl, by decide +kernel, rfl, by decide +kernel, by decide +kernel⟩
theorem ok_number (F : Fun K "_law_number" "_law_number" sNumber f fd) (T : TxtD K mg fC fD fN fX) (FD : Fun K "_law_draw" "_law_draw" sDraw fD fdD) (bD : Binds K fdD ["cell", "k", "bound"] []) :
    FnOk P w K mg base CX0 2 f fd ["cell", "k", "bound"] spNumber := by
  have GD : FnOk P w K mg base CX0 1 fD fdD ["cell", "k", "bound"] spDraw := ok_draw FD T
  refine F.ok scNumber (fun vs H Q E h => ?_) (fun cdv A outer s H vs Q E hr h => ?_)
  · obtain ⟨c, k, b, rfl, _⟩ := h
    rfl
  · obtain ⟨c, k, b, rfl, hb, k0, k1, q⟩ := h
    refine ⟨_, pss_cons (ps_set (i := 3) scNumber.nd rfl (Or.inl rfl) pe_int)
      (pss_cons (ps_for PassesOwn.never rfl (pi_range1 (by rfl) T.range (pa_cons (pe_op op_mod (pe_callTy call_int1 (by rfl) T.int (by decide +kernel) (pa_cons (pv 1) pa_nil)) pe_int) pa_nil)) (pg_name (i := 4) scNumber.nd rfl (Or.inl rfl))
        (pss_one (ps_set (i := 3) scNumber.nd rfl (Or.inl rfl) (pe_op op_mul (pv 3) pe_int))))
      (pss_cons (ps_set (i := 5) scNumber.nd rfl (Or.inl rfl) (pe_op op_fdivW (pe_op op_sub (pv 0) (pe_op op_pow pe_int pe_int)) (pv 3)))
      (pss_cons (ps_if (pt_cmpR op_gt (pv 5) pe_int (nomark _)) (pss_one (ps_ret (pe_op op_mod (pe_op op_mod (pe_callTy call_int1 (by rfl) T.int (by decide +kernel) (pa_cons (pv 5) pa_nil)) pe_int) (pv 2)))) pss_nil)
      (pss_cons (ps_set (i := 6) scNumber.nd rfl (Or.inl rfl) (pe_op op_mod (pe_callTy call_int1 (by rfl) T.int (by decide +kernel) (pa_cons (pv 0) pa_nil)) pe_int))
      (pss_one (ps_ret (pe_op op_mod (pe_call GD hr (by rfl) T.gD T.kD bD .nil pass0
        (pa_cons (pe_op op_mul (pe_op op_add (pv 6) (pe_op op_mul pe_int (pv 1))) (pe_op op_add (pe_op op_add (pv 6) (pe_op op_mul pe_int (pv 1))) pe_int))
        (pa_cons (pe_op op_add (pe_op op_mod (pe_callTy call_int1 (by rfl) T.int (by decide +kernel) (pa_cons (pv 1) pa_nil)) pe_int) pe_int) (pa_cons pe_int pa_nil)))) (pv 2)))))))), ?_⟩
    refine ⟨_, rfl, .inl ⟨_, rfl, _, _, rfl, rfl, by show (0 : Int) < 24; decide, k % 24, rfl, by omega, by omega, for_range (lo := 0) (n := (k % 24).toNat)
      (fun i σ H' => ∃ v : Option V, σ = [some (.int c), some (.int k), some (.int b), some (.int ((1009 : Int) ^ i)), v, none, none] ∧ H' = H) ⟨none, rfl, rfl⟩ ?_ ?_⟩⟩
    · rintro i σ H' hi ⟨v, rfl, rfl⟩
      refine ⟨_, rfl, _, _, rfl, rfl, .inr ⟨by decide, by decide⟩, some (.int (0 + (i : Int))), ?_, rfl⟩
      rw [Int.pow_succ]
      rfl
    · rintro σ H' ⟨v, rfl, rfl⟩
      have i24 : (k % 24).toNat ≤ 24 := by omega
      have pp : (0 : Int) < (1009 : Int) ^ (k % 24).toNat := Int.pow_pos (by decide)
      refine ⟨_, rfl, _, _, rfl, rfl, ⟨by decide, by decide, by decide⟩, _, _, rfl, rfl, _, rfl, _, _, rfl, rfl, wide_div pp (pow_small i24) (by decide) (by decide), ?_⟩
      refine ⟨_, rfl, _, _, rfl, rfl, _, rfl, ?_⟩
      refine ite2 (fun _ => ?_) (fun _ => ?_)
      · exact ⟨_, rfl, .inl ⟨_, rfl, _, _, rfl, rfl, by show (0 : Int) < 1009; decide, _, rfl, _, _, rfl, rfl, hb, q _ _ (Int.emod_nonneg _ (by omega)) (Int.emod_lt_of_pos _ hb) (Same.refl _)⟩⟩
      · refine ⟨_, rfl, .inl ⟨_, rfl, _, _, rfl, rfl, by show (0 : Int) < 1000003; decide, ?_⟩⟩
        have s0 : 0 ≤ c % 1000003 := Int.emod_nonneg _ (by decide)
        have s1 : c % 1000003 < 1000003 := Int.emod_lt_of_pos _ (by decide)
        refine ⟨_, rfl, _, rfl, _, _, rfl, rfl, .inl ⟨by decide, by decide⟩, _, _, rfl, rfl, _, rfl, _, rfl, _, _, rfl, rfl, .inl ⟨by decide, by decide⟩, _, _, rfl, rfl, _, _, rfl, rfl, _, _, rfl, rfl, .inl ⟨by omega, by omega⟩,
          _, rfl, .inl ⟨_, rfl, _, _, rfl, rfl, by show (0 : Int) < 9; decide, _, _, rfl, rfl, _, _, _, rfl, by decide, fun n H' n0 n1 sm => ?_⟩⟩
        exact ⟨_, rfl, _, _, rfl, rfl, hb, q _ _ (Int.emod_nonneg _ (by omega)) (Int.emod_lt_of_pos _ hb) sm⟩
end
end K
set_option Elab.async false
set_option linter.all false
set_option maxRecDepth 100000
set_option maxHeartbeats 4000000
namespace K
open PySem L2 Hk
section
variable {P : Program} {w : World} {K : PySem.W.Frag} {mg : Str → Option Value} {base : Heap} {fC fD fN fX : Addr} {fdC fdD fdN fdX fd : FuncData} {f : Addr}
theorem seqL_but {H H' : Hp} {d a : Addr} {xs : List V} (h : SqL K H a xs) (n : a ≠ d) (b : But d H H') : SqL K H' a xs := by
  rcases h with (h | ⟨o, h⟩) | h
  · exact .inl (.inl (b _ _ n h))
  · exact .inl (.inr ⟨o, b _ _ n h⟩)
  · exact .inr h
theorem seqT_but {H H' : Hp} {d a : Addr} {xs : List V} (h : SqT K H a xs) (n : a ≠ d) (b : But d H H') : SqT K H' a xs := by
  rcases h with (h | ⟨o, h⟩) | h
  · exact .inl (.inl (b _ _ n h))
  · exact .inl (.inr ⟨o, b _ _ n h⟩)
  · exact .inr h
/-- where the draws stand, all else being kept -/
theorem Dr.same {H H' : Hp} {d : Addr} (D : Dr K H d) (s : Same H H') : Dr K H' d := by
  obtain ⟨a, ns, k, h1, h2, h3, h4⟩ := D
  exact ⟨a, ns, k, s _ _ h1, s.seq h2, h3, h4⟩
theorem Dr.go {H H' : Hp} {d : Addr} (D : Dr K H d) (b : But d H H') (g : Go H H' d) : Dr K H' d := by
  obtain ⟨a, ns, k, h1, h2, h3, h4⟩ := D
  obtain ⟨k', h5, h6⟩ := g a k h1 h4
  exact ⟨a, ns, k', h6, seqL_but h2 h3 b, h3, h5⟩
theorem scNext : FnScope ["draw", "bound", "at", "cell"] ["draw", "bound"] (defScope sNext) := ⟨rfl, rfl, rfl, by decide +kernel, rfl, by decide +kernel, by decide +kernel⟩
theorem ok_next (F : Fun K "_law_next" "_law_next" sNext f fd) (T : TxtD K mg fC fD fN fX) (FC : Fun K "_law_cell_at" "_law_cell_at" sCellAt fC fdC) (bC : Binds K fdC ["script", "k"] [])
    (FD : Fun K "_law_draw" "_law_draw" sDraw fD fdD) (bD : Binds K fdD ["cell", "k", "bound"] []) (FN : Fun K "_law_number" "_law_number" sNumber fN fdN) (bN : Binds K fdN ["cell", "k", "bound"] []) :
    FnOk P w K mg base CX0 3 f fd ["draw", "bound"] (spNext K) := by
  have GC : FnOk P w K mg base CX0 1 fC fdC ["script", "k"] (spCellAt K) := ok_cell_at FC T
  have GN : FnOk P w K mg base CX0 2 fN fdN ["cell", "k", "bound"] spNumber := ok_number FN T FD bD
  refine F.ok scNext (fun vs H Q E h => ?_) (fun cdv A outer s H vs Q E hr h => ?_)
  · obtain ⟨d, b, rfl, _⟩ := h
    rfl
  · obtain ⟨d, b, rfl, ⟨a, ns, k, hd, hs, nad, hk⟩, hb, q⟩ := h
    have hr1 : Room 1 _ := hr.mono (by decide)
    refine ⟨_, pss_cons (ps_asg (pe_op op_add (pe_ix ix_list (pv 0) pe_int (fun _ _ => rfl)) pe_int) (pg_sub (pv 0) pe_int set_list))
      (pss_cons (ps_set (i := 2) scNext.nd rfl (Or.inl rfl) (pe_op op_fdiv (pe_ix ix_list (pv 0) pe_int (fun _ _ => rfl)) pe_int))
      (pss_cons (ps_set (i := 3) scNext.nd rfl (Or.inl rfl) (pe_op op_add (pe_call GC hr1 (by rfl) T.gC T.kC bC .nil pass0 (pa_cons (pe_ix ix_list (pv 0) pe_int (fun _ _ => rfl)) (pa_cons (pe_op op_add (pe_ix ix_list (pv 0) pe_int (fun _ _ => rfl)) (pv 2)) pa_nil)))
        (pe_op op_mul pe_int (pv 2))))
      (pss_one (ps_ret (pe_call GN hr (by rfl) T.gN T.kN bN .nil pass0 (pa_cons (pv 3) (pa_cons (pe_op op_add (pe_op op_mod (pe_callTy call_int1 (by rfl) T.int (by decide +kernel) (pa_cons (pe_ix ix_list (pv 0) pe_int (fun _ _ => rfl)) pa_nil)) pe_int) pe_int) (pa_cons (pv 1) pa_nil)))))))), ?_⟩
    have at2 : ∀ z : Int, atI [V.ref a, V.int 0, V.int z] 2 = some (V.int z) := fun z => atI_nat (j := 2) rfl
    refine ⟨_, rfl, d, _, _, V.int k, rfl, rfl, SqL.of hd, at2 k, _, _, rfl, rfl, _, rfl, d, _, _, 2, rfl, rfl, hd, rfl, ?_⟩
    show (_ : Prop)
    have hd1 : (upd H d (.lst [V.ref a, V.int 0, V.int (k + 1)])) d = some (.lst [V.ref a, V.int 0, V.int (k + 1)]) := upd_same
    have b1 : But d H (upd H d (.lst [V.ref a, V.int 0, V.int (k + 1)])) := But.upd But.rfl'
    have hs1 := seqL_but hs nad b1
    generalize hH : upd H d (.lst [V.ref a, V.int 0, V.int (k + 1)]) = H1 at hd1 b1 hs1
    have eH : upd H d (.lst (([V.ref a, V.int 0, V.int k] : List V).set 2 (V.int (k + 1)))) = H1 := hH
    rw [eH]
    refine ⟨_, rfl, d, _, _, V.int (k + 1), rfl, rfl, SqL.of hd1, at2 _, _, _, rfl, rfl, ⟨by decide, by decide⟩, ?_⟩
    have n0 : 0 ≤ (k + 1) / 12 := Int.ediv_nonneg (by omega) (by decide)
    refine ⟨_, rfl, d, _, _, V.ref a, rfl, rfl, SqL.of hd1, atI_nat (j := 0) rfl, _, rfl, d, _, _, V.int 0, rfl, rfl, SqL.of hd1, atI_nat (j := 1) rfl, _, rfl, _, _, rfl, rfl, a, ns, _, rfl, hs1, by omega, fun z => ?_⟩
    refine ⟨_, rfl, _, _, rfl, rfl, .inl ⟨by decide, by decide⟩, _, _, rfl, rfl, ?_⟩
    refine ⟨_, rfl, _, rfl, d, _, _, V.int (k + 1), rfl, rfl, SqL.of hd1, at2 _, .inl ⟨_, rfl, _, _, rfl, rfl, by show (0 : Int) < 12; decide, _, _, rfl, rfl, _, rfl, _, _, _, rfl, hb, ?_, ?_, fun n H2 n0 n1 sm => ?_⟩⟩
    · have := Int.emod_nonneg (k + 1) (show (12 : Int) ≠ 0 by decide)
      omega
    · have := Int.emod_lt_of_pos (k + 1) (show (0 : Int) < 12 by decide)
      omega
    · exact q n H2 n0 n1 (b1.trans (But.of sm)) ⟨a, ns, k + 1, sm _ _ hd1, sm.seq hs1, nad, by omega⟩ (fun a' k' e _ => by
        rw [hd] at e
        have e2 := HO.lst.inj (Option.some.inj e)
        injection e2 with e3 e4
        rw [← e3]
        exact ⟨k + 1, by omega, sm _ _ hd1⟩)
theorem scPick : FnScope ["draw", "things"] ["draw", "things"] (defScope sPick) := ⟨rfl, rfl, rfl, by decide +kernel, rfl, by decide +kernel, by decide +kernel⟩
theorem ok_pick (F : Fun K "_law_pick" "_law_pick" sPick f fd) (T : TxtD K mg fC fD fN fX) (GX : FnOk P w K mg base CX0 3 fX fdX ["draw", "bound"] (spNext K)) (bX : Binds K fdX ["draw", "bound"] []) :
    FnOk P w K mg base CX0 4 f fd ["draw", "things"] (spPick K) := by
  refine F.ok scPick (fun vs H Q E h => ?_) (fun cdv A outer s H vs Q E hr h => ?_)
  · obtain ⟨d, l, xs, rfl, _⟩ := h
    rfl
  · obtain ⟨d, l, xs, rfl, D, nl, hs, ne, q⟩ := h
    refine ⟨_, pss_one (ps_ret (pe_ix ix_seq (pv 1) (pe_call GX hr (by rfl) T.gX T.kX bX .nil pass0 (pa_cons (pv 0) (pa_cons (pe_callB call_len_seq (by rfl) T.len PySem.boot_len (pa_cons (pv 1) pa_nil)) pa_nil))) (fun _ _ => rfl))), ?_⟩
    have lp : 0 < xs.length := List.length_pos_iff.mpr ne
    refine ⟨_, rfl, _, rfl, _, rfl, l, xs, rfl, hs, d, _, rfl, D, by omega, fun n H1 n0 n1 b1 D1 g1 => ?_⟩
    obtain ⟨j, rfl⟩ := Int.eq_ofNat_of_zero_le n0
    have hj : j < xs.length := by omega
    have e : atI xs (j : Int) = some xs[j] := atI_nat (List.getElem?_eq_getElem hj)
    rcases hs with hs | hs
    · exact .inl ⟨l, xs, _, _, rfl, rfl, seqL_but hs nl b1, e, q _ _ (List.getElem_mem hj) b1 D1 g1⟩
    · exact .inr (.inl ⟨l, xs, _, _, rfl, rfl, seqT_but hs nl b1, e, q _ _ (List.getElem_mem hj) b1 D1 g1⟩)
end
end K
set_option Elab.async false
set_option linter.all false
set_option maxRecDepth 100000
set_option maxHeartbeats 4000000
/-! The forms of values: rows, words. -/
namespace K
open PySem L2 Hk
def wordOk (n : Int) (x : Str) : Bool := decide (1 ≤ (x.length : Int)) && decide ((x.length : Int) ≤ n) && (Txt.isascii x && (Txt.isalpha x && Txt.islower x))
def spIsRow (K : PySem.W.Frag) : Sp := fun vs H Q _ => ∃ (v : V) (T : String) (b : Bool), vs = [v] ∧ TyX K H v (.type T) ∧ PySem.W.kitAny K (.type T) [.type "list", .type "tuple"] = some b ∧ ∀ H', Same H H' → Q (.bl b) H'
def spIsWord (K : PySem.W.Frag) : Sp := fun vs H Q _ => ∃ (v : V) (n : Int), vs = [v, .int n] ∧
  ((∃ x : Str, v = .str x ∧ x.length ≤ sizeLine ∧ Q (.bl (wordOk n x)) H) ∨ (∃ T : String, TyX K H v (.type T) ∧ kitB T "str" = some false ∧ Q (.bl false) H))
structure TxtF (mg : Str → Option Value) : Prop where
  len : mg "len" = none
  isi : mg "isinstance" = none
  list : mg "list" = none
  tuple : mg "tuple" = none
  str : mg "str" = none
  dict : mg "dict" = none
  set : mg "set" = none
  all : mg "all" = none
  any : mg "any" = none
  sorted : mg "sorted" = none
  iter : mg "iter" = none
theorem tyX_same {K : PySem.W.Frag} {H H' : Hp} {v : V} {t : Value} (x : TyX K H v t) (s : Same H H') : TyX K H' v t := by
  cases x with
  | base b =>
    refine .base ?_
    cases b with
    | non => exact .non
    | bl x => exact .bl x
    | int i => exact .int i
    | str x => exact .str x
    | flt x => exact .flt x
    | lst e => exact .lst (s _ _ e)
    | frz e => exact .frz (s _ _ e)
    | tup e => exact .tup (s _ _ e)
    | dK e => exact .dK (s _ _ e)
    | dT e => exact .dT (s _ _ e)
    | ins e cl ha hn htk hm => exact .ins (s _ _ e) cl ha hn htk hm
  | byt b => exact .byt b
  | set e => exact .set (s _ _ e)
  | kList e c => exact .kList e c
  | kTuple e c => exact .kTuple e c
  | kDict e c => exact .kDict e c
  | fTuple e => exact .fTuple (s _ _ e)
  | fDict e => exact .fDict (s _ _ e)
section
variable {P : Program} {w : World} {K : PySem.W.Frag} {mg : Str → Option Value} {base : Heap} {f : Addr} {fd : FuncData}
theorem scIsRow : FnScope ["value"] ["value"] (defScope sIsRow) := ⟨rfl, rfl, rfl, by decide +kernel, rfl, by decide +kernel, by decide +kernel⟩
theorem ok_is_row (F : Fun K "is_row" "is_row" sIsRow f fd) (T : TxtF mg) : FnOk P w K mg base CX0 1 f fd ["value"] (spIsRow K) := by
  refine F.ok scIsRow (fun vs H Q E h => ?_) (fun cdv A outer s H vs Q E hr h => ?_)
  · obtain ⟨v, t, b, rfl, _⟩ := h
    rfl
  · obtain ⟨v, t, b, rfl, ty, kb, q⟩ := h
    refine ⟨_, pss_one (ps_ret (pe_callB call_isiT (by rfl) T.isi (by decide +kernel) (pa_cons (pv 0) (pa_cons (pe_tup (pa_cons (pe_bltn (v := .ty "list") (by rfl) T.list (by decide +kernel) rfl) (pa_cons (pe_bltn (v := .ty "tuple") (by rfl) T.tuple (by decide +kernel) rfl) pa_nil))) pa_nil)))), ?_⟩
    refine ⟨_, rfl, by show 2 ≤ sizeLine; decide, fun p hp => ?_⟩
    refine ⟨v, p, _, _, _, b, rfl, upd_same, .cons (.ty "list") (.cons (.ty "tuple") .nil), tyX_same ty (Same.fresh (Same.refl H) hp), kb, q _ (Same.fresh (Same.refl H) hp)⟩
theorem scIsWord : FnScope ["value", "longest"] ["value", "longest"] (defScope sIsWord) := ⟨rfl, rfl, rfl, by decide +kernel, rfl, by decide +kernel, by decide +kernel⟩
theorem ok_is_word (F : FunD K "is_word" "is_word" (defArgs sIsWord) (defBody sIsWord) (defScope sIsWord) [.int 8] [] f fd) (T : TxtF mg) : FnOk P w K mg base CX0 1 f fd ["value", "longest"] (spIsWord K) := by
  refine F.ok scIsWord (fun vs H Q E h => ?_) (fun cdv A outer s H vs Q E hr h => ?_)
  · obtain ⟨v, n, rfl, _⟩ := h
    rfl
  · obtain ⟨v, n, rfl, h⟩ := h
    refine ⟨_, pss_cons (ps_if (PW.pt (pw_or (pt_not (pt_val (pe_callB call_isi (by rfl) T.isi (by decide +kernel) (pa_cons (pv 0) (pa_cons (pe_bltn (v := .ty "str") (by rfl) T.str (by decide +kernel) rfl) pa_nil)))))
        (pw_or1 (pt_not (pt_chain op_le op_le pe_int (pe_callB call_len_str (by rfl) T.len PySem.boot_len (pa_cons (pv 0) pa_nil)) (pv 1)))))) (pss_one (ps_ret pe_bl)) pss_nil)
      (pss_one (ps_ret (pe_and (pe_m0 PySem.F.slot_str_isascii PySem.F.type_str_isascii mt_isascii (pv 0)) (pe_and (pe_m0 PySem.F.slot_str_isalpha PySem.F.type_str_isalpha mt_isalpha (pv 0)) (pe_one (pe_m0 PySem.F.slot_str_islower PySem.F.type_str_islower mt_islower (pv 0))))))), ?_⟩
    rcases h with ⟨x, rfl, hx, q⟩ | ⟨t, ty, kb, q⟩
    · refine ⟨_, rfl, .str x, .ty "str", .type "str", .type "str", true, rfl, .ty "str", .base (.str x), kit_ty (by decide +kernel), _, rfl, ?_⟩
      refine iteF ?_
      refine ⟨_, rfl, x, rfl, hx, _, _, rfl, rfl, _, rfl, ?_⟩
      refine ite2 (fun c1 => ?_) (fun c1 => ?_)
      · have c1' := of_decide_eq_true c1
        refine ⟨_, rfl, _, _, rfl, rfl, _, rfl, ?_⟩
        by_cases c2 : (x.length : Int) ≤ n
        · refine iteNS c2 ?_
          have e : wordOk n x = (Txt.isascii x && (Txt.isalpha x && Txt.islower x)) := by
            unfold wordOk
            rw [decide_eq_true c1', decide_eq_true c2]
            rfl
          rw [e] at q
          refine ⟨_, rfl, ⟨x, rfl⟩, x, rfl, rfl, trivial, _, rfl, ?_⟩
          cases h1 : Txt.isascii x with
          | false =>
            rw [h1] at q
            exact iteF q
          | true =>
            rw [h1] at q
            refine iteT ⟨_, rfl, ⟨x, rfl⟩, x, rfl, rfl, trivial, _, rfl, ?_⟩
            cases h2 : Txt.isalpha x with
            | false =>
              rw [h2] at q
              exact iteF q
            | true =>
              rw [h2] at q
              exact iteT ⟨_, rfl, ⟨x, rfl⟩, x, rfl, rfl, trivial, q⟩
        · have e : wordOk n x = false := by
            unfold wordOk
            rw [decide_eq_false c2, Bool.and_false]
            rfl
          rw [e] at q
          rw [decide_eq_false c2]
          exact q
      · have e : wordOk n x = false := by
          unfold wordOk
          rw [show decide (1 ≤ (x.length : Int)) = false from by simpa using c1]
          rfl
        rw [e] at q
        exact ⟨_, rfl, q⟩
    · refine ⟨_, rfl, v, .ty "str", .type t, .type "str", false, rfl, .ty "str", ty, kit_ty kb, _, rfl, ?_⟩
      exact q
end
end K
set_option Elab.async false
set_option linter.all false
set_option maxRecDepth 100000
set_option maxHeartbeats 4000000
/-! Values as data; are_words. -/
namespace K
open PySem L2 Hk
/-- values as data -/
inductive Dt where
  | non | dct
  | int (i : Int)
  | str (x : Str)
  | lst (l : List Dt)
  | tup (l : List Dt)
mutual
inductive Da (K : PySem.W.Frag) (H : Hp) : V → Dt → Prop
  | non : Da K H .non .non
  | dct {a : Addr} : H a = some (.dK []) → Da K H (.ref a) .dct
  | int (i : Int) : Da K H (.int i) (.int i)
  | str (x : Str) : x.length ≤ 1000 → Da K H (.str x) (.str x)
  | lst {a : Addr} {xs : List V} {l : List Dt} : SqL K H a xs → DaAll K H xs l → Da K H (.ref a) (.lst l)
  | tup {a : Addr} {xs : List V} {l : List Dt} : H a = some (.tup xs) → DaAll K H xs l → Da K H (.ref a) (.tup l)
  | nul {a : Addr} : SqT K H a [] → Da K H (.ref a) (.tup [])
inductive DaAll (K : PySem.W.Frag) (H : Hp) : List V → List Dt → Prop
  | nil : DaAll K H [] []
  | cons {v : V} {vs : List V} {d : Dt} {l : List Dt} : Da K H v d → DaAll K H vs l → DaAll K H (v :: vs) (d :: l)
end
mutual
theorem Da.same {K : PySem.W.Frag} {H H' : Hp} (s : Same H H') : ∀ {v : V} {d : Dt}, Da K H v d → Da K H' v d
  | _, _, .non => .non
  | _, _, .dct e => .dct (s _ _ e)
  | _, _, .int i => .int i
  | _, _, .str x h => .str x h
  | _, _, .lst q r => .lst (s.seq q) (DaAll.same s r)
  | _, _, .tup q r => .tup (s _ _ q) (DaAll.same s r)
  | _, _, .nul q => .nul (seqT_same s q)
theorem DaAll.same {K : PySem.W.Frag} {H H' : Hp} (s : Same H H') : ∀ {v : List V} {d : List Dt}, DaAll K H v d → DaAll K H' v d
  | _, _, .nil => .nil
  | _, _, .cons h t => .cons (Da.same s h) (DaAll.same s t)
end
theorem DaAll.len {K : PySem.W.Frag} {H : Hp} : ∀ {xs : List V} {l : List Dt}, DaAll K H xs l → xs.length = l.length
  | _, _, .nil => rfl
  | _, _, .cons _ t => congrArg Nat.succ (DaAll.len t)
theorem DaAll.at {K : PySem.W.Frag} {H : Hp} : ∀ {xs : List V} {l : List Dt} {i : Nat} {x : V}, DaAll K H xs l → xs[i]? = some x → ∃ d, l[i]? = some d ∧ Da K H x d
  | _, _, _, _, .nil, e => by simp at e
  | _, _, 0, _, .cons h _, e => by
    simp at e
    subst e
    exact ⟨_, rfl, h⟩
  | _, _, i + 1, x, .cons _ t, e => by
    obtain ⟨d, e1, e2⟩ := DaAll.at (i := i) (x := x) t (by simpa using e)
    exact ⟨d, by simpa using e1, e2⟩
def tyOf : Dt → String
  | .non => "NoneType"
  | .dct => "dict"
  | .int _ => "int"
  | .str _ => "str"
  | .lst _ => "list"
  | .tup _ => "tuple"
theorem tyX_list {K : PySem.W.Frag} {H : Hp} {a : Addr} {xs : List V} (h : SqL K H a xs) : TyX K H (.ref a) (.type "list") := by
  rcases h with (h | ⟨o, h⟩) | ⟨o, its, n, hk, hc, _⟩
  · exact .base (.lst h)
  · exact .base (.frz h)
  · exact .kList hk hc
theorem tyX_tup {K : PySem.W.Frag} {H : Hp} {a : Addr} {xs : List V} (h : SqT K H a xs) : TyX K H (.ref a) (.type "tuple") := by
  rcases h with (h | ⟨o, h⟩) | ⟨o, its, n, hk, hc, _⟩
  · exact .base (.tup h)
  · exact .fTuple h
  · exact .kTuple hk hc
theorem Da.ty {K : PySem.W.Frag} {H : Hp} {v : V} {d : Dt} (h : Da K H v d) : TyX K H v (.type (tyOf d)) := by
  cases h with
  | non => exact .base .non
  | dct e => exact .base (.dK e)
  | int i => exact .base (.int i)
  | str x _ => exact .base (.str x)
  | lst q _ => exact tyX_list q
  | tup q _ => exact tyX_tup (.inl (.inl q))
  | nul q => exact tyX_tup q
def rowD : Dt → Option (List Dt)
  | .lst l => some l
  | .tup l => some l
  | _ => none
theorem kit_two {K : PySem.W.Frag} {t : String} {b1 b2 : Bool} (h1 : kitB t "list" = some b1) (h2 : kitB t "tuple" = some b2) : PySem.W.kitAny K (.type t) [.type "list", .type "tuple"] = some (b1 || b2) :=
  kitAny_cons (kit_ty h1) (fun e => by rw [e]; exact kitAny_cons (kit_ty h2) (fun e2 => by rw [e2]; exact kitAny_nil) (fun e2 => by rw [e2]; rfl)) (fun e => by rw [e]; rfl)
theorem kit_row (K : PySem.W.Frag) : ∀ d : Dt, PySem.W.kitAny K (.type (tyOf d)) [.type "list", .type "tuple"] = some (rowD d).isSome
  | .non => kit_two (t := "NoneType") (b1 := false) (b2 := false) (by decide +kernel) (by decide +kernel)
  | .dct => kit_two (t := "dict") (b1 := false) (b2 := false) (by decide +kernel) (by decide +kernel)
  | .int _ => kit_two (t := "int") (b1 := false) (b2 := false) (by decide +kernel) (by decide +kernel)
  | .str _ => kit_two (t := "str") (b1 := false) (b2 := false) (by decide +kernel) (by decide +kernel)
  | .lst _ => kit_two (t := "list") (b1 := true) (b2 := false) (by decide +kernel) (by decide +kernel)
  | .tup _ => kit_two (t := "tuple") (b1 := false) (b2 := true) (by decide +kernel) (by decide +kernel)
theorem kit_str : ∀ d : Dt, (∀ x, d ≠ .str x) → kitB (tyOf d) "str" = some false
  | .non, _ => show kitB "NoneType" "str" = some false by decide +kernel
  | .dct, _ => show kitB "dict" "str" = some false by decide +kernel
  | .int _, _ => show kitB "int" "str" = some false by decide +kernel
  | .str x, h => absurd rfl (h x)
  | .lst _, _ => show kitB "list" "str" = some false by decide +kernel
  | .tup _, _ => show kitB "tuple" "str" = some false by decide +kernel
theorem Da.row {K : PySem.W.Frag} {H : Hp} {v : V} {d : Dt} {l : List Dt} (h : Da K H v d) (e : rowD d = some l) : ∃ b a xs, v = .ref a ∧ SqX K H b a xs ∧ DaAll K H xs l := by
  cases h with
  | lst q r => cases e; exact ⟨true, _, _, rfl, q, r⟩
  | tup q r => cases e; exact ⟨false, _, _, rfl, SqX.tup (.inl (.inl q)), r⟩
  | nul q => cases e; exact ⟨false, _, _, rfl, SqX.tup q, .nil⟩
  | _ => cases e
theorem Da.tupI {K : PySem.W.Frag} {H : Hp} {v : V} {l : List Dt} (h : Da K H v (.tup l)) : ∃ a xs, v = .ref a ∧ SqT K H a xs ∧ DaAll K H xs l := by
  cases h with
  | tup q r => exact ⟨_, _, rfl, .inl (.inl q), r⟩
  | nul q => exact ⟨_, _, rfl, q, .nil⟩
def wordD (n : Int) : Dt → Bool
  | .str x => wordOk n x
  | _ => false
def strsD (l : List Dt) : List Str := l.filterMap fun d => match d with
  | .str x => some x
  | _ => none
/-- a list or tuple of words that all differ -/
def wordsD (n : Int) (d : Dt) : Bool := match rowD d with
  | some l => l.all (wordD n) && decide (strsD l).Nodup
  | none => false
theorem strs_of {n : Int} : ∀ {l : List Dt}, l.all (wordD n) = true → l = (strsD l).map Dt.str
  | [], _ => rfl
  | d :: l, h => by
    rw [List.all_cons, Bool.and_eq_true] at h
    cases d with
    | str x =>
      have ih := strs_of h.2
      have e : strsD (Dt.str x :: l) = x :: strsD l := rfl
      rw [e, List.map_cons, ← ih]
    | _ => cases h.1
theorem DaAll.strs {K : PySem.W.Frag} {H : Hp} : ∀ {xs : List V} {ss : List Str}, DaAll K H xs (ss.map Dt.str) → xs = ss.map V.str
  | _, [], .nil => rfl
  | _, x :: ss, .cons h t => by
    cases h
    rw [DaAll.strs t]
    rfl
theorem DaAll.ofStrs {K : PySem.W.Frag} {H : Hp} : ∀ {ss : List Str}, (∀ x ∈ ss, x.length ≤ 1000) → DaAll K H (ss.map V.str) (ss.map Dt.str)
  | [], _ => .nil
  | x :: ss, h => .cons (.str x (h x List.mem_cons_self)) (DaAll.ofStrs fun y m => h y (List.mem_cons_of_mem _ m))
theorem inr_nodup {ss : List Str} : (ss.map (Sum.inr : Str → Key)).Nodup ↔ ss.Nodup := by
  constructor
  · exact fun h => nodup_map h
  · exact fun h => List.pairwise_map.mpr (h.imp fun ne e => ne (Sum.inr.inj e))
theorem inr_kV (ss : List Str) : (ss.map (Sum.inr : Str → Key)).map kV = ss.map V.str := by
  rw [List.map_map]
  rfl
def spAreWords (K : PySem.W.Frag) : Sp := fun vs H Q _ => ∃ (v : V) (d : Dt) (n : Int), vs = [v, .int n] ∧ Da K H v d ∧ (∀ l, rowD d = some l → l.length < 3000) ∧ ∀ H', Same H H' → Q (.bl (wordsD n d)) H'
structure TxtW (K : PySem.W.Frag) (mg : Str → Option Value) (fR fW : Addr) : Prop where
  f : TxtF mg
  gR : mg "is_row" = some (.ref fR)
  gW : mg "is_word" = some (.ref fW)
  kR : PySem.W.keepIn K (.ref fR) = true
  kW : PySem.W.keepIn K (.ref fW) = true
section
variable {P : Program} {w : World} {K : PySem.W.Frag} {mg : Str → Option Value} {base : Heap} {f fR fW : Addr} {fd fdR fdW : FuncData}
theorem scAreWords : FnScope ["value", "longest", "word"] ["value", "longest"] (defScope sAreWords) := ⟨rfl, rfl, rfl, by decide +kernel, rfl, by decide +kernel, by decide +kernel⟩
theorem ok_are_words (F : FunD K "are_words" "are_words" (defArgs sAreWords) (defBody sAreWords) (defScope sAreWords) [.int 8] [] f fd) (T : TxtW K mg fR fW)
    (GR : FnOk P w K mg base CX0 1 fR fdR ["value"] (spIsRow K)) (bR : Binds K fdR ["value"] []) (GW : FnOk P w K mg base CX0 1 fW fdW ["value", "longest"] (spIsWord K)) (bW : Binds K fdW ["value", "longest"] []) :
    FnOk P w K mg base CX0 2 f fd ["value", "longest"] (spAreWords K) := by
  refine F.ok scAreWords (fun vs H Q E h => ?_) (fun cdv A outer s H vs Q E hr h => ?_)
  · obtain ⟨v, d, n, rfl, _⟩ := h
    rfl
  · obtain ⟨v, d, n, rfl, da, sm, q⟩ := h
    refine ⟨_, pss_cons (ps_if (PW.pt (pw_or (pt_not (pt_val (pe_call GR hr (by rfl) T.gR T.kR bR .nil pass0 (pa_cons (pv 0) pa_nil))))
        (pw_or1 (pt_not (pt_val (pe_callB (cr_all rfl) (by rfl) T.f.all (by decide +kernel) (pa_cons
          (pe_lc (own := [("word", 2)]) (g := gName 2) (tt := tYes) rfl scAreWords.nd (pi_seq (pv 0)) (blkOk_by (N := ["value", "longest", "word"]) (sc := defScope sAreWords) (by decide +kernel))
            (fun _ _ _ _ _ => pg_name (i := 2) scAreWords.nd rfl (Or.inl rfl)) (fun _ _ _ _ _ => pts_nil)
            (fun _ _ _ _ _ => pe_call GW hr (by rfl) T.gW T.kW bW .nil pass0 (pa_cons (pv 2) (pa_cons (pv 1) pa_nil)))) pa_nil))))))) (pss_one (ps_ret pe_bl)) pss_nil)
      (pss_one (ps_ret (pe_cmpR op_eq (pe_callB cr_lenK (by rfl) T.f.len PySem.boot_len (pa_cons (pe_callTy (cr_setW rfl hr.units) (by rfl) T.f.set (by decide +kernel) (pa_cons (pv 0) pa_nil)) pa_nil))
        (pe_callB call_len_seq (by rfl) T.f.len PySem.boot_len (pa_cons (pv 0) pa_nil)) (nomark _)))), ?_⟩
    refine ⟨_, rfl, v, tyOf d, (rowD d).isSome, rfl, da.ty, kit_row K d, fun H1 s1 => ⟨_, rfl, ?_⟩⟩
    cases er : rowD d with
    | none =>
      refine iteT (iteT ?_)
      have e : wordsD n d = false := by
        unfold wordsD
        rw [er]
      rw [e] at q
      exact q H1 s1
    | some l =>
      refine iteF ?_
      have sm2 := sm l er
      obtain ⟨b, a, xs, rfl, hx, hl⟩ := da.row er
      have hx1 := hx.same s1
      have hl1 := hl.same s1
      have lx := hl.len
      refine ⟨_, rfl, b, a, xs, rfl, hx1, fun J wk D hD => lcX wk hD (fun i acc H => acc = ((l.take i).map (wordD n)).map V.bl) (by rw [sizeLine_eq]; omega) (fun _ _ _ _ r _ => r) (by simp) (fun H2 s2 => hx1.same s2) ?_ ?_⟩
      · intro i x H2 acc hi ex s2 e r Nx yes no
        refine ⟨rfl, tYes_ok ?_⟩
        obtain ⟨dx, ed, dax⟩ := hl1.at ex
        have dax2 := Da.same s2 dax
        have up : l.take (i + 1) = l.take i ++ [dx] := take_up ed
        refine ⟨_, rfl, _, rfl, x, n, rfl, ?_⟩
        cases dx with
        | str z =>
          cases dax2 with
          | str _ hz =>
            refine .inl ⟨z, rfl, by rw [sizeLine_eq]; omega, yes _ _ (Same.refl _) ?_⟩
            rw [r, up]
            simp [wordD]
        | _ =>
          refine .inr ⟨_, dax2.ty, kit_str _ (by intro z q; cases q), yes _ _ (Same.refl _) ?_⟩
          rw [r, up]
          simp [wordD]
      · intro H2 acc s2 e r
        have r2 : acc = (l.map (wordD n)).map V.bl := by
          rw [r, lx, List.take_length]
        rw [r2] at e
        refine ⟨D, l.map (wordD n), rfl, SqL.of e, _, rfl, ?_⟩
        have s3 : Same H H2 := s1.trans s2
        have ea : (l.map (wordD n)).all id = l.all (wordD n) := by rw [List.all_map]; rfl
        rw [ea]
        cases w1 : l.all (wordD n) with
        | false =>
          refine iteT ?_
          have ew : wordsD n d = false := by
            unfold wordsD
            rw [er]
            simp [w1]
          rw [ew] at q
          exact q H2 s3
        | true =>
          refine iteF ?_
          have el := strs_of w1
          have hl2 := hl1.same s2
          rw [el] at hl2
          have exs := hl2.strs
          have hx2 := hx1.same s2
          have lens : (strsD l).length = l.length := by
            have := congrArg List.length el
            rw [List.length_map] at this
            exact this.symm
          have both : SqL K H2 a (((strsD l).map Sum.inr).map kV) ∨ SqT K H2 a (((strsD l).map Sum.inr).map kV) := by
            rw [inr_kV, ← exs]
            exact hx2.either
          refine ⟨_, rfl, a, (strsD l).map Sum.inr, rfl, both, by rw [List.length_map]; omega, fun S m hS hm => ?_⟩
          have s4 : Same H2 (upd H2 S (SetK P w S (fun k => memK k ((strsD l).map Sum.inr)) m)) := Same.fresh (Same.refl _) hS
          refine ⟨S, _, m, rfl, upd_same, _, rfl, a, xs, rfl, (hx2.same s4).either, rfl, ?_⟩
          have ew : wordsD n d = decide (V.int (m : Int) = V.int (xs.length : Int)) := by
            unfold wordsD
            rw [er]
            rw [List.length_map, inr_nodup] at hm
            have e5 : xs.length = (strsD l).length := by rw [lx, lens]
            simp only [w1, Bool.true_and]
            rw [Bool.eq_iff_iff, decide_eq_true_eq, decide_eq_true_eq, ← hm, e5, V.int.injEq]
            omega
          rw [ew] at q
          exact q _ (s3.trans s4)
end
end K
set_option Elab.async false
set_option linter.all false
set_option maxRecDepth 100000
set_option maxHeartbeats 4000000
/-! x in a list of data; == and != of data, whatever the signs of their texts. -/
namespace Hk
open PySem L2
/-- x in l, x not in l; l a list of data -/
def rInD (K : PySem.W.Frag) (neg : Bool) : R2 := fun x y H Q => ∃ (p : Addr) (xs : List V) (ds : List PyData) (d : PyData), y = .ref p ∧ SqL K H p xs ∧ DpAll K H xs ds ∧ Dp K H x d ∧ PyData.plainAll ds = true ∧ d.plain = true ∧ d.depth ≤ 60 ∧
  Q (.bl (if neg then !(ds.any fun e => PyData.eqv e d) else ds.any fun e => PyData.eqv e d)) H
/-- x == y, x != y of data -/
def rEqP (K : PySem.W.Frag) (neg : Bool) : R2 := fun x y H Q => ∃ (d e : PyData), Dp K H x d ∧ Dp K H y e ∧ d.plain = true ∧ e.plain = true ∧ d.depth ≤ 60 ∧ Q (.bl (if neg then !PyData.eqv d e else PyData.eqv d e)) H
section
variable {X : Cx}
theorem op_inD (hu : X.A.units + 64 < cLine) : OpR X (compareOp .In) (rInD X.K false) := by
  intro pins s σ H x y v u Q I rx ry h
  obtain ⟨p, xs, ds, d, rfl, hq, hds, hd, cl, sh, dp, q⟩ := h
  obtain ⟨as, r1⟩ := Dp.reads I (.list ds) (.ref p) u (.lst hq hds) ry
  obtain ⟨bs, r2⟩ := Dp.reads I d x v hd rx
  exact SeqAt.in_list_data r1 r2 cl sh (by have := Nat.min_le_right (PyData.depthAll ds) d.depth; omega) ⟨.bl _, H, I, rfl, q⟩
theorem op_notInD (hu : X.A.units + 64 < cLine) : OpR X (compareOp .NotIn) (rInD X.K true) := by
  intro pins s σ H x y v u Q I rx ry h
  obtain ⟨p, xs, ds, d, rfl, hq, hds, hd, cl, sh, dp, q⟩ := h
  obtain ⟨as, r1⟩ := Dp.reads I (.list ds) (.ref p) u (.lst hq hds) ry
  obtain ⟨bs, r2⟩ := Dp.reads I d x v hd rx
  exact SeqAt.notIn_list_data r1 r2 cl sh (by have := Nat.min_le_right (PyData.depthAll ds) d.depth; omega) ⟨.bl _, H, I, rfl, q⟩
theorem op_eqP (hu : X.A.units + 64 < cLine) : OpR X (compareOp .Eq) (rEqP X.K false) := by
  intro pins s σ H x y v u Q I rx ry h
  obtain ⟨d, e, hd, he, sd, se, dp, q⟩ := h
  obtain ⟨as, r1⟩ := Dp.reads I d x v hd rx
  obtain ⟨bs, r2⟩ := Dp.reads I e y u he ry
  exact SeqAt.eq_plain r1 r2 sd se (by have := Nat.min_le_left d.depth e.depth; omega) ⟨.bl _, H, I, rfl, q⟩
theorem op_neP (hu : X.A.units + 64 < cLine) : OpR X (compareOp .NotEq) (rEqP X.K true) := by
  intro pins s σ H x y v u Q I rx ry h
  obtain ⟨d, e, hd, he, sd, se, dp, q⟩ := h
  obtain ⟨as, r1⟩ := Dp.reads I d x v hd rx
  obtain ⟨bs, r2⟩ := Dp.reads I e y u he ry
  exact SeqAt.ne_plain r1 r2 sd se (by have := Nat.min_le_left d.depth e.depth; omega) ⟨.bl _, H, I, rfl, q⟩
end
end Hk
set_option Elab.async false
set_option linter.all false
set_option maxRecDepth 100000
set_option maxHeartbeats 4000000
/-! enumerate of a tuple; x in a tuple of data. -/
namespace Hk
open PySem PySem.Spec PyProof.Rows L2
/-- x in t, x not in t; t a tuple of data -/
def rInDT (K : PySem.W.Frag) (neg : Bool) : R2 := fun x y H Q => ∃ (p : Addr) (xs : List V) (ds : List PyData) (d : PyData), y = .ref p ∧ SqT K H p xs ∧ DpAll K H xs ds ∧ Dp K H x d ∧ PyData.plainAll ds = true ∧ d.plain = true ∧ d.depth ≤ 60 ∧
  Q (.bl (if neg then !(ds.any fun e => PyData.eqv e d) else ds.any fun e => PyData.eqv e d)) H
section
variable {X : Cx}
theorem op_inDT (hu : X.A.units + 64 < cLine) : OpR X (compareOp .In) (rInDT X.K false) := by
  intro pins s σ H x y v u Q I rx ry h
  obtain ⟨p, xs, ds, d, rfl, hq, hds, hd, cl, sh, dp, q⟩ := h
  obtain ⟨as, r1⟩ := Dp.reads I (.tuple ds) (.ref p) u (.tup hq hds) ry
  obtain ⟨bs, r2⟩ := Dp.reads I d x v hd rx
  exact SeqAt.in_tuple_data r1 r2 cl sh (by have := Nat.min_le_right (PyData.depthAll ds) d.depth; omega) ⟨.bl _, H, I, rfl, q⟩
theorem op_notInDT (hu : X.A.units + 64 < cLine) : OpR X (compareOp .NotIn) (rInDT X.K true) := by
  intro pins s σ H x y v u Q I rx ry h
  obtain ⟨p, xs, ds, d, rfl, hq, hds, hd, cl, sh, dp, q⟩ := h
  obtain ⟨as, r1⟩ := Dp.reads I (.tuple ds) (.ref p) u (.tup hq hds) ry
  obtain ⟨bs, r2⟩ := Dp.reads I d x v hd rx
  exact SeqAt.notIn_tuple_data r1 r2 cl sh (by have := Nat.min_le_right (PyData.depthAll ds) d.depth; omega) ⟨.bl _, H, I, rfl, q⟩
end
/-- the iterator of a tuple, the enumerate over it -/
def tupIt (l : Addr) : Obj := { cls := .type "tuple_iterator", data := .fields #[.ref l, .int 0 0] }
def enumOb (it : Addr) : Obj := { cls := .type "enumerate", data := .fields #[.none, .bool false, .ref it, rawInt 0, .none, .none] }
theorem meets_enumT (l : Addr) (items : Array Value) (n : Nat) (dct : Option Addr) (sl : Array (Option Value)) :
    Meets (Builtin.«enumerate.__new__» ⟨[.type "enumerate", .ref l], []⟩) (fun _ R s => s.heap.get? l = some { cls := .type "tuple", dict := dct, data := .seq items n, slots := sl } ∧
      R (.ok (.ret (.ref (s.heap.push (tupIt l)).objs.size))) { s with heap := (s.heap.push (tupIt l)).push (enumOb s.heap.objs.size) }) := by
  refine .of_wp fun prog w A R s ⟨hl, h⟩ => ?_
  obtain ⟨hp, g, d, tk, os⟩ := s
  have hsub := sub_enumerate
  have hT : Heap.IsTuple (Shared.heap ⟨hp, g, d, tk, os⟩) l items := ⟨_, hl, rfl, n, rfl⟩
  wp_walk using AutoSeq1.wpAny_loadPart' hl
  (refine wpAny_stack_any fun sk => wpAny_pure ?_); split
  · rename_i c _ _ _ _ _
    cases (c == Value.type "enumerate") <;> (wp_walk using AutoSeq1.wpAny_loadPart' hl, wpAny_pyIter_tuple hT; exact ⟨_, rfl, h⟩)
  · (wp_walk using AutoSeq1.wpAny_loadPart' hl, wpAny_pyIter_tuple hT); exact ⟨_, rfl, h⟩
section
variable {prog : Program} {w : World} {A : Around} {E : Value → Shared → Prop} {s : Shared}
theorem call_enumT {l : Addr} {items : Array Value} {Q : Value → Shared → Prop} (hL : s.heap.IsTuple l items)
    (h : ∀ h', IsEnum h' (s.heap.objs.size + 1) s.heap.objs.size 0 .none → h'.IsTupleIter s.heap.objs.size l 0 → h'.objs.size = s.heap.objs.size + 2 → (∀ b o, s.heap.get? b = some o → h'.get? b = some o) → Q (.ref (s.heap.objs.size + 1)) { s with heap := h' }) :
    wpAny (model prog w) A (call (.type "enumerate") [.ref l]) Q E s := by
  obtain ⟨⟨c, dct, dt, sl⟩, hl, hc, n, hd⟩ := hL
  cases (show c = .type "tuple" from hc)
  cases (show dt = .seq items n from hd)
  refine callType_new F.called_enumerate (by decide) (F.typeCall_enumerate_1 _) (F.newCall_enumerate_1 _) (fun obj => F.args_object_init_2 obj _) F.entry_enumerate_new (meets_enumT l items n dct sl) ⟨hl, ?_⟩
  have hz : (s.heap.push (tupIt l)).objs.size = s.heap.objs.size + 1 := Heap.size_push ..
  have he : IsEnum ((s.heap.push (tupIt l)).push (enumOb s.heap.objs.size)) (s.heap.objs.size + 1) s.heap.objs.size 0 .none := by
    have e := Heap.get?_push_size (s.heap.push (tupIt l)) (o := enumOb s.heap.objs.size) rfl
    rw [hz] at e
    exact e
  show _ ∧ _
  rw [hz]
  exact ⟨⟨_, he, rfl⟩, h _ he ⟨_, Heap.get?_push_of_some _ (Heap.get?_push_size _ rfl), rfl, rfl⟩ (by rw [Heap.size_push, hz]) fun b o x => Heap.get?_push_of_some _ (Heap.get?_push_of_some _ x)⟩
end
theorem enumT_end {prog : Program} {w : World} {A : Around} {E : Value → Shared → Prop} {s : Shared} {e it l : Addr} {i : Nat} {items : Array Value} {old : Value} {Q : Option Value → Shared → Prop} (hh : A.handled = none) (he : IsEnum s.heap e it i old)
    (hit : s.heap.IsTupleIter it l i) (hl : s.heap.IsTuple l items) (hx : items[i]? = none) (hQ : ∀ h', Heap.ExtBut it s.heap h' → Q none { s with heap := h' }) : wpAny (model prog w) A (pyNext (.ref e)) Q E s := by
  have ty : s.TypeIs (.ref e) "enumerate" := ⟨_, he, rfl⟩
  unfold pyNext
  refine wpAny_bind (wpAny_attempt (wpAny_callSpecial?_slot (name := Str.ofString "__next__") ty F.slot_enumerate_next (wpAny_call_entry F.slot_enumerate_next ty F.entry_enumerate_next ?_ (F.args_enumerate_next_1 _))))
  show wpAny _ _ (field (.ref e) 2 >>= fun _ => _) _ _ _
  refine wpAny_bind (wpAny_field he rfl (x := .ref it) rfl (wpAny_bind (wpAny_nextOf_tuple_end hh hit hl hx fun h' x he' ⟨o, ho, hc⟩ => wpAny_bind (wpAny_isInstance (T := "StopIteration") (b := true) ⟨o, ho, hc⟩ isSubtype_stop (wpAny_pure (hQ _ he'))))))
/-- the tuple at a as it stands at each turn, each item in a new pair -/
def ItEn (K : PySem.W.Frag) (a : Addr) : It :=
  ⟨fun i H => ∃ (xs : List V) (x : V), SqT K H a xs ∧ xs[i]? = some x, fun i H v H' => ∃ T x, v = .ref T ∧ H T = none ∧ H' = upd H T (.tup [.int (i : Nat), x]) ∧ ∀ xs, SqT K H a xs → xs[i]? = some x, fun i H => ∃ xs : List V, SqT K H a xs ∧ xs.length ≤ i⟩
theorem turn_enumT {P : Program} {w : World} {K : PySem.W.Frag} {elts : List Expr} {kk : Nat} {tpos : Pos} {a e it : Addr} (hai : a ≠ it) (hea : e ≠ a) :
    Turn P w K (.Tuple elts kk tpos) (ItEn K a) [e, it] e (fun i h => (∃ old, IsEnum h e it ((i : Nat) : Int) old) ∧ h.IsTupleIter it a i ∧ e ≠ it) where
  mem := by simp
  obj := fun i h st b hb => by
    obtain ⟨⟨old, he⟩, ⟨o, ho, hc, hd⟩, _⟩ := st
    rcases (show b = e ∨ b = it by simpa using hb) with z | z
    · rw [z]
      exact ⟨_, he, fun v q => nomatch q⟩
    · rw [z]
      exact ⟨o, ho, fun v q => by rw [hd] at q; cases q⟩
  keep := fun i h h' st k => let ⟨⟨old, he⟩, hi, hne⟩ := st; ⟨⟨old, k e (by simp) _ he⟩, hi.at fun o q => k it (by simp) o q, hne⟩
  item := by
    intro X hP hw hK hc i pins s σ H E I hf st hg
    subst hP hw hK
    obtain ⟨⟨old, he⟩, hit, hne⟩ := st
    obtain ⟨xs, x, hq, hx⟩ := hg
    obtain ⟨its, rv, p, hz⟩ := I.tuple hq
    obtain ⟨u, hu, ru⟩ := rv.get hx
    have hel : e < s.heap.objs.size := Heap.lt_size he
    have hil : it < s.heap.objs.size := let ⟨_, q, _⟩ := hit; Heap.lt_size q
    have D := Draws.tuple (prog := X.prog) (w := X.w) (A := X.A.in1) (I.ok.hd hc) it a hai its.toArray
    have iz : i < its.toArray.size := by
      rw [List.size_toArray]
      exact (List.getElem?_eq_some_iff.mp hu).1
    refine wpAny_pyNext_enum_itemD D he ⟨hit, p⟩ iz hne (by simp [hne, hea]) fun y h' tk hy ho st' hT hsz hk => ?_
    obtain ⟨hit', _⟩ := st'
    have ey : y = u := by
      have z : its.toArray[i]? = some y := hy
      rw [show its.toArray[i]? = some u by simpa using hu] at z
      exact (Option.some.inj z).symm
    subst ey
    refine ⟨_, rfl, wpAny_letOwnedTupleGo_enum (s := { s with heap := h', toks := tk + 1 }) ho fun h'' he' sb => ?_⟩
    have hT2 : h''.get? s.heap.objs.size = some { cls := .type "tuple", data := .seq #[.int i tk, y] } := (sb.2 _ (Nat.ne_of_gt hel)).trans hT
    have new : ObjOk X.prog X.w (upd H s.heap.objs.size (.tup [.int (i : Nat), x])) h'' s.heap.objs.size (.tup [.int (i : Nat), x]) :=
      ⟨by show 2 ≤ sizeLine; decide, [.int i tk, y], .cons ⟨_, rfl⟩ (.cons ru .nil), ⟨_, hT2, rfl, _, rfl⟩⟩
    have I1 : Inv X pins σ (upd H s.heap.objs.size (.tup [.int (i : Nat), x])) { s with heap := h'', toks := tk + 1 } :=
      I.turnedNew (ch := [e, it]) (fun b ob hb q => (sb.2 b (fun z => hb (by simp [z]))).trans (hk b ob (fun z => hb (by simp [z])) (fun z => hb (by simp [z])) q)) hf (Nat.le_refl _) new
    refine ⟨.ref s.heap.objs.size, _, I1, rfl, ⟨_, x, rfl, I.hok.fresh (Nat.le_refl _), rfl, fun zs hy => ?_⟩, ⟨⟨y, ?_⟩, hit'.at fun o q => (sb.2 it (Ne.symm hne)).trans q, hne⟩, fun b hb => ?_⟩
    · rw [I.tuple_inj hy hq]
      exact hx
    · have e1 : ((i + 1 : Nat) : Int) = (i : Int) + 1 := by omega
      rw [e1]; exact he'
    · have hb' : b < s.heap.objs.size := by
        rcases (show b = e ∨ b = it by simpa using hb) with z | z
        · rw [z]; exact hel
        · rw [z]; exact hil
      rw [upd_ne (Nat.ne_of_lt hb')]
      exact (hf b hb).1
  done := by
    intro X hP hw hK hc i pins s σ H E I hf st hg
    subst hP hw hK
    obtain ⟨⟨old, he⟩, hit, hne⟩ := st
    obtain ⟨xs, hq, hx⟩ := hg
    obtain ⟨its, rv, p, hz⟩ := I.tuple hq
    obtain ⟨f0, f1, f2, f3, f4, f5⟩ := hf it (by simp)
    have hl := rv.length
    exact enumT_end (I.ok.hd hc) he hit p (by simp; omega) fun h' eb => ⟨rfl, I.turned (t' := s.toks) (fun b o hb q => eb b o hb q) f0 f1 f3 f4 f5⟩
  self := fun A i s Q E st h => let ⟨⟨_, he⟩, _⟩ := st; wpAny_pyIter_enum he h
/-- a new pair of the place and the item there -/
def YEn (xs : List V) : Nat → Hp → V → Hp → Prop := fun i H v H' => ∃ T x, v = .ref T ∧ H T = none ∧ H' = upd H T (.tup [.int (i : Nat), x]) ∧ xs[i]? = some x
section
variable {K : PySem.W.Frag} {a : Addr} {xs : List V}
theorem walk_enL : Walk (Ite K a) xs.length (fun H => SqX K H true a xs) (YEn xs) where
  goes i H hi h := ⟨xs, xs[i], h, by rw [List.getElem?_eq_getElem hi]⟩
  stops H h := ⟨xs, h, Nat.le_refl _⟩
  yields i H v H' hi h y := by
    obtain ⟨T, x, rfl, hT, rfl, q⟩ := y
    exact ⟨T, x, rfl, hT, rfl, q xs h⟩
theorem walk_enT : Walk (ItEn K a) xs.length (fun H => SqX K H false a xs) (YEn xs) where
  goes i H hi h := ⟨xs, xs[i], h, by rw [List.getElem?_eq_getElem hi]⟩
  stops H h := ⟨xs, h, Nat.le_refl _⟩
  yields i H v H' hi h y := by
    obtain ⟨T, x, rfl, hT, rfl, q⟩ := y
    exact ⟨T, x, rfl, hT, rfl, q xs h⟩
end
/-- enumerate(x), x a list (b) or a tuple -/
def iEnumX (K : PySem.W.Frag) (ta : TA) : TI := fun σ H R => ta σ H fun vs H1 => ∃ b a xs, vs = [.ref a] ∧ SqX K H1 b a xs ∧ ∀ J, Walk J xs.length (fun H => SqX K H b a xs) (YEn xs) → R J H1
theorem pi_enumX {X : Cx} {e : Expr} {ta : TA} {p pos tpos : Pos} {elts : List Expr} {kk : Nat} (hg : Gl X "enumerate") (hm : X.mg "enumerate" = none) (ha : PA X [e] ta) (hs : starEach [e] X.env = [(false, eval e X.env)] := by rfl) :
    PI X (.Tuple elts kk tpos) (.Call (.Name "enumerate" p) [e] [] pos) (iEnumX X.K ta) := by
  refine ⟨fun pins s σ H R I h => Call_ (ld_blt I hg hm boot_enumerate (PyProof.Rows.callWith_type1 (thn (ha.run pos pins s σ H _ I h) fun us s1 ⟨vs, H1, I1, r1, q1⟩ => ?_) hs rfl))⟩
  obtain ⟨bb, a, xs, ex, hq, q⟩ := q1
  subst ex
  cases r1 with
  | cons r rr =>
    cases rr
    cases r
    have fp : ∀ b, b ∈ [s1.heap.objs.size + 1, s1.heap.objs.size] → s1.heap.objs.size ≤ b := fun b hb => by
      rcases (show b = s1.heap.objs.size + 1 ∨ b = s1.heap.objs.size by simpa using hb) with z | z
      · rw [z]; exact Nat.le_add_right _ _
      · rw [z]; exact Nat.le_refl _
    cases bb with
    | true =>
      obtain ⟨its, rv, p', hz⟩ := I1.list (xs := xs) hq
      refine call_enumerate_list p'.isList fun h' he hit hsz hk => wpAny_pyIter_enum he ⟨s1.heap.objs.size + 1, [s1.heap.objs.size + 1, s1.heap.objs.size], _, _, H1, rfl, I1.kept (t' := s1.toks) hk, turn_enum a (s1.heap.objs.size + 1) s1.heap.objs.size, ⟨⟨.none, he⟩, hit, Nat.succ_ne_self _⟩, fun b hb => I1.fpOk (fp b hb) (I1.hok.fresh (fp b hb)), q _ walk_enL⟩
    | false =>
      obtain ⟨its, rv, p', hz⟩ := I1.tuple (xs := xs) hq
      have la : a < s1.heap.objs.size := let ⟨_, e, _⟩ := p'; Heap.lt_size e
      refine call_enumT p' fun h' he hit hsz hk => wpAny_pyIter_enum he ⟨s1.heap.objs.size + 1, [s1.heap.objs.size + 1, s1.heap.objs.size], _, _, H1, rfl, I1.kept (t' := s1.toks) hk, turn_enumT (Nat.ne_of_lt la) (Nat.ne_of_gt (Nat.lt_succ_of_lt la)), ⟨⟨.none, he⟩, hit, Nat.succ_ne_self _⟩, fun b hb => I1.fpOk (fp b hb) (I1.hok.fresh (fp b hb)), q _ walk_enT⟩
/-- a comprehension over an enumerate; as lcX -/
theorem lcE {J : It} {n : Nat} {G : Hp → Prop} {xs : List V} (w : Walk J n G (YEn xs)) {g : TG} {tt : TT} {te : TE} {vs : List Nat} {σ : L2.St} {H1 : Hp} {D : Addr} {Qd : Hp → Prop} (hD : H1 D = none) (R : Nat → List V → Hp → Prop) (big : n < sizeLine)
    (hR : ∀ i l H H', R i l H → But D H H' → R i l H') (h0 : R 0 [] H1) (hG : ∀ H, Same H1 H → G H)
    (turn : ∀ i x T H acc, i < n → xs[i]? = some x → Same H1 H → H T = none → H D = some (.lst acc) → R i acc H → ∀ Nx : Hp → Prop,
      (∀ y H4, Same H H4 → R (i + 1) (acc ++ [y]) H4 → ∃ acc, H4 D = some (.lst acc) ∧ acc.length < sizeLine ∧ Nx (L2.upd H4 D (.lst (acc ++ [y])))) → (∀ H3, Same H H3 → R (i + 1) acc H3 → Nx H3) →
      g (.ref T) (wipe σ vs) (L2.upd H T (.tup [.int (i : Nat), x])) fun σ2 H2 => wipe σ2 vs = wipe σ vs ∧ tt σ2 H2 fun b H3 =>
        if b = true then te σ2 H3 fun y H4 => ∃ acc, H4 D = some (.lst acc) ∧ acc.length < sizeLine ∧ Nx (L2.upd H4 D (.lst (acc ++ [y]))) else Nx H3)
    (fin : ∀ H acc, Same H1 H → H D = some (.lst acc) → R n acc H → Qd H) :
    ∃ W : Nat → Nat → Hp → Prop, (∃ m, W 0 m (L2.upd H1 D (.lst []))) ∧ ∀ i m H, W i m H →
      (J.stop i H ∧ Qd H) ∨ (J.go i H ∧ ∃ Nx : Hp → Prop, (∀ H', Nx H' → ∃ m', m' < m ∧ W (i + 1) m' H') ∧ ∀ x H', J.yld i H x H' → g x (wipe σ vs) H' fun σ2 H2 => wipe σ2 vs = wipe σ vs ∧ tt σ2 H2 fun b H3 =>
        if b = true then te σ2 H3 fun y H4 => ∃ acc, H4 D = some (.lst acc) ∧ acc.length < sizeLine ∧ Nx (L2.upd H4 D (.lst (acc ++ [y]))) else Nx H3) := by
  refine lc_it w (fun i H => Same H1 H ∧ ∃ acc, H D = some (.lst acc) ∧ acc.length ≤ i ∧ R i acc H) ⟨Same.fresh (Same.refl H1) hD, [], upd_same, Nat.le_refl _, hR _ _ _ _ h0 (But.upd But.rfl')⟩ (fun i H _ p => hG H p.1) (fun i v H H' hi p y => ?_) fun H ⟨s, acc, e, _, r⟩ => fin H acc s e r
  obtain ⟨s, acc, e, l, r⟩ := p
  obtain ⟨T, x, rfl, hT, rfl, ex⟩ := y
  refine turn i x T H acc hi ex s hT e r _ (fun y H4 s4 r4 => ⟨acc, s4 _ _ e, by omega, ?_, acc ++ [y], upd_same, by rw [List.length_append]; exact Nat.succ_le_succ l, hR _ _ _ _ r4 (But.upd But.rfl')⟩) fun H3 s3 r3 => ⟨s.trans s3, acc, s3 _ _ e, Nat.le_succ_of_le l, r3⟩
  exact Same.put (s.trans s4) hD
end Hk
set_option Elab.async false
set_option linter.all false
set_option maxRecDepth 100000
set_option maxHeartbeats 4000000
/-! Sets of texts with their members known: set(x), sorted(s). -/
namespace Hk
open PySem PySem.Spec PyProof.Rows L2
open PySem.W (EachIs AllAlike Sortable dataLe)
/-- the text of a row -/
def txtOf (e : Int × Value) : Str := match e.2 with | .str x _ => x | _ => ""
def GoodS (P : Program) (w : World) (e : Int × Value) : Prop := ∃ x tk, e.2 = Value.str x tk ∧ e.1 = (mixKind P w).hash (Sum.inr x)
/-- the set of texts at a, l its members -/
def SetSR (P : Program) (w : World) (h : Heap) (a : Addr) (l : List Str) : Prop :=
  ∃ o es ep t, h.get? a = some o ∧ o.ExactSet ∧ o.data = .set es ep t ∧ (∀ e ∈ es.toList, GoodS P w e) ∧ (es.toList.map txtOf).Perm l ∧ l.Nodup ∧ es.size < scanBound ∧ t.fits es.size = true ∧ Ris t.place.toList ∧ (w.params.followText "set-order" = true ∨ t.led = true)
def SetSO (P : Program) (w : World) (a : Addr) (l : List Str) : HO := .ext fun h => SetSR P w h a l
section
variable {P : Program} {w : World} {A : Around} {E : Value → Shared → Prop} {s : Shared} {a : Addr} {l : List Str}
theorem SetSR.at {h h' : Heap} (R : SetSR P w h a l) (k : ∀ o, h.get? a = some o → h'.get? a = some o) : SetSR P w h' a l := let ⟨o, es, ep, t, ho, r⟩ := R; ⟨o, es, ep, t, k o ho, r⟩
theorem goodS_is {e : Int × Value} (g : GoodS P w e) (x : Str) : (mixKind P w).is (Sum.inr x) e.2 = true ↔ txtOf e = x := by
  obtain ⟨y, tk, h1, _⟩ := g
  unfold txtOf
  rw [h1]
  show ((y == x) = true) ↔ y = x
  exact beq_iff_eq
theorem goodS_elems {r : List (Int × Value)} (g : ∀ e ∈ r, GoodS P w e) : ElemsOf (mixKind P w) r := fun e he => by
  obtain ⟨x, tk, h1, h2⟩ := g e he
  exact ⟨⟨Sum.inr x, (goodS_is (g e he) x).mpr (by unfold txtOf; rw [h1]), h2⟩, by rw [h1] <;> rfl⟩
/-- the storing of a new row, and the table laid anew where it is too full -/
theorem addS_tail {g : Bool → Sem Unit} (hg : ∀ (b : Bool) (s₁ : Shared) (Q' : Unit → Shared → Prop), Q' () s₁ → wpAny (model P w) A (g b) Q' E s₁) {o : Obj} {es : Array (Int × Value)} {ep : Nat} {t : SetTable} (ho : s.heap.get? a = some o) (hex : o.ExactSet) (hd : o.data = .set es ep t)
    {es1 : Array (Int × Value)} {t2 : SetTable} (g1 : ∀ e ∈ es1.toList, GoodS P w e) (p1 : (es1.toList.map txtOf).Perm l) (nd : l.Nodup) (hb1 : es1.size < scanBound) (hf2 : t2.fits es1.size = true) (hr : Ris t2.place.toList) (hl : w.params.followText "set-order" = true ∨ t2.led = true) {wd : Bool} {R : Option Bool → Shared → Prop}
    (hR : ∀ h', Heap.SameBut a s.heap h' → SetSR P w h' a l → R (some true) { s with heap := h' }) :
    wpAny (model P w) A (do storeSet a es1 t2; (if (!wd && t2.tooFull) = true then do (g (relayAll t2 es1 (SetTable.grown es1.size)).2.2); (storeSet a (relayAll t2 es1 (SetTable.grown es1.size)).1 (relayAll t2 es1 (SetTable.grown es1.size)).2.1); (pure (some true)) else pure (some true))) R E s := by
  refine wpAny_bind (wpAny_storeSet_of ho hd ?_ (fits_of_scanBound hb1))
  have ho1 := store_at (es' := es1) (t' := t2) ho hd
  have sb1 := Heap.SameBut.update s.heap a (Obj.putSet es1 t2)
  split
  · have q1 := relayAll_perm t2 es1 (SetTable.grown es1.size)
    have q2 := relayAll_fits t2 es1 (SetTable.grown es1.size)
    have q3 := relayAll_ris t2 es1 (SetTable.grown es1.size)
    have q4 := relayAll_led t2 es1 (SetTable.grown es1.size)
    generalize relayAll t2 es1 (SetTable.grown es1.size) = Z at q1 q2 q3 q4 ⊢
    obtain ⟨es2, t3, gv⟩ := Z
    dsimp only at q1 q2 q3 q4 ⊢
    have hb2 : es2.size < scanBound := by rw [← Array.length_toList, q1.length_eq, Array.length_toList]; exact hb1
    refine wpAny_bind (hg _ _ _ (wpAny_bind (wpAny_storeSet_of ho1 rfl ?_ (fits_of_scanBound hb2))))
    have ho2 := store_at (es' := es2) (t' := t3) ho1 rfl
    exact wpAny_pure (hR _ (sb1.trans (Heap.SameBut.update _ a _)) ⟨_, es2, _, t3, ho2, hex, rfl, fun e he => g1 e (q1.mem_iff.mp he), (q1.map txtOf).trans p1, nd, hb2, q2, q3, hl.imp id fun z => by rw [q4]; exact z⟩)
  · exact wpAny_pure (hR _ sb1 ⟨_, es1, _, t2, ho1, hex, rfl, g1, p1, nd, hb1, hf2, hr, hl⟩)
/-- the adding of a text -/
theorem addS_hashed {x : Str} {tk : Tok} {Q : Bool → Shared → Prop} (R : SetSR P w s.heap a l) (room : l.length + 1 < scanBound)
    (hQ : ∀ b h', Heap.SameBut a s.heap h' → SetSR P w h' a (if x ∈ l then l else x :: l) → Q b { s with heap := h' }) : wpAny (model P w) A (setAddHashed a (.str x tk) ((mixKind P w).hash (Sum.inr x))) Q E s := by
  obtain ⟨o, es, ep, t, ho, hex, hd, g, pm, nd, hb, hf, hr, hl⟩ := R
  have hkey : (mixKind P w).is (Sum.inr x) (.str x tk) = true := kV_is (k := Sum.inr x) ⟨tk, rfl⟩
  have hsc : (Value.str x tk).scannable = true := rfl
  have hel := goodS_elems g
  have inl : ∀ y, y ∈ l ↔ ∃ e ∈ es.toList, txtOf e = y := fun y => by rw [← pm.mem_iff, List.mem_map]
  have len : es.size = l.length := by rw [← pm.length_eq, List.length_map, Array.length_toList]
  unfold setAddHashed setAddHashedIn
  refine wpAny_holding (wpAny_bind (wpAny_setState_of ho hd hf ?_)); dsimp only
  rw [byScan_of hsc hb hel]
  simp only [↓reduceIte]
  unfold setAddByScan
  refine wpAny_bind (wpAny_bind (wpAny_rule (wpAny_bind (wpAny_setScan_of hkey ho hd hf hel ?_))))
  cases hfi : List.findIdx? (fun e => (mixKind P w).is (Sum.inr x) e.2) es.toList with
  | some j =>
    dsimp only
    obtain ⟨hj, pj, _⟩ := List.findIdx?_eq_some_iff_getElem.mp hfi
    have hm : x ∈ l := (inl x).mpr ⟨es.toList[j], List.getElem_mem hj, (goodS_is (g _ (List.getElem_mem hj)) x).mp pj⟩
    have q := hQ false s.heap (Heap.SameBut.refl a s.heap)
    rw [if_pos hm] at q
    exact wpAny_pure (wpAny_pure (q ⟨o, es, ep, t, ho, hex, hd, g, pm, nd, hb, hf, hr, hl⟩))
  | none =>
    dsimp only
    have hm : x ∉ l := fun z => by
      obtain ⟨e, he, q⟩ := (inl x).mp z
      have c := List.findIdx?_eq_none_iff.mp hfi e he
      rw [(goodS_is (g e he) x).mpr q] at c
      cases c
    have hgw : ∀ (b : Bool) {s₁ : Shared} {Q' : Unit → Shared → Prop}, Q' () s₁ → wpAny (model P w) A (match b with | true => rule "set.scan.the-table-gave-way" | false => pure ()) Q' E s₁ := fun b s₁ Q' q => by cases b <;> first | exact wpAny_pure q | exact wpAny_rule q
    have pl := layNew_perm t es ((mixKind P w).hash (Sum.inr x)) (.str x tk)
    have hf1 := layNew_fits t es ((mixKind P w).hash (Sum.inr x)) (.str x tk)
    have hr1 := layNew_ris t es ((mixKind P w).hash (Sum.inr x)) (.str x tk) hr
    have hl1 := layNew_led t es ((mixKind P w).hash (Sum.inr x)) (.str x tk)
    generalize layNew t es ((mixKind P w).hash (Sum.inr x)) (.str x tk) = Z at pl hf1 hr1 hl1 ⊢
    obtain ⟨es1, t1, wd, gv⟩ := Z
    dsimp only at pl hf1 hr1 hl1 ⊢
    rw [Array.toList_push] at pl
    have pc : es1.toList.Perm (((mixKind P w).hash (Sum.inr x), Value.str x tk) :: es.toList) := pl.trans (List.perm_append_singleton _ _)
    have p1 : (es1.toList.map txtOf).Perm (x :: l) := (pc.map txtOf).trans (pm.cons x)
    have g1 : ∀ e ∈ es1.toList, GoodS P w e := fun e he => (List.mem_cons.mp (pc.mem_iff.mp he)).elim (fun z => by rw [z]; exact ⟨x, tk, rfl, rfl⟩) (g e)
    have hb1 : es1.size < scanBound := by
      rw [← Array.length_toList, pc.length_eq, List.length_cons, Array.length_toList, len]
      exact room
    have nd1 : (x :: l).Nodup := List.nodup_cons.mpr ⟨hm, nd⟩
    have led1 : w.params.followText "set-order" = true ∨ t1.led = true := hl.imp id fun z => by rw [hl1]; exact z
    have fin : ∀ h', Heap.SameBut a s.heap h' → SetSR P w h' a (x :: l) → Q true { s with heap := h' } := fun h' sb r => by
      have q := hQ true h' sb
      rw [if_neg hm] at q
      exact q r
    refine wpAny_bind (hgw _ ?_); split
    · refine wpAny_bind ?_
      rw [hashByValue_scannable 8 hsc]
      refine wpAny_pure (addS_tail (fun b s₁ Q' q => by cases b <;> first | exact wpAny_pure q | exact wpAny_rule q) ho hex hd g1 p1 nd1 hb1 ?_ ?_ ?_ fun h' sb r => by dsimp only; exact wpAny_pure (fin h' sb r))
      · first | (split <;> first | exact hf1 | exact SetTable.fits_plain_off hf1) | exact hf1
      · first | (split <;> exact hr1) | exact hr1
      · first | (split <;> exact led1) | exact led1
    · refine wpAny_bind (wpAny_pure ?_)
      simp only [↓reduceIte]
      exact addS_tail (fun b s₁ Q' q => by cases b <;> first | exact wpAny_pure q | exact wpAny_rule q) ho hex hd g1 p1 nd1 hb1 hf1 hr1 led1 fun h' sb r => by dsimp only; exact wpAny_pure (fin h' sb r)
theorem setSR_fresh {h : Heap} (ho : h.get? a = some (freshSet w)) : SetSR P w h a [] := ⟨_, #[], 0, _, ho, ⟨rfl, rfl, rfl⟩, rfl, fun e he => by simp at he, by simp, List.nodup_nil, by decide, by rfl, List.Pairwise.nil, by
    show _ ∨ (!w.params.followText "set-order") = true
    cases w.params.followText "set-order"
    · exact .inr rfl
    · exact .inl rfl⟩
/-- the invariant of set(x), x of texts -/
def JS (P : Program) (w : World) (S : Addr) (xs : List Str) (i : Nat) (h : Heap) : Prop := ∃ l, SetSR P w h S l ∧ (∀ y, y ∈ l ↔ y ∈ xs.take i) ∧ l.length ≤ i
theorem step_txts {S : Addr} {xs : List Str} {vs : List Value} (hv : Vals (xs.map V.str) vs) (few : xs.length < 4000) : AddStep P w s.heap S vs (JS P w S xs) 0 := by
  intro A' E' Q i v s1 hu hi ⟨l, R, hm, hl⟩ kp fin
  have il : i < xs.length := by
    have q := (List.getElem?_eq_some_iff.mp hi).1
    rw [← hv.length, List.length_map] at q
    exact q
  have hx : xs[i]? = some xs[i] := List.getElem?_eq_getElem il
  obtain ⟨tk, rfl⟩ : ∃ t, v = Value.str xs[i] t := by
    obtain ⟨u, e, r⟩ := hv.get (i := i) (x := V.str xs[i]) (by rw [List.getElem?_map, hx]; rfl)
    rw [hi] at e
    cases e
    exact r
  have up := take_up hx
  generalize xs[i] = x at hx hi up
  unfold setAdd
  refine wpAny_holding (wpAny_bind ((mixKind P w).pyHash (kV_is (k := Sum.inr x) ⟨tk, rfl⟩) (addS_hashed (s := { s1 with toks := s1.toks + 1 }) R (by unfold scanBound; omega) fun b h' sb R' => fin _ h' _ sb ⟨_, R', fun y => ?_, ?_⟩ (Nat.le_succ _))))
  · rw [up, List.mem_append, List.mem_singleton, ← hm y]
    by_cases h : x ∈ l
    · rw [if_pos h]
      exact ⟨.inl, fun z => z.elim id fun e => e ▸ h⟩
    · rw [if_neg h, List.mem_cons]
      exact Or.comm
  · split
    · omega
    · rw [List.length_cons]; omega
end
section
variable {X : Cx}
/-- set(x), x a list or a tuple of texts -/
def rSetS (K : PySem.W.Frag) (P : Program) (w : World) : List V → Hp → VK → Prop := fun vs H Q => ∃ (a : Addr) (xs : List Str), vs = [V.ref a] ∧ (SqL K H a (xs.map V.str) ∨ SqT K H a (xs.map V.str)) ∧ xs.length < 4000 ∧
  ∀ p l, H p = none → l.Nodup → (∀ y, y ∈ l ↔ y ∈ xs) → Q (.ref p) (upd H p (SetSO P w p l))
theorem setSO_new {P : Program} {w : World} {H : Hp} {h : Heap} {a : Addr} {l : List Str} (R : SetSR P w h a l) : ObjOk P w H h a (SetSO P w a l) := ⟨R, let ⟨o, _, _, _, ho, _⟩ := R; ⟨o, ho⟩, fun h1 h2 q k => q.at fun o e => k o e⟩
theorem cr_setS (hc : X.calm = true) (hu : X.A.units + 64 < cLine) : CallR X (.type "set") (rSetS X.K X.prog X.w) := by
  intro pins s σ H vs us Q I r h
  obtain ⟨a, xs, rfl, ha, few, q⟩ := h
  rw [Vals.ref1 r]
  have go : ∀ (T : String) (its : List Value), Seqs X.prog X.w T a its.toArray s → Vals (xs.map V.str) its → wpAny (model X.prog X.w) X.A (call (.type "set") [.ref a]) (fun u s' => ∃ v H', Inv X pins σ H' s' ∧ RelV v u ∧ Q v H') X.xe s := fun T its W rv => by
    have ln : its.length = xs.length := by rw [← rv.length, List.length_map]
    refine call_set_any (J := JS X.prog X.w s.heap.objs.size xs) (room := 0) (I.ok.hd hc) W (by omega) (by simpa using step_txts rv few) (fun i h h' ⟨l, R, m⟩ kS _ => ⟨l, R.at kS, m⟩) (fun h' fr kp => ⟨[], setSR_fresh fr, by simp, Nat.le_refl _⟩) fun h' tk ⟨l, R, hm, _⟩ kp => ?_
    rw [show its.toArray.size = xs.length by simp [ln], List.take_length] at hm
    exact ⟨.ref s.heap.objs.size, _, I.laid (t' := tk) kp (Nat.le_refl _) (setSO_new R), rfl, q _ l (I.hok.fresh (Nat.le_refl _)) (let ⟨_, _, _, _, _, _, _, _, _, nd, _⟩ := R; nd) hm⟩
  rcases ha with ha | ha
  · obtain ⟨its, rv, pl, hz⟩ := I.list ha
    exact go "list" its (Seqs.list pl.isList) rv
  · obtain ⟨its, rv, pl, hz⟩ := I.tuple ha
    exact go "tuple" its (Seqs.tuple pl) rv
/-- sorted(s) of such a set -/
def rSortS (P : Program) (w : World) : List V → Hp → VK → Prop := fun vs H Q => ∃ (a : Addr) (l : List Str), vs = [V.ref a] ∧ H a = some (SetSO P w a l) ∧ l.length < 4000 ∧ ∀ p, H p = none → Q (.ref p) (upd H p (.lst ((l.mergeSort leT).map V.str)))
theorem cr_sortS (hc : X.calm = true) (hu : X.A.units + 64 < cLine) : CallR X (.builtin "sorted") (rSortS X.prog X.w) := by
  intro pins s σ H vs us Q I r h
  obtain ⟨a, l, rfl, ha, few, q⟩ := h
  rw [Vals.ref1 r]
  obtain ⟨o, es, ep, t, ho, hex, hd, g, pm, nd, hb, hf, hr, hl⟩ := (I.hok a _ ha).1
  refine sorted_via (β := Str) (R := fun v x => ∃ t, v = Value.str x t) (enc := PyData.str) (C := fun vs bs s1 => bs.Perm l) (fun Q1 go => ?_) fun vs bs s1 out c z cc it eo kz g os hzz => ?_
  · refine collect_set (A := X.A.in1) (I.ok.hd hc) ⟨o, ho, hex.1, hd⟩ hf hb hr hl fun s1 vs k1 hz g1 o1 pv => ?_
    have each : ∀ v ∈ vs, ∃ x t, v = Value.str x t := fun v hv => by
      obtain ⟨e, he, e2⟩ := List.mem_map.mp (pv.mem_iff.mp hv)
      obtain ⟨x, tk, h1, _⟩ := g e he
      exact ⟨x, tk, by rw [← e2, h1]⟩
    let tx : Value → Str := fun v => match v with | .str x _ => x | _ => ""
    have pM : (vs.map tx).Perm l := by
      refine (pv.map tx).trans ?_
      rw [List.map_map]
      exact pm
    have ei : EachIs (fun v x => ∃ t, v = Value.str x t) vs (vs.map tx) := by
      clear pM pv
      induction vs with
      | nil => exact .nil
      | cons v vs ih =>
        obtain ⟨x, t, rfl⟩ := each v List.mem_cons_self
        exact .cons ⟨t, rfl⟩ (ih fun u hu => each u (List.mem_cons_of_mem _ hu))
    refine go _ _ s1 pM { each := ei, reads := ei.mono fun v x ⟨t, e⟩ => by rw [e]; exact .str x t, alike := fun x hx y hy => ?_, sortable := .inr fun x hx => ?_, room := fun x hx => ?_, len := by rw [pM.length_eq, sizeLine_eq]; omega, keep := k1, gens := g1, os := o1 }
    · obtain ⟨p, hp, rfl⟩ := List.mem_map.mp hx
      obtain ⟨p', hp', rfl⟩ := List.mem_map.mp hy
      simp [PySem.W.alike]
    · obtain ⟨p, hp, rfl⟩ := List.mem_map.mp hx
      exact ⟨by simp, by simp⟩
    · simp only [PyData.depth]
      omega
  · have cc' : bs.Perm l := cc
    have e1 : bs.mergeSort leT = l.mergeSort leT := by
      have srt : ∀ m : List Str, (m.mergeSort leT).Pairwise fun a b => leT a b = true := fun m => List.pairwise_mergeSort (le := leT) (fun a b c => leT_total.trans a b c) (fun (a b : Str) => by have z := leT_total.total a b; simpa using z) _
      exact sorted_one leT_anti (srt bs) (srt l) ((List.mergeSort_perm _ _).trans (cc'.trans (List.mergeSort_perm _ _).symm))
    have eo' : EachIs (fun v x => ∃ t, v = Value.str x t) out (bs.mergeSort leT) := eo
    rw [e1] at eo'
    have I1 := inv_kept I it.keep it.gens it.os
    have hn : H s1.heap.objs.size = none := I1.hok.fresh (Nat.le_refl _)
    have len : ((l.mergeSort leT).map V.str).length ≤ sizeLine := by rw [List.length_map, (List.mergeSort_perm _ _).length_eq, sizeLine_eq]; omega
    have J := inv_laid (o := .lst ((l.mergeSort leT).map V.str)) I1 kz (g.trans it.gens.symm) (os.trans it.os.symm) ⟨len, out, c, strs_vals eo', hzz⟩
    exact ⟨.ref s1.heap.objs.size, _, J, rfl, q _ hn⟩
end
end Hk
set_option Elab.async false
set_option linter.all false
set_option maxRecDepth 100000
set_option maxHeartbeats 4000000
/-! sorted(x), x a list or a tuple of tuples of texts. -/
namespace Hk
open PySem PySem.Spec PyProof.Rows L2
open PySem.W (EachIs AllAlike Sortable dataLe)
section
variable {X : Cx}
def rSortR (K : PySem.W.Frag) : List V → Hp → VK → Prop := fun vs H Q => ∃ (a : Addr) (ks : List KT) (d : Nat), vs = [V.ref a] ∧ (SqL K H a (ks.map fun p => V.ref p.1) ∨ SqT K H a (ks.map fun p => V.ref p.1)) ∧ (∀ p ∈ ks, SqT K H p.1 (p.2.map kV)) ∧
  (∀ p ∈ ks, ∃ t : List Str, p.2 = t.map Sum.inr ∧ t.length = d + 1) ∧
  ∀ (M : List KT) (p : Addr), M.Perm ks → M.Pairwise (fun q r => leS (unK q.2) (unK r.2) = true) → H p = none → Q (.ref p) (upd H p (.lst (M.map fun q => V.ref q.1)))
theorem cr_sortR (hu : X.A.units + 64 < cLine) : CallR X (.builtin "sorted") (rSortR X.K) := by
  intro pins s σ H vs us Q I r h
  obtain ⟨a, ks, d, rfl, ha, hk, ht, q⟩ := h
  rw [Vals.ref1 r]
  have seq : ∃ (T : String) (o : Obj) (its : List Value) (n : Nat), (T = "list" ∨ T = "tuple") ∧ s.heap.get? a = some o ∧ o.cls = .type T ∧ o.data = .seq its.toArray n ∧ Vals (ks.map fun p => V.ref p.1) its ∧ ks.length ≤ sizeLine := by
    rcases ha with ha | ha
    · obtain ⟨its, rv, ⟨o, n, ho, hc, _, hd⟩, hz⟩ := I.list ha
      exact ⟨"list", o, its, n, .inl rfl, ho, hc, hd, rv, by simpa using hz⟩
    · obtain ⟨its, rv, ⟨o, ho, hc, n, hd⟩, hz⟩ := I.tuple ha
      exact ⟨"tuple", o, its, n, .inr rfl, ho, hc, hd, rv, by simpa using hz⟩
  obtain ⟨T, o, its, n, hT, ho, hc, hd, rv, hz⟩ := seq
  have ev : its = ks.map fun p => Value.ref p.1 := vals_refs rv
  refine sorted_via (β := KT) (R := fun v p => v = Value.ref p.1) (enc := fun p => encS (unK p.2)) (C := fun vs M s1 => M = ks) (fun Q1 go => ?_) fun vs M s1 out c z cc it eo kz g os hzz => ?_
  · refine wpAny_collect_seq a hT ho hc hd (fun h' k => go _ ks _ rfl ?_) (by rw [List.size_toArray, ev, List.length_map]; exact hz)
    have ev2 : its.toArray.toList = ks.map fun p => Value.ref p.1 := by simpa using ev
    rw [ev2]
    refine { each := each_mem2 _ ks fun _ _ => rfl, reads := each_mem2 _ ks fun p hp => ?_, alike := fun x hx y hy => ?_, sortable := .inl fun x hx => ?_, room := fun p hp => ?_, len := hz, keep := k, gens := rfl, os := rfl }
    · obtain ⟨t, et, _⟩ := ht p hp
      have x : IsK X.prog X.w h' (t.map Sum.inr) p.1 := by
        rw [← et]
        exact (inv_isK I (hk p hp)).kept k
      show Reads h' (.ref p.1) (encS (unK p.2)) []
      rw [et, unK_inr]
      exact reads_isK x
    · obtain ⟨p, hp, rfl⟩ := List.mem_map.mp hx
      obtain ⟨p', hp', rfl⟩ := List.mem_map.mp hy
      obtain ⟨t, et, lt⟩ := ht p hp
      obtain ⟨t', et', lt'⟩ := ht p' hp'
      show PySem.W.alike (encS (unK p.2)) (encS (unK p'.2)) = true
      rw [et, et', unK_inr, unK_inr]
      exact alike_encS (lt.trans lt'.symm)
    · obtain ⟨p, hp, rfl⟩ := List.mem_map.mp hx
      obtain ⟨t, et, lt⟩ := ht p hp
      show ∃ y r, encS (unK p.2) = .tuple (y :: r)
      rw [et, unK_inr]
      cases t with
      | nil => simp at lt
      | cons y t => exact ⟨_, _, rfl⟩
    · show X.A.units + 4 + (encS (unK p.2)).depth < cLine
      rw [depth_encS]
      omega
  · have eM : M = ks := cc
    rw [eM] at eo
    have eo2 : out = (ks.mergeSort (dataLe false fun p => encS (unK p.2))).map fun q => Value.ref q.1 := each_eq eo
    have I1 := inv_kept I it.keep it.gens it.os
    have hn : H s1.heap.objs.size = none := I1.hok.fresh (Nat.le_refl _)
    have pm2 : (ks.mergeSort (dataLe false fun p => encS (unK p.2))).Perm ks := List.mergeSort_perm _ _
    have pw : (ks.mergeSort (dataLe false fun p => encS (unK p.2))).Pairwise (fun q r => leS (unK q.2) (unK r.2) = true) :=
      PySem.W.sort_pairwise (le := dataLe false fun p : KT => encS (unK p.2)) (PySem.W.sortLe_total (listOrd itemOrd) false fun p : KT => PySem.W.keyToks (encS (unK p.2))) ks
    generalize ks.mergeSort (dataLe false fun p => encS (unK p.2)) = N at eo2 pm2 pw
    have len : (N.map fun q => V.ref q.1).length ≤ sizeLine := by rw [List.length_map, pm2.length_eq]; exact hz
    have J := inv_laid (o := .lst (N.map fun q => V.ref q.1)) I1 kz (g.trans it.gens.symm) (os.trans it.os.symm) ⟨len, out, c, by rw [eo2]; exact refs_vals N, hzz⟩
    exact ⟨.ref s1.heap.objs.size, _, J, rfl, q N _ pm2 pw hn⟩
end
end Hk
set_option Elab.async false
set_option linter.all false
set_option maxRecDepth 100000
set_option maxHeartbeats 4000000
/-! Rules as data. -/
namespace K
open PySem L2 Hk PyProof.Rows
inductive Rl where
  | ft (b : Bool) (a : Str) (ps : List (Str × Str))
  | rs (a b : Str)
  | mt (a b c : Str)
  | mk (ws : List Str)
deriving DecidableEq
def knd (b : Bool) : Str := if b then "fetch" else "hand"
def dtP (p : Str × Str) : Dt := .tup [.str p.1, .str p.2]
def dtL : Rl → Dt
  | .ft b a ps => .tup [.str (knd b), .str a, .tup (ps.map dtP)]
  | .rs a b => .tup [.str "raise", .str a, .str b]
  | .mt a b c => .tup [.str "meet", .str a, .str b, .str c]
  | .mk ws => .tup [.str "make", .tup (ws.map Dt.str)]
mutual
def encD : Dt → PyData
  | .non => .none
  | .dct => .none
  | .int i => .int i
  | .str x => .str x
  | .lst l => .list (encA l)
  | .tup l => .tuple (encA l)
def encA : List Dt → List PyData
  | [] => []
  | d :: l => encD d :: encA l
end
mutual
/-- no dict in it -/
def ndD : Dt → Bool
  | .dct => false
  | .lst l => ndA l
  | .tup l => ndA l
  | _ => true
def ndA : List Dt → Bool
  | [] => true
  | d :: l => ndD d && ndA l
end
mutual
theorem lay_D : ∀ d : Dt, PyData.plain (encD d) = true
  | .non => rfl
  | .dct => rfl
  | .int _ => rfl
  | .str _ => rfl
  | .lst l => lay_A l
  | .tup l => lay_A l
theorem lay_A : ∀ l : List Dt, PyData.plainAll (encA l) = true
  | [] => rfl
  | d :: l => by rw [encA, PyData.plainAll, lay_D d, lay_A l]; rfl
end
mutual
theorem eqv_D : ∀ a b : Dt, ndD a = true → ndD b = true → (PyData.eqv (encD a) (encD b) = true ↔ a = b)
  | .dct, _, h, _ => by cases h
  | a, .dct, _, h => by cases h
  | .non, b, _, h => by cases b <;> first | (cases h; done) | simp [encD, PyData.eqv]
  | .int i, b, _, _ => by cases b <;> simp [encD, PyData.eqv]
  | .str x, b, _, _ => by cases b <;> simp [encD, PyData.eqv]
  | .lst l, b, h, h2 => by
    cases b with
    | lst m =>
      rw [encD, encD, PyData.eqv, eqv_A l m h h2]
      exact ⟨fun e => by rw [e], fun e => by cases e; rfl⟩
    | _ => simp [encD, PyData.eqv]
  | .tup l, b, h, h2 => by
    cases b with
    | tup m =>
      rw [encD, encD, PyData.eqv, eqv_A l m h h2]
      exact ⟨fun e => by rw [e], fun e => by cases e; rfl⟩
    | _ => simp [encD, PyData.eqv]
theorem eqv_A : ∀ l m : List Dt, ndA l = true → ndA m = true → (PyData.eqvAll (encA l) (encA m) = true ↔ l = m)
  | [], [], _, _ => by simp [encA, PyData.eqvAll]
  | [], _ :: _, _, _ => by simp [encA, PyData.eqvAll]
  | _ :: _, [], _, _ => by simp [encA, PyData.eqvAll]
  | x :: l, y :: m, h, h2 => by
    have h' : ndD x = true ∧ ndA l = true := by simpa [ndA] using h
    have h2' : ndD y = true ∧ ndA m = true := by simpa [ndA] using h2
    rw [encA, encA, PyData.eqvAll, Bool.and_eq_true, eqv_D x y h'.1 h2'.1, eqv_A l m h'.2 h2'.2, List.cons.injEq]
end
mutual
theorem dp_D {K : PySem.W.Frag} {H : Hp} : ∀ {v : V} {d : Dt}, Da K H v d → ndD d = true → Dp K H v (encD d)
  | _, _, .non, _ => .non
  | _, _, .dct _, h => by cases h
  | _, _, .int i, _ => .int i
  | _, _, .str x _, _ => .str x
  | _, _, .lst q r, h => .lst q (dp_A r h)
  | _, _, .tup q r, h => .tup (.inl (.inl q)) (dp_A r h)
  | _, _, .nul q, _ => .tup q .nil
theorem dp_A {K : PySem.W.Frag} {H : Hp} : ∀ {xs : List V} {l : List Dt}, DaAll K H xs l → ndA l = true → DpAll K H xs (encA l)
  | _, _, .nil, _ => .nil
  | _, _, .cons h t, e => by
    unfold ndA at e
    have e' := Bool.and_eq_true_iff.mp e
    exact .cons (dp_D h e'.1) (dp_A t e'.2)
end
theorem encA_map {α : Type} (f : α → Dt) : ∀ l : List α, encA (l.map f) = l.map fun x => encD (f x)
  | [] => rfl
  | x :: l => by rw [List.map_cons, encA, encA_map f l]; rfl
theorem ndA_map {α : Type} {f : α → Dt} (h : ∀ x, ndD (f x) = true) : ∀ l : List α, ndA (l.map f) = true
  | [] => rfl
  | x :: l => by rw [List.map_cons, ndA, h x, ndA_map h l]; rfl
theorem nd_P (p : Str × Str) : ndD (dtP p) = true := rfl
theorem nd_L : ∀ r : Rl, ndD (dtL r) = true
  | .ft b a ps => by
    show (true && (true && (ndA (ps.map dtP) && true))) = true
    rw [ndA_map nd_P]
    rfl
  | .rs _ _ => rfl
  | .mt _ _ _ => rfl
  | .mk ws => by
    show (true && (ndA (ws.map Dt.str) && true)) = true
    rw [ndA_map fun _ => rfl]
    rfl
theorem map_inj {α β : Type} {f : α → β} (h : ∀ x y, f x = f y → x = y) : ∀ {l m : List α}, l.map f = m.map f → l = m
  | [], [], _ => rfl
  | [], _ :: _, e => by cases e
  | _ :: _, [], e => by cases e
  | x :: l, y :: m, e => by
    rw [List.map_cons, List.map_cons, List.cons.injEq] at e
    rw [h x y e.1, map_inj h e.2]
theorem dtP_inj (p q : Str × Str) (h : dtP p = dtP q) : p = q := by
  obtain ⟨a, b⟩ := p
  obtain ⟨c, d⟩ := q
  simp [dtP] at h
  rw [h.1, h.2]
theorem knd_inj : ∀ b c : Bool, knd b = knd c → b = c := by decide +kernel
theorem knd_no : ∀ b, knd b ≠ "raise" ∧ knd b ≠ "meet" ∧ knd b ≠ "make" := by decide +kernel
theorem dtL_inj (r s : Rl) (h : dtL r = dtL s) : r = s := by
  cases r <;> cases s <;> simp [dtL] at h
  · obtain ⟨h1, h2, h3⟩ := h
    rw [knd_inj _ _ h1, h2, map_inj dtP_inj h3]
  · rw [h.1, h.2]
  · obtain ⟨h1, h2, h3⟩ := h
    rw [h1, h2, h3]
  · rw [map_inj (fun _ _ e => Dt.str.inj e) h]
theorem eqv_L (r s : Rl) : PyData.eqv (encD (dtL r)) (encD (dtL s)) = decide (r = s) := by
  rw [Bool.eq_iff_iff, eqv_D _ _ (nd_L r) (nd_L s), decide_eq_true_eq]
  exact ⟨dtL_inj r s, fun e => by rw [e]⟩
theorem eqv_Ls (l m : List Rl) : PyData.eqvAll (encA (l.map dtL)) (encA (m.map dtL)) = decide (l = m) := by
  rw [Bool.eq_iff_iff, eqv_A _ _ (ndA_map nd_L l) (ndA_map nd_L m), decide_eq_true_eq]
  exact ⟨fun e => map_inj dtL_inj e, fun e => by rw [e]⟩
theorem any_L (r : Rl) (l : List Rl) : ((encA (l.map dtL)).any fun e => PyData.eqv e (encD (dtL r))) = decide (r ∈ l) := by
  rw [encA_map, List.any_map, Bool.eq_iff_iff, List.any_eq_true, decide_eq_true_eq]
  constructor
  · rintro ⟨x, hx, e⟩
    have e2 : PyData.eqv (encD (dtL x)) (encD (dtL r)) = true := e
    rw [eqv_L, decide_eq_true_eq] at e2
    rw [← e2]
    exact hx
  · intro h
    refine ⟨r, h, ?_⟩
    show PyData.eqv (encD (dtL r)) (encD (dtL r)) = true
    rw [eqv_L]
    simp
theorem depA_le {n : Nat} : ∀ {l : List PyData}, (∀ d ∈ l, d.depth ≤ n) → PyData.depthAll l ≤ n
  | [], _ => Nat.zero_le _
  | d :: l, h => by
    rw [PyData.depthAll]
    exact Nat.max_le.mpr ⟨h d List.mem_cons_self, depA_le fun x hx => h x (List.mem_cons_of_mem _ hx)⟩
theorem dep_L (r : Rl) : (encD (dtL r)).depth ≤ 3 := by
  cases r with
  | ft b a ps =>
    show (PyData.tuple [.str (knd b), .str a, .tuple (encA (ps.map dtP))]).depth ≤ 3
    have h : PyData.depthAll (encA (ps.map dtP)) ≤ 1 := by
      rw [encA_map]
      refine depA_le fun d hd => ?_
      obtain ⟨p, _, rfl⟩ := List.mem_map.mp hd
      exact Nat.le_refl 1
    simp only [PyData.depth, PyData.depthAll]
    omega
  | rs a b => exact show 1 ≤ 3 by decide
  | mt a b c => exact show 1 ≤ 3 by decide
  | mk ws =>
    show (PyData.tuple [.str "make", .tuple (encA (ws.map Dt.str))]).depth ≤ 3
    have h : PyData.depthAll (encA (ws.map Dt.str)) ≤ 0 := by
      rw [encA_map]
      refine depA_le fun d hd => ?_
      obtain ⟨p, _, rfl⟩ := List.mem_map.mp hd
      exact Nat.le_refl 0
    simp only [PyData.depth, PyData.depthAll]
    omega
theorem dep_Ls (l : List Rl) : PyData.depthAll (encA (l.map dtL)) ≤ 3 := by
  rw [encA_map]
  refine depA_le fun d hd => ?_
  obtain ⟨r, _, rfl⟩ := List.mem_map.mp hd
  exact dep_L r
end K
set_option Elab.async false
set_option linter.all false
set_option maxRecDepth 100000
set_option maxHeartbeats 4000000
/-! is_integer, is_place, is_group. -/
namespace K
open PySem L2 Hk
structure TxtG (mg : Str → Option Value) : Prop where
  f : TxtF mg
  int : mg "int" = none
  bool : mg "bool" = none
  enum : mg "enumerate" = none
  min : mg "min" = none
  sum : mg "sum" = none
  range : mg "range" = none
/-- an int or a text -/
def IntOr (v : V) (b : Bool) : Prop := (b = true ∧ ∃ i, v = .int i) ∨ (b = false ∧ ∃ x, v = .str x)
def spIsInt (K : PySem.W.Frag) : Sp := fun vs H Q _ => ∃ (v : V) (b : Bool), vs = [v] ∧ IntOr v b ∧ Q (.bl b) H
def spIsPlace (K : PySem.W.Frag) : Sp := fun vs H Q _ => ∃ (v : V) (m : Int), vs = [v, .int m] ∧ ((∃ i, v = .int i ∧ Q (.bl (decide (0 ≤ i) && decide (i < m))) H) ∨ ∃ x, v = .str x ∧ Q (.bl false) H)
def grpD (n : Int) : Dt → Bool
  | .tup l => decide ((l.length : Int) = n) && l.all (wordD 8)
  | _ => false
def spIsGroup (K : PySem.W.Frag) : Sp := fun vs H Q _ => ∃ (v : V) (d : Dt) (n : Int), vs = [v, .int n] ∧ Da K H v d ∧ (∀ l, d = .tup l → l.length < 3000) ∧ ∀ H', Same H H' → Q (.bl (grpD n d)) H'
theorem kit_tup : ∀ d : Dt, (∀ l, d ≠ .tup l) → kitB (tyOf d) "tuple" = some false
  | .non, _ => show kitB "NoneType" "tuple" = some false by decide +kernel
  | .dct, _ => show kitB "dict" "tuple" = some false by decide +kernel
  | .int _, _ => show kitB "int" "tuple" = some false by decide +kernel
  | .str _, _ => show kitB "str" "tuple" = some false by decide +kernel
  | .lst _, _ => show kitB "list" "tuple" = some false by decide +kernel
  | .tup l, h => absurd rfl (h l)
section
variable {P : Program} {w : World} {K : PySem.W.Frag} {mg : Str → Option Value} {base : Heap} {f fG fW : Addr} {fd fdG fdW : FuncData} {ds : List Value}
theorem scIsInt : FnScope ["value"] ["value"] (defScope sIsInt) := ⟨rfl, rfl, rfl, by decide +kernel, rfl, by decide +kernel, by decide +kernel⟩
theorem ok_is_int (F : Fun K "is_integer" "is_integer" sIsInt f fd) (T : TxtG mg) : FnOk P w K mg base CX0 1 f fd ["value"] (spIsInt K) := by
  refine F.ok scIsInt (fun vs H Q E h => ?_) (fun cdv A outer s H vs Q E hr h => ?_)
  · obtain ⟨v, b, rfl, _⟩ := h
    rfl
  · obtain ⟨v, b, rfl, hv, q⟩ := h
    refine ⟨_, pss_one (ps_ret (pe_and (pe_callB call_isi (by rfl) T.f.isi (by decide +kernel) (pa_cons (pv 0) (pa_cons (pe_bltn (v := .ty "int") (by rfl) T.int (by decide +kernel) rfl) pa_nil)))
      (pe_one (pe_not (pe_callB call_isi (by rfl) T.f.isi (by decide +kernel) (pa_cons (pv 0) (pa_cons (pe_bltn (v := .ty "bool") (by rfl) T.bool (by decide +kernel) rfl) pa_nil))))))), ?_⟩
    rcases hv with ⟨rfl, i, rfl⟩ | ⟨rfl, x, rfl⟩
    · refine ⟨_, rfl, .int i, .ty "int", _, .type "int", true, rfl, .ty "int", Da.ty (.int i), kit_ty (show kitB "int" "int" = some true by decide +kernel), _, rfl, iteT ?_⟩
      exact ⟨_, rfl, .int i, .ty "bool", _, .type "bool", false, rfl, .ty "bool", Da.ty (.int i), kit_ty (show kitB "int" "bool" = some false by decide +kernel), _, rfl, q⟩
    · exact ⟨_, rfl, .str x, .ty "int", _, .type "int", false, rfl, .ty "int", .base (.str x), kit_ty (show kitB "str" "int" = some false by decide +kernel), _, rfl, iteF q⟩
theorem scIsPlace : FnScope ["value", "many"] ["value", "many"] (defScope sIsPlace) := ⟨rfl, rfl, rfl, by decide +kernel, rfl, by decide +kernel, by decide +kernel⟩
theorem ok_is_place (F : Fun K "is_place" "is_place" sIsPlace f fd) (gG : mg "is_integer" = some (.ref fG)) (kG : PySem.W.keepIn K (.ref fG) = true)
    (GG : FnOk P w K mg base CX0 1 fG fdG ["value"] (spIsInt K)) (bG : Binds K fdG ["value"] []) : FnOk P w K mg base CX0 2 f fd ["value", "many"] (spIsPlace K) := by
  refine F.ok scIsPlace (fun vs H Q E h => ?_) (fun cdv A outer s H vs Q E hr h => ?_)
  · obtain ⟨v, m, rfl, _⟩ := h
    rfl
  · obtain ⟨v, m, rfl, h⟩ := h
    refine ⟨_, pss_one (ps_ret (pe_and (pe_call GG hr (by rfl) gG kG bG .nil pass0 (pa_cons (pv 0) pa_nil)) (pe_one (pe_chain op_le op_lt pe_int (pv 0) (pv 1))))), ?_⟩
    rcases h with ⟨i, rfl, q⟩ | ⟨x, rfl, q⟩
    · refine ⟨_, rfl, .int i, true, rfl, .inl ⟨rfl, i, rfl⟩, _, rfl, iteT ⟨_, rfl, _, _, rfl, rfl, _, rfl, ?_⟩⟩
      cases e : decide (0 ≤ i) with
      | true =>
        rw [e] at q
        exact iteT ⟨_, rfl, _, _, rfl, rfl, q⟩
      | false =>
        rw [e] at q
        exact iteF q
    · exact ⟨_, rfl, .str x, false, rfl, .inr ⟨rfl, x, rfl⟩, _, rfl, iteF q⟩
theorem scIsGroup : FnScope ["value", "many", "word"] ["value", "many"] (defScope sIsGroup) := ⟨rfl, rfl, rfl, by decide +kernel, rfl, by decide +kernel, by decide +kernel⟩
theorem ok_is_group (F : Fun K "is_group" "is_group" sIsGroup f fd) (T : TxtG mg) (gW : mg "is_word" = some (.ref fW)) (kW : PySem.W.keepIn K (.ref fW) = true)
    (GW : FnOk P w K mg base CX0 1 fW fdW ["value", "longest"] (spIsWord K)) (bW : Binds K fdW ["value", "longest"] ds) (vW : Vals [.int 8] ds) : FnOk P w K mg base CX0 2 f fd ["value", "many"] (spIsGroup K) := by
  refine F.ok scIsGroup (fun vs H Q E h => ?_) (fun cdv A outer s H vs Q E hr h => ?_)
  · obtain ⟨v, d, n, rfl, _⟩ := h
    rfl
  · obtain ⟨v, d, n, rfl, da, sm, q⟩ := h
    refine ⟨_, pss_one (ps_ret (pe_and (pe_callB call_isi (by rfl) T.f.isi (by decide +kernel) (pa_cons (pv 0) (pa_cons (pe_bltn (v := .ty "tuple") (by rfl) T.f.tuple (by decide +kernel) rfl) pa_nil)))
      (pe_and (pe_cmpR op_eq (pe_callB call_len_seq (by rfl) T.f.len PySem.boot_len (pa_cons (pv 0) pa_nil)) (pv 1) (nomark _)) (pe_one (pe_callB (cr_all rfl) (by rfl) T.f.all (by decide +kernel) (pa_cons
        (pe_lc (own := [("word", 2)]) (g := gName 2) (tt := tYes) (te := tCall (spIsWord K) [.int 8] E (tCons (tVar 2) tNil)) rfl scIsGroup.nd (pi_seq (pv 0)) (blkOk_by (N := ["value", "many", "word"]) (sc := defScope sIsGroup) (by decide +kernel)) (fun _ _ _ _ _ => pg_name (i := 2) scIsGroup.nd rfl (Or.inl rfl)) (fun _ _ _ _ _ => pts_nil)
          (fun _ _ _ _ _ => pe_call GW hr (by rfl) gW kW bW vW pass0 (pa_cons (pv 2) pa_nil))) pa_nil)))))), ?_⟩
    by_cases ht : ∃ l, d = .tup l
    · obtain ⟨l, rfl⟩ := ht
      refine ⟨_, rfl, v, .ty "tuple", _, .type "tuple", true, rfl, .ty "tuple", da.ty, kit_ty (show kitB "tuple" "tuple" = some true by decide +kernel), _, rfl, iteT ?_⟩
      obtain ⟨a, xs, rfl, hx, hl⟩ := da.tupI
      have lx := hl.len
      have sm2 := sm l rfl
      refine ⟨_, rfl, a, xs, rfl, .inr hx, _, rfl, rfl, _, rfl, ?_⟩
      have el : decide (V.int (xs.length : Int) = V.int n) = decide ((l.length : Int) = n) := by
        rw [lx, Bool.eq_iff_iff, decide_eq_true_eq, decide_eq_true_eq, V.int.injEq]
      rw [el]
      cases e : decide ((l.length : Int) = n) with
      | false =>
        have q2 := q H (Same.refl _)
        have eg : grpD n (.tup l) = (decide ((l.length : Int) = n) && l.all (wordD 8)) := rfl
        rw [eg, e] at q2
        exact iteF q2
      | true =>
        refine iteT ⟨_, rfl, false, a, xs, rfl, hx, fun J wk D hD => lcX wk hD (fun i acc H => acc = ((l.take i).map (wordD 8)).map V.bl) (by rw [lx, sizeLine_eq]; omega) (fun _ _ _ _ r _ => r) (by simp) (fun H2 s2 => (SqX.tup hx).same s2) ?_ ?_⟩
        · intro i x H2 acc hi ex s2 e r Nx yes no
          refine ⟨rfl, tYes_ok ?_⟩
          obtain ⟨dx, ed, dax⟩ := hl.at ex
          have dax2 := Da.same s2 dax
          have up : l.take (i + 1) = l.take i ++ [dx] := take_up ed
          refine ⟨_, rfl, x, 8, rfl, ?_⟩
          cases dx with
          | str z =>
            cases dax2 with
            | str _ hz =>
              refine .inl ⟨z, rfl, by rw [sizeLine_eq]; omega, yes _ _ (Same.refl _) ?_⟩
              rw [r, up]
              simp [wordD]
          | _ =>
            refine .inr ⟨_, dax2.ty, kit_str _ (by intro z q; cases q), yes _ _ (Same.refl _) ?_⟩
            rw [r, up]
            simp [wordD]
        · intro H2 acc s2 e2 r
          rw [lx, List.take_length] at r
          subst r
          refine ⟨D, l.map (wordD 8), rfl, SqL.of e2, ?_⟩
          have q2 := q H2 s2
          have eg : grpD n (.tup l) = (decide ((l.length : Int) = n) && l.all (wordD 8)) := rfl
          rw [eg, e, Bool.true_and] at q2
          rw [show (l.map (wordD 8)).all id = l.all (wordD 8) by rw [List.all_map]; rfl]
          exact q2
    · have no : ∀ l, d ≠ .tup l := fun l e => ht ⟨l, e⟩
      have q2 := q H (Same.refl _)
      have e : grpD n d = false := by
        cases d with
        | tup l => exact absurd rfl (no l)
        | _ => rfl
      rw [e] at q2
      exact ⟨_, rfl, v, .ty "tuple", _, .type "tuple", false, rfl, .ty "tuple", da.ty, kit_ty (kit_tup d no), _, rfl, iteF q2⟩
end
end K
set_option Elab.async false
set_option linter.all false
set_option maxRecDepth 100000
set_option maxHeartbeats 4000000
/-! Comprehensions with two clauses: what the list holds behind the turns. -/
namespace Hk
open PySem PySem.Spec PyProof.Rows L2
/-- the second clause's turns: B j is the list behind j of them -/
theorem lc2in {J1 : It} {m : Nat} {G1 : Hp → Prop} {ys : List V} (w1 : Walk J1 m G1 (YAt ys)) {g1 : TG} {tt1 : TT} {te : TE} {vs1 : List Nat} {σ2 : L2.St} {H4 : Hp} {D : Addr} {Nx : Hp → Prop} (B : Nat → List V) (h : H4 D = some (.lst (B 0))) (hG1 : ∀ H, But D H4 H → G1 H) (big : ∀ j, j < m → (B j).length < sizeLine)
    (turn : ∀ j y H, j < m → ys[j]? = some y → But D H4 H → H D = some (.lst (B j)) → ∀ Nx1 : Hp → Prop, (∀ y H7, Same H H7 → B j ++ [y] = B (j + 1) → ∃ acc, H7 D = some (.lst acc) ∧ acc.length < sizeLine ∧ Nx1 (L2.upd H7 D (.lst (acc ++ [y])))) → (∀ H6, Same H H6 → B j = B (j + 1) → Nx1 H6) →
      g1 y (wipe σ2 vs1) H fun σ3 H5 => wipe σ3 vs1 = wipe σ2 vs1 ∧ tt1 σ3 H5 fun b H6 => if b = true then te σ3 H6 fun y H7 => ∃ acc, H7 D = some (.lst acc) ∧ acc.length < sizeLine ∧ Nx1 (L2.upd H7 D (.lst (acc ++ [y]))) else Nx1 H6)
    (fin : ∀ H, But D H4 H → H D = some (.lst (B m)) → Nx H) :
    ∃ W1 : Nat → Nat → Hp → Prop, (∃ k, W1 0 k H4) ∧ ∀ j k H, W1 j k H → (J1.stop j H ∧ Nx H) ∨ (J1.go j H ∧ ∃ Nx1 : Hp → Prop, (∀ H', Nx1 H' → ∃ k', k' < k ∧ W1 (j + 1) k' H') ∧ ∀ x H', J1.yld j H x H' → g1 x (wipe σ2 vs1) H' fun σ3 H5 => wipe σ3 vs1 = wipe σ2 vs1 ∧ tt1 σ3 H5 fun b H6 =>
        if b = true then te σ3 H6 fun y H7 => ∃ acc, H7 D = some (.lst acc) ∧ acc.length < sizeLine ∧ Nx1 (L2.upd H7 D (.lst (acc ++ [y]))) else Nx1 H6) := by
  refine ⟨fun j k H => k = m - j ∧ j ≤ m ∧ But D H4 H ∧ H D = some (.lst (B j)), ⟨m, by simp, Nat.zero_le _, But.rfl', h⟩, ?_⟩
  rintro j k H ⟨rfl, hj, b, e⟩
  by_cases lt : j < m
  · refine .inr ⟨w1.goes j H lt (hG1 H b), fun H' => But D H4 H' ∧ H' D = some (.lst (B (j + 1))), fun H' p => ⟨m - (j + 1), by omega, rfl, lt, p.1, p.2⟩, fun x H' y => ?_⟩
    obtain ⟨rfl, ey⟩ := w1.yields j H x H' lt (hG1 H b) y
    exact turn j x H' lt ey b e _ (fun y H7 s7 eq => ⟨_, s7 _ _ e, big j lt, (b.trans (But.of s7)).upd, by rw [upd_same, eq]⟩) fun H6 s6 eq => ⟨b.trans (But.of s6), by rw [s6 _ _ e, eq]⟩
  · obtain rfl : j = m := by omega
    exact .inl ⟨w1.stops H (hG1 H b), fin H b e⟩
/-- the first clause's turns: A i is the list behind i of them -/
theorem lc2X {J : It} {n : Nat} {G : Hp → Prop} {xs : List V} (w : Walk J n G (YAt xs)) {g : TG} {tt : TT} {wi1 : TI} {g1 : TG} {tt1 : TT} {te : TE} {vs vs1 : List Nat} {σ : L2.St} {H1 : Hp} {D : Addr} {Qd : Hp → Prop} (hD : H1 D = none) (A : Nat → List V) (hA : A 0 = []) (hG : ∀ H, Same H1 H → G H)
    (turn : ∀ i x H, i < n → xs[i]? = some x → Same H1 H → H D = some (.lst (A i)) → ∀ Nx : Hp → Prop, (∀ H', But D H H' → H' D = some (.lst (A (i + 1))) → Nx H') →
      g x (wipe σ vs) H fun σ2 H2 => wipe σ2 vs = wipe σ vs ∧ tt σ2 H2 fun b H3 => if b = true then wi1 σ2 H3 fun J1 H4 => ∃ W1 : Nat → Nat → Hp → Prop, (∃ m, W1 0 m H4) ∧ ∀ j k H, W1 j k H →
        (J1.stop j H ∧ Nx H) ∨ (J1.go j H ∧ ∃ Nx1 : Hp → Prop, (∀ H', Nx1 H' → ∃ k', k' < k ∧ W1 (j + 1) k' H') ∧ ∀ x H', J1.yld j H x H' → g1 x (wipe σ2 vs1) H' fun σ3 H5 => wipe σ3 vs1 = wipe σ2 vs1 ∧ tt1 σ3 H5 fun b H6 =>
          if b = true then te σ3 H6 fun y H7 => ∃ acc, H7 D = some (.lst acc) ∧ acc.length < sizeLine ∧ Nx1 (L2.upd H7 D (.lst (acc ++ [y]))) else Nx1 H6) else Nx H3)
    (fin : ∀ H, Same H1 H → H D = some (.lst (A n)) → Qd H) :
    ∃ W : Nat → Nat → Hp → Prop, (∃ m, W 0 m (L2.upd H1 D (.lst []))) ∧ ∀ i m H, W i m H →
      (J.stop i H ∧ Qd H) ∨ (J.go i H ∧ ∃ Nx : Hp → Prop, (∀ H', Nx H' → ∃ m', m' < m ∧ W (i + 1) m' H') ∧ ∀ x H', J.yld i H x H' → g x (wipe σ vs) H' fun σ2 H2 => wipe σ2 vs = wipe σ vs ∧ tt σ2 H2 fun b H3 =>
        if b = true then wi1 σ2 H3 fun J1 H4 => ∃ W1 : Nat → Nat → Hp → Prop, (∃ m, W1 0 m H4) ∧ ∀ j k H, W1 j k H →
          (J1.stop j H ∧ Nx H) ∨ (J1.go j H ∧ ∃ Nx1 : Hp → Prop, (∀ H', Nx1 H' → ∃ k', k' < k ∧ W1 (j + 1) k' H') ∧ ∀ x H', J1.yld j H x H' → g1 x (wipe σ2 vs1) H' fun σ3 H5 => wipe σ3 vs1 = wipe σ2 vs1 ∧ tt1 σ3 H5 fun b H6 =>
            if b = true then te σ3 H6 fun y H7 => ∃ acc, H7 D = some (.lst acc) ∧ acc.length < sizeLine ∧ Nx1 (L2.upd H7 D (.lst (acc ++ [y]))) else Nx1 H6) else Nx H3) := by
  refine ⟨fun i m H => m = n - i ∧ i ≤ n ∧ Same H1 H ∧ H D = some (.lst (A i)), ⟨n, by simp, Nat.zero_le _, Same.fresh (Same.refl _) hD, by rw [upd_same, hA]⟩, ?_⟩
  rintro i m H ⟨rfl, hi, s, e⟩
  by_cases lt : i < n
  · refine .inr ⟨w.goes i H lt (hG H s), fun H' => Same H1 H' ∧ H' D = some (.lst (A (i + 1))), fun H' p => ⟨n - (i + 1), by omega, rfl, lt, p.1, p.2⟩, fun x H' y => ?_⟩
    obtain ⟨rfl, ey⟩ := w.yields i H x H' lt (hG H s) y
    exact turn i x H' lt ey s e _ fun H2 b2 e2 => ⟨fun c o ec => b2 c o (ne_of_none ec hD) (s c o ec), e2⟩
  · obtain rfl : i = n := by omega
    exact .inl ⟨w.stops H (hG H s), fin H s e⟩
end Hk
set_option Elab.async false
set_option linter.all false
set_option maxRecDepth 100000
set_option maxHeartbeats 4000000
/-! make_number, made_words, words_of, rule_words. -/
namespace K
open PySem L2 Hk
def isMk : Rl → Bool
  | .mk _ => true
  | _ => false
/-- the number of the first make -/
def mkNo (l : List Rl) : Option Nat := l.findIdx? isMk
def mkWs : Rl → List Str
  | .mk ws => ws
  | _ => []
/-- the words of the first make -/
def made (l : List Rl) : Option (List Str) := (l.find? isMk).map mkWs
def headS : Rl → Str
  | .ft b _ _ => knd b
  | .rs _ _ => "raise"
  | .mt _ _ _ => "meet"
  | .mk _ => "make"
def restD : Rl → List Dt
  | .ft _ a ps => [.str a, .tup (ps.map dtP)]
  | .rs a b => [.str a, .str b]
  | .mt a b c => [.str a, .str b, .str c]
  | .mk ws => [.tup (ws.map Dt.str)]
theorem dtL_is (r : Rl) : dtL r = .tup (.str (headS r) :: restD r) := by cases r <;> rfl
theorem head_make (r : Rl) : decide (headS r = "make") = isMk r := by
  cases r with
  | ft b _ _ => exact decide_eq_false (knd_no b).2.2
  | rs _ _ => exact decide_eq_false (show ("raise" : Str) ≠ "make" by decide +kernel)
  | mt _ _ _ => exact decide_eq_false (show ("meet" : Str) ≠ "make" by decide +kernel)
  | mk _ => exact decide_eq_true rfl
/-- a rule on the heap -/
theorem rule_at {K : PySem.W.Frag} {H : Hp} {v : V} {r : Rl} (h : Da K H v (dtL r)) : ∃ a xs, v = .ref a ∧ H a = some (.tup (.str (headS r) :: xs)) ∧ DaAll K H xs (restD r) := by
  rw [dtL_is] at h
  cases h with
  | tup q t =>
    cases t with
    | cons h t =>
      cases h
      exact ⟨_, _, rfl, q, t⟩
theorem rules_at {K : PySem.W.Frag} {H : Hp} {xs : List V} {rs : List Rl} (h : DaAll K H xs (rs.map dtL)) {i : Nat} {x : V} (e : xs[i]? = some x) : ∃ r a ys, rs[i]? = some r ∧ x = .ref a ∧ H a = some (.tup (.str (headS r) :: ys)) ∧ DaAll K H ys (restD r) ∧ Da K H x (dtL r) := by
  obtain ⟨d, ed, da⟩ := h.at e
  rw [List.getElem?_map] at ed
  obtain ⟨r, er, rfl⟩ := Option.map_eq_some_iff.mp ed
  obtain ⟨a, ys, rfl, h1, h2⟩ := rule_at da
  exact ⟨r, a, ys, er, rfl, h1, h2, da⟩
def vNo : Option Nat → V
  | none => .non
  | some n => .int n
def spMakeNo (K : PySem.W.Frag) : Sp := fun vs H Q _ => ∃ (b : Bool) (a : Addr) (xs : List V) (rs : List Rl), vs = [.ref a] ∧ SqX K H b a xs ∧ DaAll K H xs (rs.map dtL) ∧ rs.length < 1000 ∧ ∀ H', Same H H' → Q (vNo (mkNo rs)) H'
def spMade (K : PySem.W.Frag) : Sp := fun vs H Q _ => ∃ (a : Addr) (xs : List V) (rs : List Rl), vs = [.ref a] ∧ SqT K H a xs ∧ DaAll K H xs (rs.map dtL) ∧ rs.length < 1000 ∧
  (made rs = none → ∀ H', Same H H' → Q .non H') ∧ ∀ ws, made rs = some ws → ∀ H' v, Same H H' → Da K H' v (.tup (ws.map Dt.str)) → Q v H'
section
variable {P : Program} {w : World} {K : PySem.W.Frag} {mg : Str → Option Value} {base : Heap} {f fM : Addr} {fd fdM : FuncData}
theorem scMN : FnScope ["rules", "number", "rule"] ["rules"] (defScope sMakeNumber) := ⟨rfl, rfl, rfl, by decide +kernel, rfl, by decide +kernel, by decide +kernel⟩
theorem ok_make_no (F : Fun K "make_number" "make_number" sMakeNumber f fd) (T : TxtG mg) : FnOk P w K mg base CX0 1 f fd ["rules"] (spMakeNo K) := by
  refine F.ok scMN (fun vs H Q E h => ?_) (fun cdv A outer s H vs Q E hr h => ?_)
  · obtain ⟨b, a, xs, rs, rfl, _⟩ := h
    rfl
  · obtain ⟨b, a, xs, rs, rfl, hx, da, few, q⟩ := h
    refine ⟨_, pss_cons (ps_for PassesOwn.never rfl (pi_enumX (by rfl) T.enum (pa_cons (pv 0) pa_nil)) (pg_tup rfl (pgs_cons (pg_name (i := 1) scMN.nd rfl (Or.inl rfl)) (pgs_cons (pg_name (i := 2) scMN.nd rfl (Or.inl rfl)) pgs_nil)))
        (pss_one (ps_if (pt_cmpR op_eq (pe_ix ix_tup (pv 2) pe_int (fun _ _ => rfl)) pe_str (nomark _)) (pss_one (ps_ret (pv 1))) pss_nil)))
      (pss_one (ps_ret pe_non)), ?_⟩
    have lx := da.len
    rw [List.length_map] at lx
    refine ⟨_, rfl, b, a, xs, rfl, hx, fun J wk => for_it wk (fun i σ H' => (∃ o1 o2, σ = [some (.ref a), o1, o2]) ∧ Same H H' ∧ (rs.take i).findIdx? isMk = none) ⟨⟨none, none, rfl⟩, Same.refl _, by simp⟩ (fun i σ H' _ p => hx.same p.2.1) ?_ ?_⟩
    · rintro i v σ H1 H1' hi ⟨⟨o1, o2, rfl⟩, s1, no⟩ ⟨T1, x, rfl, hT, rfl, ex⟩
      obtain ⟨r, ra, ys, er, rfl, hra, hys, _⟩ := rules_at (DaAll.same s1 da) ex
      have s2 : Same H (upd H1 T1 (.tup [.int (i : Nat), .ref ra])) := Same.fresh s1 hT
      have ra2 : (upd H1 T1 (.tup [.int (i : Nat), .ref ra])) ra = some (.tup (.str (headS r) :: ys)) := Same.fresh (Same.refl _) hT _ _ hra
      refine ⟨T1, _, rfl, .inl (.inl upd_same), rfl, _, _, rfl, _, _, rfl, rfl, ?_⟩
      refine ⟨_, rfl, ra, _, _, _, rfl, rfl, .inl (.inl ra2), atI_nat (j := 0) rfl, rfl, _, rfl, ?_⟩
      rw [show decide (V.str (headS r) = V.str "make") = isMk r by rw [← head_make, Bool.eq_iff_iff, decide_eq_true_eq, decide_eq_true_eq, V.str.injEq]]
      have tk := take_up er
      cases e : isMk r with
      | true =>
        refine iteT ⟨_, rfl, ?_⟩
        have z : mkNo rs = some i := by
          unfold mkNo
          rw [← List.take_append_drop (i + 1) rs, tk, List.append_assoc, List.findIdx?_append, no]
          have li : i < rs.length := by rw [← lx]; exact hi
          simp [List.findIdx?_cons, e, List.length_take]
          omega
        have q2 := q _ s2
        rw [z] at q2
        exact q2
      | false =>
        refine iteF ⟨⟨_, _, rfl⟩, s2, ?_⟩
        rw [tk, List.findIdx?_append, no]
        simp [List.findIdx?_cons, e]
    · rintro σ H2 ⟨⟨o1, o2, rfl⟩, s2, no⟩
      rw [lx, List.take_length] at no
      have q2 := q H2 s2
      rw [show mkNo rs = none from no] at q2
      exact q2
theorem scMW : FnScope ["rules", "number"] ["rules"] (defScope sMadeWords) := ⟨rfl, rfl, rfl, by decide +kernel, rfl, by decide +kernel, by decide +kernel⟩
theorem ok_made_words (F : Fun K "made_words" "made_words" sMadeWords f fd) (gM : mg "make_number" = some (.ref fM)) (kM : PySem.W.keepIn K (.ref fM) = true)
    (GM : FnOk P w K mg base CX0 1 fM fdM ["rules"] (spMakeNo K)) (bM : Binds K fdM ["rules"] []) : FnOk P w K mg base CX0 2 f fd ["rules"] (spMade K) := by
  refine F.ok scMW (fun vs H Q E h => ?_) (fun cdv A outer s H vs Q E hr h => ?_)
  · obtain ⟨a, xs, rs, rfl, _⟩ := h
    rfl
  · obtain ⟨a, xs, rs, rfl, hx, da, few, q0, q1⟩ := h
    refine ⟨_, pss_cons (ps_set (i := 1) scMW.nd rfl (Or.inl rfl) (pe_call GM hr (by rfl) gM kM bM .nil pass0 (pa_cons (pv 0) pa_nil)))
      (pss_one (ps_ret (pe_ifExp (pt_cmp (pc_isN (pv 1))) pe_non (pe_ix ix_tup (pe_ix ix_tup (pv 0) (pv 1) (fun _ _ => rfl)) pe_int (fun _ _ => rfl))))), ?_⟩
    refine ⟨_, rfl, false, a, xs, rs, rfl, hx, da, few, fun H1 s1 => ?_⟩
    cases e : mkNo rs with
    | none =>
      refine ⟨_, rfl, _, rfl, iteT ?_⟩
      refine q0 ?_ _ s1
      unfold made
      rw [List.find?_eq_none.mpr fun r hr => ?_]
      · rfl
      · have := List.findIdx?_eq_none_iff.mp e r hr
        rw [this]
        decide
    | some i =>
      refine ⟨_, rfl, _, rfl, iteF ?_⟩
      obtain ⟨hi, mi, bf⟩ := List.findIdx?_eq_some_iff_getElem.mp e
      have lx := da.len
      rw [List.length_map] at lx
      have ex : xs[i]? = some xs[i] := List.getElem?_eq_getElem (by omega)
      obtain ⟨r, ra, ys, er, e2, hra, hys, _⟩ := rules_at (DaAll.same s1 da) ex
      rw [e2] at ex
      have er2 : rs[i] = r := by
        rw [List.getElem?_eq_getElem hi] at er
        exact Option.some.inj er
      rw [er2] at mi
      cases r with
      | mk ws =>
        have hys' : DaAll K H1 ys [.tup (ws.map Dt.str)] := hys
        cases hys' with
        | cons hw t =>
          cases t
          refine ⟨_, rfl, _, rfl, a, xs, _, _, rfl, rfl, seqT_same s1 hx, atI_nat (j := i) ex, ra, _, _, _, rfl, rfl, .inl (.inl hra), atI_nat (j := 1) rfl, ?_⟩
          refine q1 ws ?_ _ _ s1 hw
          unfold made
          have z : rs.find? isMk = some (.mk ws) := by
            rw [List.find?_eq_some_iff_getElem]
            refine ⟨rfl, i, hi, er2, fun j hj => ?_⟩
            have := bf j hj
            simpa using this
          rw [z]
          rfl
      | _ => cases mi
/-! ### words -/
def wordsOf : Rl → List Str
  | .ft _ a ps => a :: (ps.map fun p => [p.1, p.2]).flatten
  | .rs a b => [a, b]
  | .mt a b c => [a, b, c]
  | .mk ws => ws
theorem cut_from1 (x : V) (ys : List V) : cutV (x :: ys) (some 1) none = ys := by
  unfold cutV
  rw [show HT.sIx (x :: ys).length 0 (some 1) = 1 from (HT.sIx_nat _ 0 1).trans (by rw [List.length_cons]; omega), HT.sIx_none, List.length_cons, Nat.add_sub_cancel]
  exact List.take_length
end
end K
set_option Elab.async false
set_option linter.all false
set_option maxRecDepth 100000
set_option maxHeartbeats 4000000
/-! words_of, rule_words. -/
namespace K
open PySem L2 Hk PyProof.Rows
def isFt : Rl → Bool
  | .ft _ _ _ => true
  | _ => false
def ftB (x : Str) : Bool := PyData.eqv (.str "fetch") (.str x) || (PyData.eqv (.str "hand") (.str x) || false)
theorem ftB_s : ftB "fetch" = true ∧ ftB "hand" = true ∧ ftB "raise" = false ∧ ftB "meet" = false ∧ ftB "make" = false := by decide +kernel
theorem head_ft (r : Rl) : ftB (headS r) = isFt r := by
  cases r with
  | ft b _ _ =>
    cases b
    · exact ftB_s.2.1
    · exact ftB_s.1
  | rs _ _ => exact ftB_s.2.2.1
  | mt _ _ _ => exact ftB_s.2.2.2.1
  | mk _ => exact ftB_s.2.2.2.2
theorem none_back {H H' : Hp} {p : Addr} (s : Same H H') (h : H' p = none) : H p = none := by
  cases e : H p with
  | none => rfl
  | some o => rw [s _ _ e] at h; cases h
theorem seqT_but2 {K : PySem.W.Frag} {H H' : Hp} {a d : Addr} {xs ys : List V} (h : SqT K H a xs) (e : H d = some (.lst ys)) (b : But d H H') : SqT K H' a xs := by
  rcases h with (h | ⟨o, h⟩) | h
  · exact .inl (.inl (b _ _ (fun q => by rw [q, e] at h; cases h) h))
  · exact .inl (.inr ⟨o, b _ _ (fun q => by rw [q, e] at h; cases h) h⟩)
  · exact .inr h
def spWordsOf (K : PySem.W.Frag) : Sp := fun vs H Q _ => ∃ (v : V) (r : Rl), vs = [v] ∧ Da K H v (dtL r) ∧ (wordsOf r).length < 1000 ∧ ∀ p H', H p = none → Same H H' → H' p = some (.lst ((wordsOf r).map V.str)) → Q (.ref p) H'
def spRuleWords (K : PySem.W.Frag) : Sp := fun vs H Q _ => ∃ (a : Addr) (xs : List V) (rs : List Rl), vs = [.ref a] ∧ SqT K H a xs ∧ DaAll K H xs (rs.map dtL) ∧ rs.length < 1000 ∧ (∀ r ∈ rs, (wordsOf r).length < 1000) ∧ ((rs.map wordsOf).flatten).length < 4000 ∧
  ∀ p H' (l : List Str), Same H H' → l.Nodup → (∀ y, y ∈ l ↔ ∃ r ∈ rs, y ∈ wordsOf r) → H' p = some (.lst ((l.mergeSort leT).map V.str)) → Q (.ref p) H'
section
variable {P : Program} {w : World} {K : PySem.W.Frag} {mg : Str → Option Value} {base : Heap} {f fM : Addr} {fd fdM : FuncData}
theorem scWO : FnScope ["rule", "pair", "word"] ["rule"] (defScope sWordsOf) := ⟨rfl, rfl, rfl, by decide +kernel, rfl, by decide +kernel, by decide +kernel⟩
/-- the reading of list(rule[1:]) -/
theorem tailG {H : Hp} {r : Rl} {ra : Addr} {ys : List V} {ws : List Str} {Q : VK} (hra : H ra = some (.tup (.str (headS r) :: ys))) (hys : DaAll K H ys (restD r)) (e1 : restD r = ws.map Dt.str) (e2 : wordsOf r = ws)
    (q : ∀ p H', H p = none → Same H H' → H' p = some (.lst ((wordsOf r).map V.str)) → Q (.ref p) H') :
    rSlA K (.ref ra) (some 1) none H fun x H1 => ∃ p ys, [x] = [V.ref p] ∧ (SqL K H1 p ys ∨ SqT K H1 p ys) ∧ ∀ l, H1 l = none → Q (.ref l) (upd H1 l (.lst ys)) := by
  rw [e1] at hys
  have ex := hys.strs
  refine ⟨ra, _, rfl, .inl (.inl hra), fun ⟨h, _⟩ => ?_, fun _ p hp => ?_⟩
  · rw [show HT.sIx (V.str (headS r) :: ys).length 0 (some 1) = min 1 (V.str (headS r) :: ys).length from HT.sIx_nat _ 0 1, List.length_cons] at h
    omega
  · rw [cut_from1]
    refine ⟨p, ys, rfl, .inr (.inl (.inl upd_same)), fun l hl => q l _ (none_back (Same.fresh (Same.refl _) hp) hl) ((Same.fresh (Same.refl _) hp).trans (Same.fresh (Same.refl _) hl)) ?_⟩
    rw [upd_same, ex, e2]
theorem ok_words_of (F : Fun K "words_of" "words_of" sWordsOf f fd) (T : TxtG mg) : FnOk P w K mg base CX0 1 f fd ["rule"] (spWordsOf K) := by
  refine F.ok scWO (fun vs H Q E h => ?_) (fun cdv A outer s H vs Q E hr h => ?_)
  · obtain ⟨v, r, rfl, _⟩ := h
    rfl
  · obtain ⟨v, r, rfl, da, few, q⟩ := h
    refine ⟨_, pss_cons (ps_if (pt_cmpR op_eq (pe_ix ix_tup (pv 0) pe_int (fun _ _ => rfl)) pe_str (nomark _)) (pss_one (ps_ret (pe_callTy call_list_of (by rfl) T.f.list (by decide +kernel) (pa_cons (pe_ix ix_tup (pv 0) pe_int (fun _ _ => rfl)) pa_nil)))) pss_nil)
      (pss_cons (ps_if (pt_cmpR (op_inDT hr.units) (pe_ix ix_tup (pv 0) pe_int (fun _ _ => rfl)) (pe_tup (pa_cons pe_str (pa_cons pe_str pa_nil))) rfl)
        (pss_one (ps_ret (pe_op op_cat (pe_lst (pa_cons (pe_ix ix_tup (pv 0) pe_int (fun _ _ => rfl)) pa_nil))
          (pe_lc2 (own := [("pair", 1), ("word", 2)]) (vs1 := [2]) (g := gName 1) (tt := tYes) (g1 := gName 2) (tt1 := tYes) (te := tVar 2) (wi1 := iSeq K (tVar 1)) rfl scWO.nd (pi_seq (pe_ix ix_tup (pv 0) pe_int (fun _ _ => rfl))) (blkOk_by (N := ["rule", "pair", "word"]) (sc := defScope sWordsOf) (by decide +kernel)) (by decide)
            (fun _ _ _ _ _ => pg_name (i := 1) scWO.nd rfl (Or.inl rfl)) (fun _ _ _ _ _ => pts_nil) (fun _ _ _ _ _ => pi_seq (pv 1)) (fun _ _ _ _ _ => pg_name (i := 2) scWO.nd rfl (Or.inl rfl)) (fun _ _ _ _ _ => pts_nil) (fun _ _ _ _ _ => pv 2))))) pss_nil)
      (pss_one (ps_ret (pe_callTy call_list_of (by rfl) T.f.list (by decide +kernel) (pa_cons (pe_slice sl_tupA (pv 0) (po_some pe_int) po_none) pa_nil))))), ?_⟩
    obtain ⟨ra, ys, rfl, hra, hys⟩ := rule_at da
    refine ⟨_, rfl, ra, _, _, _, rfl, rfl, .inl (.inl hra), atI_nat (j := 0) rfl, rfl, _, rfl, ?_⟩
    rw [show decide (V.str (headS r) = V.str "make") = isMk r by rw [← head_make, Bool.eq_iff_iff, decide_eq_true_eq, decide_eq_true_eq, V.str.injEq]]
    cases em : isMk r with
    | true =>
      cases r with
      | mk ws =>
        refine iteT ?_
        cases hys with
        | cons hw _ =>
          obtain ⟨b, zs, rfl, hb, hz⟩ := hw.tupI
          refine ⟨_, rfl, ra, _, _, _, rfl, rfl, .inl (.inl hra), atI_nat (j := 1) rfl, ?_⟩
          refine ⟨b, _, rfl, .inr hb, fun p hp => q p _ hp (Same.fresh (Same.refl _) hp) ?_⟩
          rw [upd_same, hz.strs]
          rfl
      | _ => cases em
    | false =>
      refine iteF ⟨_, rfl, ra, _, _, _, rfl, rfl, .inl (.inl hra), atI_nat (j := 0) rfl, by rw [sizeLine_eq]; decide, fun p hp => ?_⟩
      have s1 : Same H (upd H p (.tup [.str "fetch", .str "hand"])) := Same.fresh (Same.refl _) hp
      refine ⟨p, [.str "fetch", .str "hand"], [.str "fetch", .str "hand"], .str (headS r), rfl, .inl (.inl upd_same), .cons (.str _) (.cons (.str _) .nil), .str _, rfl, rfl, by show (0 : Nat) ≤ 60; omega, ?_⟩
      rw [show ((if false = true then !(List.any [PyData.str "fetch", PyData.str "hand"] fun e => PyData.eqv e (.str (headS r))) else List.any [PyData.str "fetch", PyData.str "hand"] fun e => PyData.eqv e (.str (headS r))) : Bool) = isFt r from head_ft r]
      have hra1 := s1 _ _ hra
      have hys1 := hys.same s1
      generalize upd H p (.tup [.str "fetch", .str "hand"]) = H1 at s1 hra1 hys1
      clear hp
      cases r with
      | mk ws => cases em
      | ft k a ps =>
        refine ⟨_, rfl, iteT ?_⟩
        cases hys1 with
        | cons ha h =>
        cases h with
        | cons hps h =>
        cases h
        cases ha with
        | str _ la =>
        obtain ⟨b, zs, rfl, hb, hz⟩ := hps.tupI
        have lz : zs.length = ps.length := by rw [hz.len, List.length_map]
        have flat : ∀ l : List (Str × Str), (l.map fun p => [p.1, p.2]).flatten.length = 2 * l.length := by
          intro l
          induction l with
          | nil => rfl
          | cons x l ih =>
            rw [List.map_cons, List.flatten_cons, List.length_append, ih, List.length_cons]
            simp only [List.length_cons, List.length_nil]
            omega
        have few2 : 2 * ps.length + 1 < 1000 := by
          have := flat ps
          have q2 : (wordsOf (.ft k a ps)).length = (ps.map fun p => [p.1, p.2]).flatten.length + 1 := rfl
          omega
        refine ⟨_, rfl, ra, _, _, _, rfl, rfl, .inl (.inl hra1), atI_nat (j := 1) rfl, by rw [sizeLine_eq]; exact show (1 : Nat) ≤ 16777216 by omega, fun pl hpl => ?_⟩
        have s2 : Same H1 (upd H1 pl (.lst [.str a])) := Same.fresh (Same.refl _) hpl
        have hz2 := hz.same s2
        have hb2 := seqT_same s2 hb
        refine ⟨_, rfl, ra, _, _, _, rfl, rfl, .inl (.inl (s2 _ _ hra1)), atI_nat (j := 2) rfl, false, b, zs, rfl, hb2, fun J wk D hD => ?_⟩
        refine lc2X wk hD (fun i => ((ps.take i).map fun p => [p.1, p.2]).flatten.map V.str) (by simp) (fun H3 s3 => seqT_same s3 hb2) ?_ ?_
        · intro i x H3 hi ex s3 e3 Nx go
          obtain ⟨d, ed, dax⟩ := hz2.at ex
          rw [List.getElem?_map] at ed
          obtain ⟨⟨p1, p2⟩, ep, rfl⟩ := Option.map_eq_some_iff.mp ed
          have up : ps.take (i + 1) = ps.take i ++ [(p1, p2)] := take_up ep
          obtain ⟨c, us, rfl, hc, hu⟩ := (dax.same s3).tupI
          have eu : us = [V.str p1, V.str p2] := (DaAll.strs (ss := [p1, p2]) hu)
          subst eu
          refine ⟨rfl, iteT (B := Nx H3) ?_⟩
          refine ⟨_, rfl, false, c, _, rfl, hc, fun J1 wk1 => ?_⟩
          refine lc2in wk1 (fun j => ((ps.take i).map fun p => [p.1, p.2]).flatten.map V.str ++ ([V.str p1, V.str p2].take j)) (by simpa using e3) ?_ ?_ ?_ ?_
          · exact fun H4 b4 => seqT_but2 hc e3 b4
          · intro j hj
            rw [List.length_append, List.length_map, flat, List.length_take, List.length_take, sizeLine_eq]
            simp only [List.length_cons, List.length_nil]
            omega
          · intro j y H4 hj ey b4 e4 Nx1 yes no
            refine ⟨rfl, iteT (B := Nx1 H4) ⟨_, rfl, yes y _ (Same.refl _) ?_⟩⟩
            have u2 := take_up ey
            rw [u2, List.append_assoc]
          · intro H4 b4 e4
            refine go _ b4 ?_
            rw [e4, up]
            simp
        · intro H3 s3 e3
          rw [lz, List.take_length] at e3
          refine ⟨pl, D, [.str a], _, rfl, rfl, s3 _ _ upd_same, e3, ?_, fun p hp => q p _ (none_back (s1.trans (s2.trans s3)) hp) ((s1.trans s2).trans (s3.trans (Same.fresh (Same.refl _) hp))) ?_⟩
          · rw [List.length_map, flat, sizeLine_eq]
            simp only [List.length_cons, List.length_nil]
            omega
          · rw [upd_same]
            rfl
      | rs a b => exact ⟨_, rfl, iteF ⟨_, rfl, _, rfl, tailG (r := .rs a b) (ws := [a, b]) hra1 hys1 rfl rfl fun p H' n s2 e => q p H' (none_back s1 n) (s1.trans s2) e⟩⟩
      | mt a b c => exact ⟨_, rfl, iteF ⟨_, rfl, _, rfl, tailG (r := .mt a b c) (ws := [a, b, c]) hra1 hys1 rfl rfl fun p H' n s2 e => q p H' (none_back s1 n) (s1.trans s2) e⟩⟩
theorem scRW : FnScope ["rules", "rule", "word"] ["rules"] (defScope sRuleWords) := ⟨rfl, rfl, rfl, by decide +kernel, rfl, by decide +kernel, by decide +kernel⟩
theorem ok_rule_words (F : Fun K "rule_words" "rule_words" sRuleWords f fd) (T : TxtG mg) (gM : mg "words_of" = some (.ref fM)) (kM : PySem.W.keepIn K (.ref fM) = true)
    (GM : FnOk P w K mg base CX0 1 fM fdM ["rule"] (spWordsOf K)) (bM : Binds K fdM ["rule"] []) : FnOk P w K mg base CX0 2 f fd ["rules"] (spRuleWords K) := by
  refine F.ok scRW (fun vs H Q E h => ?_) (fun cdv A outer s H vs Q E hr h => ?_)
  · obtain ⟨a, xs, rs, rfl, _⟩ := h
    rfl
  · obtain ⟨a, xs, rs, rfl, hx, da, few, fw, fl, q⟩ := h
    refine ⟨_, pss_one (ps_ret (pe_callB (cr_sortS rfl hr.units) (by rfl) T.f.sorted (by decide +kernel) (pa_cons (pe_callTy (cr_setS rfl hr.units) (by rfl) T.f.set (by decide +kernel) (pa_cons
        (pe_lc2 (own := [("rule", 1), ("word", 2)]) (vs1 := [2]) (g := gName 1) (tt := tYes) (g1 := gName 2) (tt1 := tYes) (te := tVar 2) (wi1 := iSeq K (tCall (spWordsOf K) [] E (tCons (tVar 1) tNil))) rfl scRW.nd (pi_seq (pv 0)) (blkOk_by (N := ["rules", "rule", "word"]) (sc := defScope sRuleWords) (by decide +kernel)) (by decide)
            (fun _ _ _ _ _ => pg_name (i := 1) scRW.nd rfl (Or.inl rfl)) (fun _ _ _ _ _ => pts_nil) (fun _ _ _ _ _ => pi_seq (pe_call GM hr (by rfl) gM kM bM .nil pass0 (pa_cons (pv 1) pa_nil))) (fun _ _ _ _ _ => pg_name (i := 2) scRW.nd rfl (Or.inl rfl)) (fun _ _ _ _ _ => pts_nil) (fun _ _ _ _ _ => pv 2)) pa_nil)) pa_nil))), ?_⟩
    have lx : xs.length = rs.length := by rw [da.len, List.length_map]
    have lfl : ∀ i, ((rs.take i).map wordsOf).flatten.length ≤ ((rs.map wordsOf).flatten).length := fun i => by
      have z := congrArg (fun l => ((l.map wordsOf).flatten).length) (List.take_append_drop i rs)
      simp only [List.map_append, List.flatten_append, List.length_append] at z
      omega
    refine ⟨_, rfl, false, a, xs, rfl, hx, fun J wk D hD => ?_⟩
    refine lc2X wk hD (fun i => ((rs.take i).map wordsOf).flatten.map V.str) (by simp) (fun H3 s3 => seqT_same s3 hx) ?_ ?_
    · intro i x H3 hi ex s3 e3 Nx go
      obtain ⟨d, ed, dax⟩ := (da.same s3).at ex
      rw [List.getElem?_map] at ed
      obtain ⟨r, er, rfl⟩ := Option.map_eq_some_iff.mp ed
      have up : rs.take (i + 1) = rs.take i ++ [r] := take_up er
      have mr : r ∈ rs := List.mem_of_getElem? er
      refine ⟨rfl, iteT (B := Nx H3) ?_⟩
      refine ⟨_, rfl, x, r, rfl, dax, fw r mr, fun p H4 np s4 hp => ?_⟩
      have e4 := s4 _ _ e3
      have nD : p ≠ D := fun e => by rw [← e, np] at e3; cases e3
      refine ⟨true, p, _, rfl, .inl (.inl hp), fun J1 wk1 => ?_⟩
      refine lc2in wk1 (fun j => ((rs.take i).map wordsOf).flatten.map V.str ++ (((wordsOf r).map V.str).take j)) (by simpa using e4) ?_ ?_ ?_ ?_
      · exact fun H5 b5 => .inl (.inl (b5 _ _ nD hp))
      · intro j hj
        have l1 := lfl i
        have l2 := fw r mr
        rw [List.length_append, List.length_map, List.length_take, List.length_map, sizeLine_eq]
        omega
      · intro j y H5 hj ey b5 e5 Nx1 yes no
        refine ⟨rfl, iteT (B := Nx1 H5) ⟨_, rfl, yes y _ (Same.refl _) ?_⟩⟩
        have u2 := take_up ey
        rw [u2, List.append_assoc]
      · intro H5 b5 e5
        refine go _ ((But.of s4).trans b5) ?_
        rw [e5, up, List.take_of_length_le (Nat.le_refl _)]
        simp
    · intro H3 s3 e3
      rw [lx, List.take_length] at e3
      refine ⟨D, (rs.map wordsOf).flatten, rfl, .inl (.inl (.inl e3)), fl, fun S l hS nd hm => ?_⟩
      refine ⟨S, l, rfl, upd_same, ?_, fun p hp => q p _ l ((s3.trans (Same.fresh (Same.refl _) hS)).trans (Same.fresh (Same.refl _) hp)) nd (fun y => ?_) upd_same⟩
      · have := nd.length_le_of_subset (fun y hy => (hm y).mp hy)
        omega
      · rw [hm, List.mem_flatten]
        constructor
        · rintro ⟨m, hm, hy⟩
          obtain ⟨r, hr, rfl⟩ := List.mem_map.mp hm
          exact ⟨r, hr, hy⟩
        · rintro ⟨r, hr, hy⟩
          exact ⟨_, List.mem_map_of_mem hr, hy⟩
end
end K
set_option Elab.async false
set_option linter.all false
set_option maxRecDepth 100000
set_option maxHeartbeats 4000000
/-! plain_pairs. -/
namespace K
open PySem L2 Hk PyProof.Rows
/-! ### no row in it is long -/
mutual
def smD : Dt → Bool
  | .lst l => decide (l.length < 60) && smA l
  | .tup l => decide (l.length < 60) && smA l
  | _ => true
def smA : List Dt → Bool
  | [] => true
  | d :: l => smD d && smA l
end
theorem smA_mem : ∀ {l : List Dt} {d : Dt}, smA l = true → d ∈ l → smD d = true
  | x :: l, d, h, m => by
    unfold smA at h
    have h' := Bool.and_eq_true_iff.mp h
    rcases List.mem_cons.mp m with rfl | m
    · exact h'.1
    · exact smA_mem h'.2 m
theorem smD_row {d : Dt} {l : List Dt} (h : smD d = true) (e : rowD d = some l) : l.length < 60 ∧ smA l = true := by
  cases d with
  | lst m =>
    cases e
    unfold smD at h
    have h' := Bool.and_eq_true_iff.mp h
    exact ⟨of_decide_eq_true h'.1, h'.2⟩
  | tup m =>
    cases e
    unfold smD at h
    have h' := Bool.and_eq_true_iff.mp h
    exact ⟨of_decide_eq_true h'.1, h'.2⟩
  | _ => cases e
theorem smD_tup {l : List Dt} (h : smD (.tup l) = true) : l.length < 60 ∧ smA l = true := smD_row h rfl
/-! ### pairs -/
def kP (p : Str × Str) : List Str := [p.1, p.2]
def kKP (p : Str × Str) : List Key := [Sum.inr p.1, Sum.inr p.2]
def leP (r s : Str × Str) : Bool := leS (kP r) (kP s)
theorem kP_inj {r s : Str × Str} (h : kP r = kP s) : r = s := by
  obtain ⟨a, b⟩ := r
  obtain ⟨x, y⟩ := s
  simp [kP] at h
  obtain ⟨rfl, rfl⟩ := h
  rfl
theorem leP_anti {r s : Str × Str} (h1 : leP r s = true) (h2 : leP s r = true) : r = s := kP_inj (leS_anti h1 h2)
theorem leP_total (r s : Str × Str) : leP r s = true ∨ leP s r = true := by
  have := leS_total.total (kP r) (kP s)
  simpa [leP] using this
theorem leP_trans {a b c : Str × Str} (h1 : leP a b = true) (h2 : leP b c = true) : leP a c = true := leS_total.trans _ _ _ h1 h2
/-- pairs in order -/
def srtP (l : List (Str × Str)) : List (Str × Str) := l.mergeSort leP
theorem srtP_pw (l : List (Str × Str)) : (srtP l).Pairwise fun a b => leP a b = true :=
  List.pairwise_mergeSort (le := leP) (fun _ _ _ => leP_trans) (fun (a b : Str × Str) => by have z := leP_total a b; rw [Bool.or_eq_true]; exact z) _
theorem srtP_perm (l : List (Str × Str)) : (srtP l).Perm l := List.mergeSort_perm _ _
theorem srtP_is {l m : List (Str × Str)} (h : m.Perm l) (pw : m.Pairwise fun a b => leP a b = true) : m = srtP l := sorted_one leP_anti pw (srtP_pw l) (h.trans (srtP_perm l).symm)
theorem srtP_congr {l m : List (Str × Str)} (h : l.Perm m) : srtP l = srtP m := srtP_is ((srtP_perm l).trans h) (srtP_pw l)
def unP (k : List Key) : Str × Str := match k with
  | [.inr a, .inr b] => (a, b)
  | _ => (Str.ofString "", Str.ofString "")
theorem unP_kK (r : Str × Str) : unP (kKP r) = r := rfl
theorem unK_kKP (r : Str × Str) : unK (kKP r) = kP r := rfl
theorem kKP_inj {r s : Str × Str} (h : kKP r = kKP s) : r = s := by rw [← unP_kK r, h, unP_kK]
/-- the pairs of a list of groups -/
def prsD (l : List Dt) : List (Str × Str) := l.filterMap fun d => match d with
  | .tup [.str a, .str b] => some (a, b)
  | _ => none
theorem grp2 {d : Dt} (h : grpD 2 d = true) : ∃ a b, d = .tup [.str a, .str b] ∧ wordOk 8 a = true ∧ wordOk 8 b = true := by
  cases d with
  | tup l =>
    unfold grpD at h
    obtain ⟨h1, h2⟩ := Bool.and_eq_true_iff.mp h
    have h1' := of_decide_eq_true h1
    match l, h1', h2 with
    | [x, y], _, h2 =>
      have hx : wordD 8 x = true := List.all_eq_true.mp h2 x (by simp)
      have hy : wordD 8 y = true := List.all_eq_true.mp h2 y (by simp)
      cases x with
      | str a =>
        cases y with
        | str b => exact ⟨a, b, rfl, hx, hy⟩
        | _ => cases hy
      | _ => cases hx
    | [], h1', _ => simp at h1'
    | [_], h1', _ => simp at h1'
    | _ :: _ :: _ :: _, h1', _ => simp at h1'; omega
  | _ => cases h
theorem prs_of : ∀ {l : List Dt}, l.all (grpD 2) = true → l = (prsD l).map dtP
  | [], _ => rfl
  | d :: l, h => by
    rw [List.all_cons, Bool.and_eq_true] at h
    obtain ⟨a, b, rfl, _⟩ := grp2 h.1
    have ih := prs_of h.2
    have e : prsD (Dt.tup [.str a, .str b] :: l) = (a, b) :: prsD l := rfl
    rw [e, List.map_cons, ← ih]
    rfl
def okP (l : List Dt) : Bool := decide (1 ≤ l.length) && decide (l.length ≤ 9) && l.all (grpD 2) && decide (prsD l).Nodup
def pairsD (d : Dt) : Option (List (Str × Str)) := match rowD d with
  | some l => if okP l = true then some (srtP (prsD l)) else none
  | none => none
theorem pairsD_row {d : Dt} {l : List Dt} (e : rowD d = some l) : pairsD d = if okP l = true then some (srtP (prsD l)) else none := by
  unfold pairsD
  rw [e]
section
variable {K : PySem.W.Frag} {H : Hp}
def lenP (p : Str × Str) : Prop := p.1.length ≤ 1000 ∧ p.2.length ≤ 1000
theorem pair_kt : ∀ {xs : List V} {ps : List (Str × Str)}, DaAll K H xs (ps.map dtP) → ∃ ks : List KT, xs = ks.map (fun p => V.ref p.1) ∧ ks.map (·.2) = ps.map kKP ∧ (∀ p ∈ ks, H p.1 = some (.tup (p.2.map kV))) ∧ ∀ r ∈ ps, lenP r
  | _, [], .nil => ⟨[], rfl, rfl, fun p hp => (List.not_mem_nil hp).elim, fun r hr => (List.not_mem_nil hr).elim⟩
  | _, r :: ps, .cons h t => by
    obtain ⟨ks, e1, e2, e3, e4⟩ := pair_kt t
    cases h with
    | @tup a ys _ hq hl =>
      cases hl with
      | cons h1 hl =>
      cases hl with
      | cons h2 hl =>
      cases hl
      cases h1 with
      | str _ l1 =>
      cases h2 with
      | str _ l2 =>
      refine ⟨(a, kKP r) :: ks, by rw [e1]; rfl, by rw [List.map_cons, List.map_cons, e2], fun p hp => ?_, fun s hs => ?_⟩
      · rcases List.mem_cons.mp hp with rfl | hp
        · exact hq
        · exact e3 p hp
      · rcases List.mem_cons.mp hs with rfl | hs
        · exact ⟨l1, l2⟩
        · exact e4 s hs
theorem da_pair {a : Addr} {r : Str × Str} (h : H a = some (.tup ((kKP r).map kV))) (l : lenP r) : Da K H (.ref a) (dtP r) := .tup h (.cons (.str _ l.1) (.cons (.str _ l.2) .nil))
theorem kt_pair : ∀ {M : List KT} , (∀ q ∈ M, ∃ r, q.2 = kKP r ∧ lenP r ∧ H q.1 = some (.tup (q.2.map kV))) → DaAll K H (M.map fun q => V.ref q.1) ((M.map fun q => unP q.2).map dtP)
  | [], _ => .nil
  | q :: M, h => by
    obtain ⟨r, e, l, hq⟩ := h q List.mem_cons_self
    refine .cons ?_ (kt_pair fun p hp => h p (List.mem_cons_of_mem _ hp))
    show Da K H (V.ref q.1) (dtP (unP q.2))
    rw [e] at hq
    rw [e, unP_kK]
    exact da_pair hq l
theorem nodup_of {α : Type} [DecidableEq α] : ∀ {l m : List α}, m.Nodup → (∀ x ∈ m, x ∈ l) → l.length ≤ m.length → l.Nodup
  | [], _, _, _, _ => List.nodup_nil
  | x :: l, m, nd, sub, len => by
    have hx : x ∉ l := fun h => by
      have := nd.length_le_of_subset (l₂ := l) fun y hy => by
        rcases List.mem_cons.mp (sub y hy) with rfl | h2
        · exact h
        · exact h2
      rw [List.length_cons] at len
      omega
    refine List.nodup_cons.mpr ⟨hx, nodup_of (m := m.erase x) (nd.erase x) (fun y hy => ?_) ?_⟩
    · have hy2 := (nd.mem_erase_iff.mp hy)
      exact (List.mem_cons.mp (sub y hy2.2)).resolve_left hy2.1
    · rw [List.length_cons] at len
      have := List.le_length_erase (l := m) (a := x)
      omega
/-- len(set(x)) of pairs -/
theorem setP_read {P : Program} {w : World} {a : Addr} {xs : List V} {ps : List (Str × Str)} {Q : VK} (hx : SqL K H a xs ∨ SqT K H a xs) (da : DaAll K H xs (ps.map dtP)) (few : ps.length < 60)
    (q : ∀ S L, H S = none → (decide ((L.length : Int) < (ps.length : Int)) = !decide ps.Nodup) → Q (.ref S) (upd H S (SetKO P w S L))) : rSetT K P w [.ref a] H Q := by
  obtain ⟨ks, rfl, e2, e3, e4⟩ := pair_kt da
  have lk : ks.length = ps.length := by
    have := congrArg List.length e2
    rwa [List.length_map, List.length_map] at this
  refine ⟨a, ks, rfl, hx, fun p hp => .inl (.inl (e3 p hp)), by omega, fun S L hS sub cov nd => q S L hS ?_⟩
  have nk : (ks.map (·.2)).Nodup ↔ ps.Nodup := by
    rw [e2]
    constructor
    · exact fun h => nodup_map h
    · exact fun h => List.pairwise_map.mpr (h.imp fun ne e => ne (kKP_inj e))
  have l1 : L.length ≤ ks.length := by
    have := nd.length_le_of_subset (l₂ := ks.map (·.2)) fun y hy => by
      obtain ⟨p, hp, rfl⟩ := List.mem_map.mp hy
      exact List.mem_map.mpr ⟨p, sub p hp, rfl⟩
    rwa [List.length_map, List.length_map] at this
  rw [← lk]
  by_cases h : ps.Nodup
  · have h' := nk.mpr h
    have := h'.length_le_of_subset (l₂ := L.map (·.2)) fun y hy => by
      obtain ⟨p, hp, rfl⟩ := List.mem_map.mp hy
      exact cov p hp
    rw [List.length_map, List.length_map] at this
    rw [decide_eq_true h, decide_eq_false (by omega)]
    rfl
  · rw [decide_eq_false h, decide_eq_true]
    · rfl
    · by_cases g : L.length = ks.length
      · exfalso
        apply h
        apply nk.mp
        exact nodup_of nd (fun y hy => by
          obtain ⟨p, hp, rfl⟩ := List.mem_map.mp hy
          exact List.mem_map.mpr ⟨p, sub p hp, rfl⟩) (by rw [List.length_map, List.length_map]; omega)
      · omega
/-- sorted(x) of pairs -/
theorem sortP_read {a : Addr} {xs : List V} {ps : List (Str × Str)} {Q : VK} (hx : SqL K H a xs ∨ SqT K H a xs) (da : DaAll K H xs (ps.map dtP))
    (q : ∀ p ys, H p = none → DaAll K (upd H p (.lst ys)) ys ((srtP ps).map dtP) → Q (.ref p) (upd H p (.lst ys))) : rSortR K [.ref a] H Q := by
  obtain ⟨ks, rfl, e2, e3, e4⟩ := pair_kt da
  have ofK : ∀ p ∈ ks, ∃ r ∈ ps, p.2 = kKP r := fun p hp => by
    have m : p.2 ∈ ps.map kKP := by
      rw [← e2]
      exact List.mem_map.mpr ⟨p, hp, rfl⟩
    obtain ⟨r, hr, e⟩ := List.mem_map.mp m
    exact ⟨r, hr, e.symm⟩
  refine ⟨a, ks, 1, rfl, hx, fun p hp => .inl (.inl (e3 p hp)), fun p hp => ?_, fun M p pm pw hp => ?_⟩
  · obtain ⟨r, _, e⟩ := ofK p hp
    exact ⟨kP r, e, rfl⟩
  have s2 : Same H (upd H p (.lst (M.map fun q => V.ref q.1))) := Same.fresh (Same.refl _) hp
  have inM : ∀ q ∈ M, ∃ r ∈ ps, q.2 = kKP r ∧ H q.1 = some (.tup (q.2.map kV)) := fun q hq => by
    have hk := pm.mem_iff.mp hq
    obtain ⟨r, hr, e⟩ := ofK q hk
    exact ⟨r, hr, e, e3 q hk⟩
  have e6 : ks.map (fun q => unP q.2) = ps := by
    have := congrArg (List.map unP) e2
    rw [List.map_map, List.map_map] at this
    have e7 : ps.map (unP ∘ kKP) = ps := by
      conv => rhs; rw [← List.map_id ps]
      rfl
    rw [e7] at this
    exact this
  have pm2 : (M.map fun q => unP q.2).Perm ps := by
    have := pm.map fun q => unP q.2
    rw [e6] at this
    exact this
  have e5 : (M.map fun q => unP q.2) = srtP ps := by
    refine srtP_is pm2 ?_
    refine List.pairwise_map.mpr (List.Pairwise.imp_of_mem (fun {q r} hq hr le => ?_) pw)
    obtain ⟨a1, _, ea, _⟩ := inM q hq
    obtain ⟨b1, _, eb, _⟩ := inM r hr
    rw [ea, eb, unK_kKP, unK_kKP] at le
    rw [ea, eb, unP_kK, unP_kK]
    exact le
  refine q p _ hp ?_
  rw [← e5]
  refine kt_pair fun q hq => ?_
  obtain ⟨r, hr, e, hs⟩ := inM q hq
  exact ⟨r, e, e4 r hr, s2 _ _ hs⟩
end
def spPP (K : PySem.W.Frag) : Sp := fun vs H Q _ => ∃ (v : V) (d : Dt), vs = [v] ∧ Da K H v d ∧ smD d = true ∧ (pairsD d = none → ∀ H', Same H H' → Q .non H') ∧ ∀ ps, pairsD d = some ps → ∀ v H', Same H H' → Da K H' v (.tup (ps.map dtP)) → Q v H'
structure TxtP (K : PySem.W.Frag) (mg : Str → Option Value) (fR fG : Addr) : Prop where
  g : TxtG mg
  gR : mg "is_row" = some (.ref fR)
  kR : PySem.W.keepIn K (.ref fR) = true
  gG : mg "is_group" = some (.ref fG)
  kG : PySem.W.keepIn K (.ref fG) = true
  m9 : ∃ u, mg "MOST_IN_ONE" = some u ∧ RelV (.int 9) u
section
variable {P : Program} {w : World} {K : PySem.W.Frag} {mg : Str → Option Value} {base : Heap} {f fR fG : Addr} {fd fdR fdG : FuncData}
theorem scPP : FnScope ["pairs", "pair"] ["pairs"] (defScope sPlainPairs) := ⟨rfl, rfl, rfl, by decide +kernel, rfl, by decide +kernel, by decide +kernel⟩
theorem ok_plain_pairs (F : Fun K "plain_pairs" "plain_pairs" sPlainPairs f fd) (T : TxtP K mg fR fG)
    (GR : FnOk P w K mg base CX0 1 fR fdR ["value"] (spIsRow K)) (bR : Binds K fdR ["value"] []) (GG : FnOk P w K mg base CX0 2 fG fdG ["value", "many"] (spIsGroup K)) (bG : Binds K fdG ["value", "many"] []) :
    FnOk P w K mg base CX0 3 f fd ["pairs"] (spPP K) := by
  obtain ⟨u9, g9, r9⟩ := T.m9
  refine F.ok scPP (fun vs H Q E h => ?_) (fun cdv A outer s H vs Q E hr h => ?_)
  · obtain ⟨v, d, rfl, _⟩ := h
    rfl
  · obtain ⟨v, d, rfl, da, sm, q0, q1⟩ := h
    refine ⟨_, pss_cons (ps_if (PW.pt (pw_or (pt_not (pt_val (pe_call GR (hr.mono (by decide)) (by rfl) T.gR T.kR bR .nil pass0 (pa_cons (pv 0) pa_nil))))
        (pw_or1 (pt_not (pt_chain op_le op_le pe_int (pe_callB call_len_seq (by rfl) T.g.f.len PySem.boot_len (pa_cons (pv 0) pa_nil)) (pe_glob (v := .int 9) (by rfl) g9 r9)))))) (pss_one (ps_ret pe_non)) pss_nil)
      (pss_cons (ps_if (PW.pt (pw_or (pt_not (pt_val (pe_callB (cr_all rfl) (by rfl) T.g.f.all (by decide +kernel) (pa_cons
          (pe_lc (own := [("pair", 1)]) (g := gName 1) (tt := tYes) (te := tCall (spIsGroup K) [] E (tCons (tVar 1) (tCons (tC (.int 2)) tNil))) rfl scPP.nd (pi_seq (pv 0)) (blkOk_by (N := ["pairs", "pair"]) (sc := defScope sPlainPairs) (by decide +kernel))
            (fun _ _ _ _ _ => pg_name (i := 1) scPP.nd rfl (Or.inl rfl)) (fun _ _ _ _ _ => pts_nil)
            (fun _ _ _ _ _ => pe_call GG hr (by rfl) T.gG T.kG bG .nil pass0 (pa_cons (pv 1) (pa_cons pe_int pa_nil)))) pa_nil))))
        (pw_or1 (pt_cmpR op_lt (pe_callB cr_lenT (by rfl) T.g.f.len PySem.boot_len (pa_cons (pe_callTy (cr_setT rfl hr.units) (by rfl) T.g.f.set (by decide +kernel) (pa_cons (pv 0) pa_nil)) pa_nil))
          (pe_callB call_len_seq (by rfl) T.g.f.len PySem.boot_len (pa_cons (pv 0) pa_nil)) (nomark _))))) (pss_one (ps_ret pe_non)) pss_nil)
      (pss_one (ps_ret (pe_callTy call_tuple_of (by rfl) T.g.f.tuple (by decide +kernel) (pa_cons (pe_callB (cr_sortR hr.units) (by rfl) T.g.f.sorted (by decide +kernel) (pa_cons (pv 0) pa_nil)) pa_nil))))), ?_⟩
    refine ⟨_, rfl, v, tyOf d, (rowD d).isSome, rfl, da.ty, kit_row K d, fun H1 s1 => ⟨_, rfl, ?_⟩⟩
    cases er : rowD d with
    | none =>
      refine iteT (iteT (q0 ?_ H1 s1))
      unfold pairsD
      rw [er]
    | some l =>
      refine iteF ?_
      obtain ⟨few, sml⟩ := smD_row sm er
      obtain ⟨b, a, xs, rfl, hx, hl⟩ := da.row er
      have hx1 := hx.same s1
      have hl1 := hl.same s1
      have lx := hl.len
      have no : okP l = false → pairsD d = none := fun h => by rw [pairsD_row er, h]; rfl
      refine ⟨_, rfl, a, xs, rfl, hx1.either, _, _, rfl, rfl, _, rfl, ?_⟩
      refine ite2 (fun c1 => ?_) (fun c1 => ?_)
      · have c1' : (1 : Int) ≤ (xs.length : Int) := of_decide_eq_true c1
        refine ⟨_, _, rfl, rfl, _, rfl, ?_⟩
        by_cases c2 : (xs.length : Int) ≤ 9
        · refine iteNS c2 ?_
          have h1 : decide (1 ≤ l.length) = true := decide_eq_true (by omega)
          have h2 : decide (l.length ≤ 9) = true := decide_eq_true (by omega)
          refine ⟨_, rfl, b, a, xs, rfl, hx1, fun J wk D hD => lcX wk hD (fun i acc H => acc = ((l.take i).map (grpD 2)).map V.bl) (by rw [sizeLine_eq]; omega) (fun _ _ _ _ r _ => r) (by simp) (fun H2 s2 => hx1.same s2) ?_ ?_⟩
          · intro i x H2 acc hi ex s2 e r Nx yes no
            obtain ⟨dx, ed, dax⟩ := hl1.at ex
            have up : l.take (i + 1) = l.take i ++ [dx] := take_up ed
            have smx := smA_mem sml (List.mem_of_getElem? ed)
            refine ⟨rfl, tYes_ok ?_⟩
            refine ⟨_, rfl, x, dx, 2, rfl, Da.same s2 dax, fun l2 e2 => ?_, fun H3 s3 => yes _ _ s3 ?_⟩
            · rw [e2] at smx
              have := (smD_tup smx).1
              omega
            · rw [r, up]
              simp
          · intro H2 acc s2 e r
            rw [lx, List.take_length] at r
            subst r
            have s3 := s1.trans s2
            refine ⟨D, l.map (grpD 2), rfl, SqL.of e, _, rfl, ?_⟩
            rw [show (l.map (grpD 2)).all id = l.all (grpD 2) by rw [List.all_map]; rfl]
            cases h3 : l.all (grpD 2) with
            | false =>
              refine iteT (q0 (no ?_) H2 s3)
              unfold okP
              rw [h3, Bool.and_false, Bool.false_and]
            | true =>
              have el := prs_of h3
              have hl2 := hl.same s3
              rw [el] at hl2
              have lp : (prsD l).length = l.length := by
                have := congrArg List.length el
                rw [List.length_map] at this
                exact this.symm
              refine iteF ⟨_, rfl, ?_⟩
              dsimp only [tNil]
              refine setP_read (P := P) (w := w) (hx1.same s2).either hl2 (by omega) fun S L hS hL => ?_
              have s4 : Same H2 (upd H2 S (SetKO P w S L)) := Same.fresh (Same.refl _) hS
              refine ⟨S, L, rfl, upd_same, _, rfl, a, xs, rfl, ((hx1.same s2).same s4).either, _, _, rfl, rfl, ?_⟩
              refine ⟨_, rfl, ?_⟩
              have lxp : (xs.length : Int) = ((prsD l).length : Int) := by omega
              rw [lxp, hL]
              cases h4 : decide (prsD l).Nodup with
              | false =>
                refine iteT (q0 (no ?_) _ (s3.trans s4))
                unfold okP
                rw [h4, Bool.and_false]
              | true =>
                refine iteF ?_
                have ok : okP l = true := by
                  unfold okP
                  rw [h1, h2, h3, h4]
                  rfl
                refine ⟨_, rfl, ?_⟩
                dsimp only [tNil]
                refine sortP_read ((hx1.same s2).same s4).either (hl2.same s4) fun p ys hp dys => ?_
                have s5 : Same (upd H2 S (SetKO P w S L)) (upd (upd H2 S (SetKO P w S L)) p (.lst ys)) := Same.fresh (Same.refl _) hp
                refine ⟨p, ys, rfl, .inl ⟨.inl (.inl upd_same), fun t ht => ?_⟩⟩
                have s6 := Same.fresh (o := .tup ys) (Same.refl (upd (upd H2 S (SetKO P w S L)) p (.lst ys))) ht
                refine q1 _ ?_ _ _ ((s3.trans s4).trans (s5.trans s6)) (.tup upd_same (dys.same s6))
                rw [pairsD_row er, ok]
                rfl
        · have h2 : decide (l.length ≤ 9) = false := decide_eq_false (by omega)
          rw [decide_eq_false c2]
          refine iteT (q0 (no ?_) H1 s1)
          unfold okP
          rw [h2, Bool.and_false]
          rfl
      · have h1 : decide (1 ≤ l.length) = false := decide_eq_false fun h => c1 (decide_eq_true (by omega))
        refine ⟨_, rfl, iteT (q0 (no ?_) H1 s1)⟩
        unfold okP
        rw [h1]
        rfl
end
end K
set_option Elab.async false
set_option linter.all false
set_option maxRecDepth 100000
set_option maxHeartbeats 4000000
/-! plain_rule. -/
namespace K
open PySem L2 Hk PyProof.Rows
def lD (d : Dt) : List Dt := (rowD d).getD []
def sD (d : Dt) : List Str := strsD (lD d)
/-- a value that are_words takes -/
theorem words_facts {K : PySem.W.Frag} {H : Hp} {v : V} {d : Dt} (h : Da K H v d) (w : wordsD 8 d = true) : ∃ b a, v = .ref a ∧ SqX K H b a ((sD d).map V.str) ∧ (∀ x ∈ sD d, x.length ≤ 1000) ∧ rowD d = some ((sD d).map Dt.str) ∧ (sD d).Nodup := by
  unfold wordsD at w
  cases er : rowD d with
  | none => rw [er] at w; cases w
  | some l =>
    rw [er] at w
    simp only [Bool.and_eq_true, decide_eq_true_eq] at w
    have el := strs_of w.1
    have es : sD d = strsD l := by unfold sD lD; rw [er]; rfl
    obtain ⟨b, a, xs, rfl, hx, hl⟩ := h.row er
    rw [es]
    rw [el] at hl
    have ex := hl.strs
    subst ex
    refine ⟨b, a, rfl, hx, fun x hx => ?_, by rw [← el], w.2⟩
    obtain ⟨i, hi, ei⟩ := List.getElem_of_mem hx
    obtain ⟨d0, e0, da0⟩ := hl.at (i := i) (x := .str x) (by rw [List.getElem?_map, List.getElem?_eq_getElem hi, ei]; rfl)
    rw [List.getElem?_map, List.getElem?_eq_getElem hi, ei] at e0
    cases e0
    cases da0 with
    | str _ hz => exact hz
def okW (d : Dt) : Bool := wordsD 8 d && (decide (1 ≤ (sD d).length) && decide ((sD d).length ≤ 9))
def hdW : List Dt → Bool
  | x :: _ => wordD 8 x
  | [] => false
def plainT (k : Str) (rest : List Dt) : Option Rl :=
  if k = "make" ∧ rest.length = 1 then
    match rest with
    | [d] => if okW d = true then some (.mk ((sD d).mergeSort leT)) else none
    | _ => none
  else if ftB k = true ∧ rest.length = 2 ∧ hdW rest = true then
    match rest with
    | [.str a, d] => (pairsD d).map fun ps => .ft (decide (k = "fetch")) a ps
    | _ => none
  else if k = "raise" ∧ grpD 2 (.tup rest) = true then
    match rest with
    | [.str a, .str b] => some (.rs a b)
    | _ => none
  else if k = "meet" ∧ grpD 3 (.tup rest) = true then
    match rest with
    | [.str a, .str b, .str c] => some (.mt a b c)
    | _ => none
  else none
/-- a rule as a policy keeps it -/
def plainD : Dt → Option Rl
  | .tup (.str k :: x :: rest) => plainT k (x :: rest)
  | _ => none
/-- a tuple's head is a text -/
def hdT : Dt → Bool
  | .tup (.str _ :: _) => true
  | .tup (_ :: _) => false
  | _ => true
theorem grp3 {d : Dt} (h : grpD 3 d = true) : ∃ a b c, d = .tup [.str a, .str b, .str c] ∧ wordOk 8 a = true ∧ wordOk 8 b = true ∧ wordOk 8 c = true := by
  cases d with
  | tup l =>
    unfold grpD at h
    obtain ⟨h1, h2⟩ := Bool.and_eq_true_iff.mp h
    have h1' := of_decide_eq_true h1
    match l, h1', h2 with
    | [x, y, z], _, h2 =>
      have hx : wordD 8 x = true := List.all_eq_true.mp h2 x (by simp)
      have hy : wordD 8 y = true := List.all_eq_true.mp h2 y (by simp)
      have hz : wordD 8 z = true := List.all_eq_true.mp h2 z (by simp)
      cases x with
      | str a =>
        cases y with
        | str b =>
          cases z with
          | str c => exact ⟨a, b, c, rfl, hx, hy, hz⟩
          | _ => cases hz
        | _ => cases hy
      | _ => cases hx
    | [], h1', _ => simp at h1'
    | [_], h1', _ => simp at h1'
    | [_, _], h1', _ => simp at h1'
    | _ :: _ :: _ :: _ :: _, h1', _ => simp at h1'; omega
  | _ => cases h
theorem knd_of {k : Str} (h : ftB k = true) : knd (decide (k = "fetch")) = k := by
  unfold ftB at h
  rw [Bool.or_eq_true, Bool.or_eq_true] at h
  rcases h with h | h | h
  · have e : k = "fetch" := by
      have : ("fetch" : Str) = k := by simpa [PyData.eqv] using h
      exact this.symm
    rw [e]
    decide +kernel
  · have e : k = "hand" := by
      have : ("hand" : Str) = k := by simpa [PyData.eqv] using h
      exact this.symm
    rw [e]
    decide +kernel
  · cases h
/-- t[1:] -/
theorem cut_group {K : PySem.W.Frag} {H : Hp} {ra : Addr} {hv : V} {ys : List V} {l : List Dt} {R : VK} (hra : H ra = some (.tup (hv :: ys))) (hys : DaAll K H ys l) (q : ∀ v H', Same H H' → Da K H' v (.tup l) → R v H') : rSlA K (.ref ra) (some 1) none H R := by
  refine ⟨ra, _, rfl, .inl (.inl hra), fun ⟨h, _⟩ => ?_, fun _ p hp => ?_⟩
  · rw [show HT.sIx (hv :: ys).length 0 (some 1) = min 1 (hv :: ys).length from HT.sIx_nat _ 0 1, List.length_cons] at h
    omega
  · rw [cut_from1]
    exact q _ _ (Same.fresh (Same.refl _) hp) (.tup upd_same (hys.same (Same.fresh (Same.refl _) hp)))
def spPR (K : PySem.W.Frag) : Sp := fun vs H Q _ => ∃ (v : V) (d : Dt), vs = [v] ∧ Da K H v d ∧ smD d = true ∧ hdT d = true ∧ (plainD d = none → ∀ H', Same H H' → Q .non H') ∧ ∀ r, plainD d = some r → ∀ v H', Same H H' → Da K H' v (dtL r) → Q v H'
structure TxtPR (K : PySem.W.Frag) (mg : Str → Option Value) (fAW fW fPP fG : Addr) : Prop where
  g : TxtG mg
  gAW : mg "are_words" = some (.ref fAW)
  kAW : PySem.W.keepIn K (.ref fAW) = true
  gW : mg "is_word" = some (.ref fW)
  kW : PySem.W.keepIn K (.ref fW) = true
  gPP : mg "plain_pairs" = some (.ref fPP)
  kPP : PySem.W.keepIn K (.ref fPP) = true
  gG : mg "is_group" = some (.ref fG)
  kG : PySem.W.keepIn K (.ref fG) = true
  m9 : ∃ u, mg "MOST_IN_ONE" = some u ∧ RelV (.int 9) u
section
variable {P : Program} {w : World} {K : PySem.W.Frag} {mg : Str → Option Value} {base : Heap} {f fAW fW fPP fG : Addr} {fd fdAW fdW fdPP fdG : FuncData} {ds ds2 : List Value}
abbrev nPR : List Str := ["rule", "kind", "fits", "pairs"]
theorem scPR : FnScope nPR ["rule"] (defScope sPlainRule) := ⟨rfl, rfl, rfl, by decide +kernel, rfl, by decide +kernel, by decide +kernel⟩
theorem ok_plain_rule (F : Fun K "plain_rule" "plain_rule" sPlainRule f fd) (T : TxtPR K mg fAW fW fPP fG)
    (GAW : FnOk P w K mg base CX0 2 fAW fdAW ["value", "longest"] (spAreWords K)) (bAW : Binds K fdAW ["value", "longest"] ds) (vAW : Vals [.int 8] ds)
    (GW : FnOk P w K mg base CX0 1 fW fdW ["value", "longest"] (spIsWord K)) (bW : Binds K fdW ["value", "longest"] ds2) (vW : Vals [.int 8] ds2)
    (GPP : FnOk P w K mg base CX0 3 fPP fdPP ["pairs"] (spPP K)) (bPP : Binds K fdPP ["pairs"] []) (GG : FnOk P w K mg base CX0 2 fG fdG ["value", "many"] (spIsGroup K)) (bG : Binds K fdG ["value", "many"] []) :
    FnOk P w K mg base CX0 4 f fd ["rule"] (spPR K) := by
  obtain ⟨u9, g9, r9⟩ := T.m9
  refine F.ok scPR (fun vs H Q E h => ?_) (fun cdv A outer s H vs Q E hr h => ?_)
  · obtain ⟨v, d, rfl, _⟩ := h
    rfl
  · obtain ⟨v, d, rfl, da, sm, hd, q0, q1⟩ := h
    have hr2 := hr.mono (show 2 ≤ 3 by decide)
    have hr1 := hr.mono (show 1 ≤ 3 by decide)
    refine ⟨_, pss_cons (ps_if (PW.pt (pw_or (pt_not (pt_val (pe_callB call_isi (by rfl) T.g.f.isi (by decide +kernel) (pa_cons (pv 0) (pa_cons (pe_bltn (v := .ty "tuple") (by rfl) T.g.f.tuple (by decide +kernel) rfl) pa_nil)))))
        (pw_or1 (pt_cmpR op_lt (pe_callB call_len_seq (by rfl) T.g.f.len PySem.boot_len (pa_cons (pv 0) pa_nil)) pe_int (nomark _))))) (pss_one (ps_ret pe_non)) pss_nil)
      (pss_cons (ps_set (i := 1) scPR.nd rfl (Or.inl rfl) (pe_ix ix_tup (pv 0) pe_int (fun _ _ => rfl)))
      (pss_cons (ps_if (PW.pt (pw_and (pt_cmpR op_eq (pv 1) pe_str (nomark _)) (pw_and1 (pt_cmpR op_eq (pe_callB call_len_seq (by rfl) T.g.f.len PySem.boot_len (pa_cons (pv 0) pa_nil)) pe_int (nomark _)))))
        (pss_cons (ps_set (i := 2) scPR.nd rfl (Or.inl rfl) (pe_and (pe_call GAW hr2 (by rfl) T.gAW T.kAW bAW vAW pass0 (pa_cons (pe_ix ix_tup (pv 0) pe_int (fun _ _ => rfl)) pa_nil))
            (pe_one (pe_chain op_le op_le pe_int (pe_callB call_len_seq (by rfl) T.g.f.len PySem.boot_len (pa_cons (pe_ix ix_tup (pv 0) pe_int (fun _ _ => rfl)) pa_nil)) (pe_glob (v := .int 9) (by rfl) g9 r9)))))
          (pss_one (ps_ret (pe_ifExp (pt_val (pv 2)) (pe_tup (pa_cons (pv 1) (pa_cons (pe_callTy call_tuple_of (by rfl) T.g.f.tuple (by decide +kernel) (pa_cons (pe_callB (cr_sortX hr.units) (by rfl) T.g.f.sorted (by decide +kernel) (pa_cons (pe_ix ix_tup (pv 0) pe_int (fun _ _ => rfl)) pa_nil)) pa_nil)) pa_nil))) pe_non)))) pss_nil)
      (pss_cons (ps_if (PW.pt (pw_and (pt_cmpR (op_inDT hr.units) (pv 1) (pe_tup (pa_cons pe_str (pa_cons pe_str pa_nil))) rfl) (pw_and (pt_cmpR op_eq (pe_callB call_len_seq (by rfl) T.g.f.len PySem.boot_len (pa_cons (pv 0) pa_nil)) pe_int (nomark _))
          (pw_and1 (pt_val (pe_call GW hr1 (by rfl) T.gW T.kW bW vW pass0 (pa_cons (pe_ix ix_tup (pv 0) pe_int (fun _ _ => rfl)) pa_nil)))))))
        (pss_cons (ps_set (i := 3) scPR.nd rfl (Or.inl rfl) (pe_call GPP hr (by rfl) T.gPP T.kPP bPP .nil pass0 (pa_cons (pe_ix ix_tup (pv 0) pe_int (fun _ _ => rfl)) pa_nil)))
          (pss_one (ps_ret (pe_ifExp (pt_cmp (pc_isN (pv 3))) pe_non (pe_tup (pa_cons (pv 1) (pa_cons (pe_ix ix_tup (pv 0) pe_int (fun _ _ => rfl)) (pa_cons (pv 3) pa_nil)))))))) pss_nil)
      (pss_cons (ps_if (PW.pt (pw_or (PW.pt (pw_and (pt_cmpR op_eq (pv 1) pe_str (nomark _)) (pw_and1 (pt_val (pe_call GG hr2 (by rfl) T.gG T.kG bG .nil pass0 (pa_cons (pe_slice sl_tupA (pv 0) (po_some pe_int) po_none) (pa_cons pe_int pa_nil)))))))
          (pw_or1 (PW.pt (pw_and (pt_cmpR op_eq (pv 1) pe_str (nomark _)) (pw_and1 (pt_val (pe_call GG hr2 (by rfl) T.gG T.kG bG .nil pass0 (pa_cons (pe_slice sl_tupA (pv 0) (po_some pe_int) po_none) (pa_cons pe_int pa_nil)))))))))) (pss_one (ps_ret (pv 0))) pss_nil)
      (pss_one (ps_ret pe_non)))))), ?_⟩
    by_cases ht : ∃ l, d = .tup l
    · obtain ⟨l, rfl⟩ := ht
      obtain ⟨few, sml⟩ := smD_tup sm
      refine ⟨_, rfl, v, .ty "tuple", _, .type "tuple", true, rfl, .ty "tuple", da.ty, kit_ty (show kitB "tuple" "tuple" = some true by decide +kernel), _, rfl, ?_⟩
      refine iteF ?_
      obtain ⟨a, xs, rfl, hx, hl⟩ := da.tupI
      have lx := hl.len
      refine ⟨_, rfl, a, xs, rfl, .inr hx, _, _, rfl, rfl, _, rfl, ?_⟩
      match l, few, sml, hd, q0, q1, da, hl, lx with
      | [], few, sml, hd, q0, q1, da, hl, lx =>
        rw [decide_eq_true (show (xs.length : Int) < 2 by rw [lx]; decide)]
        exact iteT (q0 rfl H (Same.refl _))
      | [y], few, sml, hd, q0, q1, da, hl, lx =>
        rw [decide_eq_true (show (xs.length : Int) < 2 by rw [lx]; exact show ((1 : Nat) : Int) < 2 by decide)]
        refine iteT (q0 ?_ H (Same.refl _))
        cases y <;> rfl
      | y :: z :: rest, few, sml, hd, q0, q1, da, hl, lx =>
        rw [decide_eq_false (show ¬ (xs.length : Int) < 2 by rw [lx]; simp only [List.length_cons]; omega)]
        refine iteF ?_
        cases y with
        | str k =>
          clear hx hl
          cases da with
          | @tup _ xs' _ hq hl =>
          cases hl with
          | @cons v1 vs1 d1 l1 hk hl =>
          cases hk with
          | str _ lk =>
          cases hl with
          | @cons zv vs _ _ hz hr' =>
          have pd : plainD (.tup (.str k :: z :: rest)) = plainT k (z :: rest) := rfl
          rw [pd] at q0 q1
          refine ⟨_, rfl, a, _, _, _, rfl, rfl, .inl (.inl hq), atI_nat (j := 0) rfl, ?_⟩
          refine ⟨_, rfl, rfl, _, rfl, ?_⟩
          have dk : ∀ y : Str, decide (V.str k = V.str y) = decide (k = y) := fun y => by rw [Bool.eq_iff_iff, decide_eq_true_eq, decide_eq_true_eq, V.str.injEq]
          rw [dk]
          have ln : (V.str k :: zv :: vs).length = rest.length + 2 := by
            have := hr'.len
            simp only [List.length_cons]
            omega
          by_cases km : k = "make"
          · rw [decide_eq_true km]
            refine iteT ?_
            refine ⟨_, rfl, a, _, rfl, .inr (.inl (.inl hq)), rfl, _, rfl, ?_⟩
            rw [ln]
            by_cases l0 : rest = []
            · subst l0
              cases hr'
              rw [decide_eq_true (show V.int ((([] : List Dt).length + 2 : Nat) : Int) = V.int 2 from rfl)]
              refine iteT ?_
              have pT : plainT k [z] = if okW z = true then some (.mk ((sD z).mergeSort leT)) else none := by
                unfold plainT
                rw [if_pos ⟨km, rfl⟩]
              have smz := smA_mem sml (List.mem_cons_of_mem _ List.mem_cons_self)
              have noW : okW z = false → plainT k [z] = none := fun h => by rw [pT, h]; rfl
              refine ⟨_, rfl, a, _, _, _, rfl, rfl, .inl (.inl hq), atI_nat (j := 1) rfl, zv, z, 8, rfl, hz, fun l2 e2 => by have := (smD_row smz e2).1; omega, fun H1 s1 => ⟨_, rfl, ?_⟩⟩
              cases w1 : wordsD 8 z with
              | false =>
                refine iteF ⟨_, rfl, _, rfl, iteF (q0 (noW ?_) H1 s1)⟩
                unfold okW
                rw [w1]
                rfl
              | true =>
                obtain ⟨b, c, rfl, hc, lc, rc, ndc⟩ := words_facts hz w1
                have few2 := (smD_row smz rc).1
                rw [List.length_map] at few2
                have hc1 := hc.same s1
                refine iteT ?_
                refine ⟨_, rfl, a, _, _, _, rfl, rfl, .inl (.inl (s1 _ _ hq)), atI_nat (j := 1) rfl, c, _, rfl, hc1.either, _, _, rfl, rfl, _, rfl, ?_⟩
                rw [List.length_map]
                by_cases c1 : 1 ≤ (sD z).length
                · rw [decide_eq_true (show (1 : Int) ≤ (((sD z).length : Nat) : Int) by omega)]
                  refine iteT ⟨_, _, rfl, rfl, _, rfl, _, rfl, ?_⟩
                  by_cases c2 : (sD z).length ≤ 9
                  · rw [decide_eq_true (show (((sD z).length : Nat) : Int) ≤ 9 by omega)]
                    refine iteT ?_
                    have ok : okW z = true := by
                      unfold okW
                      rw [w1, decide_eq_true c1, decide_eq_true c2]
                      rfl
                    refine ⟨_, rfl, _, rfl, a, _, _, _, rfl, rfl, .inl (.inl (s1 _ _ hq)), atI_nat (j := 1) rfl, c, sD z, rfl, hc1.either, fun p hp => ?_⟩
                    have s2 := Same.fresh (o := .lst (((sD z).mergeSort leT).map V.str)) s1 hp
                    refine ⟨p, _, rfl, .inl ⟨.inl (.inl upd_same), fun t ht => ⟨by rw [sizeLine_eq]; exact show (2 : Nat) ≤ 16777216 by omega, fun r hr => ?_⟩⟩⟩
                    have s3 := Same.fresh (o := .tup (((sD z).mergeSort leT).map V.str)) s2 ht
                    have ht1 : upd (upd H1 p (.lst (((sD z).mergeSort leT).map V.str))) t (.tup (((sD z).mergeSort leT).map V.str)) t = some (.tup (((sD z).mergeSort leT).map V.str)) := upd_same
                    generalize upd (upd H1 p (.lst (((sD z).mergeSort leT).map V.str))) t (.tup (((sD z).mergeSort leT).map V.str)) = H4 at s3 ht1 hr ⊢
                    have s4 := Same.fresh (o := .tup [.str k, .ref t]) (Same.refl H4) hr
                    refine q1 (.mk ((sD z).mergeSort leT)) (by rw [pT, ok]; rfl) _ _ (s3.trans s4) ?_
                    rw [km] at s4 ⊢
                    refine .tup upd_same (.cons (.str _ (by decide)) (.cons (.tup (s4 _ _ ht1) (DaAll.ofStrs fun x hx => lc x ((List.mergeSort_perm _ _).mem_iff.mp hx))) .nil))
                  · rw [decide_eq_false (show ¬ (((sD z).length : Nat) : Int) ≤ 9 by omega)]
                    refine iteF (q0 (noW ?_) H1 s1)
                    unfold okW
                    rw [decide_eq_false c2, Bool.and_false, Bool.and_false]
                · rw [decide_eq_false (show ¬ (1 : Int) ≤ (((sD z).length : Nat) : Int) by omega)]
                  refine iteF ?_
                  refine ⟨_, rfl, _, rfl, iteF (q0 (noW ?_) H1 s1)⟩
                  unfold okW
                  rw [decide_eq_false c1, Bool.false_and, Bool.and_false]
            · rw [decide_eq_false (show ¬ V.int ((rest.length + 2 : Nat) : Int) = V.int 2 by rw [V.int.injEq]; have := List.length_pos_iff.mpr l0; omega)]
              refine iteF ?_
              have kf : ftB k = false := by rw [km]; exact ftB_s.2.2.2.2
              have kr : k ≠ "raise" := by rw [km]; decide +kernel
              have ke : k ≠ "meet" := by rw [km]; decide +kernel
              have pN : plainT k (z :: rest) = none := by
                unfold plainT
                rw [if_neg (fun h => l0 (List.eq_nil_of_length_eq_zero (by have := h.2; rw [List.length_cons] at this; omega))), if_neg (fun h => by rw [kf] at h; cases h.1), if_neg (fun h => kr h.1), if_neg (fun h => ke h.1)]
              refine ⟨_, rfl, by rw [sizeLine_eq]; decide, fun p hp => ?_⟩
              have s1 : Same H (upd H p (.tup [.str "fetch", .str "hand"])) := Same.fresh (Same.refl _) hp
              refine ⟨p, [.str "fetch", .str "hand"], [.str "fetch", .str "hand"], .str k, rfl, .inl (.inl upd_same), .cons (.str _) (.cons (.str _) .nil), .str _, rfl, rfl, by show (0 : Nat) ≤ 60; omega, ?_⟩
              rw [show ((if false = true then !(List.any [PyData.str "fetch", PyData.str "hand"] fun e => PyData.eqv e (.str k)) else List.any [PyData.str "fetch", PyData.str "hand"] fun e => PyData.eqv e (.str k)) : Bool) = ftB k from rfl]
              generalize upd H p (.tup [.str "fetch", .str "hand"]) = H1 at s1
              clear hp
              rw [kf]
              refine ⟨_, rfl, iteF (iteF ?_)⟩

              refine ⟨_, rfl, rfl, _, rfl, ?_⟩
              rw [dk, decide_eq_false kr]
              refine iteF (iteF ?_)
              refine ⟨_, rfl, rfl, _, rfl, ?_⟩
              rw [dk, decide_eq_false ke]
              refine iteF (iteF ?_)
              exact q0 pN H1 s1
          · rw [decide_eq_false km]
            refine iteF (iteF ?_)
            refine ⟨_, rfl, by rw [sizeLine_eq]; decide, fun p hp => ?_⟩
            have s1 : Same H (upd H p (.tup [.str "fetch", .str "hand"])) := Same.fresh (Same.refl _) hp
            refine ⟨p, [.str "fetch", .str "hand"], [.str "fetch", .str "hand"], .str k, rfl, .inl (.inl upd_same), .cons (.str _) (.cons (.str _) .nil), .str _, rfl, rfl, by show (0 : Nat) ≤ 60; omega, ?_⟩
            rw [show ((if false = true then !(List.any [PyData.str "fetch", PyData.str "hand"] fun e => PyData.eqv e (.str k)) else List.any [PyData.str "fetch", PyData.str "hand"] fun e => PyData.eqv e (.str k)) : Bool) = ftB k from rfl]
            generalize upd H p (.tup [.str "fetch", .str "hand"]) = H1 at s1
            clear hp

            cases kf : ftB k with
            | false =>
              refine ⟨_, rfl, iteF (iteF ?_)⟩
              have hq1 := s1 _ _ hq
              have hy1 : DaAll K H1 (zv :: vs) (z :: rest) := .cons (hz.same s1) (hr'.same s1)
              refine ⟨_, rfl, rfl, _, rfl, ?_⟩
              rw [dk]
              by_cases kr : k = "raise"
              · rw [decide_eq_true kr]
                refine iteT ⟨_, rfl, _, rfl, ?_⟩
                dsimp only [tNoPart]
                refine cut_group hq1 hy1 fun v2 H2 s2 dv => ?_
                refine ⟨v2, _, 2, rfl, dv, fun l2 e2 => by cases e2; simp only [List.length_cons] at few ⊢; omega, fun H3 s3 => ⟨_, rfl, ?_⟩⟩
                have s13 := s1.trans (s2.trans s3)
                have ke : k ≠ "meet" := by rw [kr]; decide +kernel
                cases g : grpD 2 (.tup (z :: rest)) with
                | true =>
                  refine iteT (iteT ⟨_, rfl, ?_⟩)
                  obtain ⟨x1, x2, e, _, _⟩ := grp2 g
                  cases e
                  refine q1 (.rs x1 x2) ?_ _ _ s13 ?_
                  · unfold plainT
                    rw [if_neg (fun h => km h.1), if_neg (fun h => by rw [kf] at h; cases h.1), if_pos ⟨kr, g⟩]
                  · have z9 := Da.tup (s13 _ _ hq) (.cons (.str k lk) (DaAll.same (s2.trans s3) hy1))
                    rw [kr] at z9
                    exact z9
                | false =>
                  refine iteF ?_
                  refine ⟨_, rfl, rfl, _, rfl, ?_⟩
                  rw [dk, decide_eq_false ke]
                  refine iteF (iteF ?_)
                  refine q0 ?_ _ s13
                  unfold plainT
                  rw [if_neg (fun h => km h.1), if_neg (fun h => by rw [kf] at h; cases h.1), if_neg (fun h => by rw [g] at h; cases h.2), if_neg (fun h => ke h.1)]
              · rw [decide_eq_false kr]
                refine iteF (iteF ?_)
                refine ⟨_, rfl, rfl, _, rfl, ?_⟩
                rw [dk]
                by_cases ke : k = "meet"
                · rw [decide_eq_true ke]
                  refine iteT ⟨_, rfl, _, rfl, ?_⟩
                  dsimp only [tNoPart]
                  refine cut_group hq1 hy1 fun v2 H2 s2 dv => ?_
                  refine ⟨v2, _, 3, rfl, dv, fun l2 e2 => by cases e2; simp only [List.length_cons] at few ⊢; omega, fun H3 s3 => ⟨_, rfl, ?_⟩⟩
                  have s13 := s1.trans (s2.trans s3)
                  cases g : grpD 3 (.tup (z :: rest)) with
                  | true =>
                    refine iteT ⟨_, rfl, ?_⟩
                    obtain ⟨x1, x2, x3, e, _, _, _⟩ := grp3 g
                    cases e
                    refine q1 (.mt x1 x2 x3) ?_ _ _ s13 ?_
                    · unfold plainT
                      rw [if_neg (fun h => km h.1), if_neg (fun h => by rw [kf] at h; cases h.1), if_neg (fun h => kr h.1), if_pos ⟨ke, g⟩]
                    · have z9 := Da.tup (s13 _ _ hq) (.cons (.str k lk) (DaAll.same (s2.trans s3) hy1))
                      rw [ke] at z9
                      exact z9
                  | false =>
                    refine iteF ?_
                    refine q0 ?_ _ s13
                    unfold plainT
                    rw [if_neg (fun h => km h.1), if_neg (fun h => by rw [kf] at h; cases h.1), if_neg (fun h => kr h.1), if_neg (fun h => by rw [g] at h; cases h.2)]
                · rw [decide_eq_false ke]
                  refine iteF (iteF ?_)
                  refine q0 ?_ _ s1
                  unfold plainT
                  rw [if_neg (fun h => km h.1), if_neg (fun h => by rw [kf] at h; cases h.1), if_neg (fun h => kr h.1), if_neg (fun h => ke h.1)]
            | true =>
              have kr : k ≠ "raise" := fun e => by rw [e, ftB_s.2.2.1] at kf; cases kf
              have ke : k ≠ "meet" := fun e => by rw [e, ftB_s.2.2.2.1] at kf; cases kf
              refine ⟨_, rfl, iteT ?_⟩
              refine ⟨_, rfl, a, _, rfl, .inr (.inl (.inl (s1 _ _ hq))), rfl, _, rfl, ?_⟩
              rw [ln]
              by_cases l1 : rest.length = 1
              · rw [decide_eq_true (show V.int ((rest.length + 2 : Nat) : Int) = V.int 3 by rw [l1]; rfl)]
                refine iteT ?_
                obtain ⟨z2, rfl⟩ := List.length_eq_one_iff.mp l1
                cases hr' with
                | @cons zv2 vs2 _ _ hz2 hn =>
                cases hn
                have noW : wordD 8 z = false → plainT k [z, z2] = none := fun h => by
                  unfold plainT
                  rw [if_neg (fun h => km h.1), if_neg (fun h2 => by have h3 : wordD 8 z = true := h2.2.2; rw [h] at h3; cases h3), if_neg (fun h => kr h.1), if_neg (fun h => ke h.1)]
                have sm2 := smA_mem sml (List.mem_cons_of_mem _ (List.mem_cons_of_mem _ List.mem_cons_self))
                refine ⟨_, rfl, a, _, _, _, rfl, rfl, .inl (.inl (s1 _ _ hq)), atI_nat (j := 1) rfl, zv, 8, rfl, ?_⟩
                by_cases sz : ∃ s, z = .str s
                · obtain ⟨s, rfl⟩ := sz
                  cases hz with
                  | str _ ls =>
                  refine .inl ⟨s, rfl, by rw [sizeLine_eq]; omega, _, rfl, ?_⟩
                  cases ws : wordOk 8 s with
                  | false =>
                    have pN := noW ws
                    refine iteF ?_
                    refine ⟨_, rfl, rfl, _, rfl, ?_⟩
                    rw [dk, decide_eq_false kr]
                    refine iteF (iteF ?_)
                    refine ⟨_, rfl, rfl, _, rfl, ?_⟩
                    rw [dk, decide_eq_false ke]
                    refine iteF (iteF ?_)
                    exact q0 pN H1 s1
                  | true =>
                    refine iteT ?_
                    have pT : plainT k [.str s, z2] = (pairsD z2).map fun ps => .ft (decide (k = "fetch")) s ps := by
                      unfold plainT
                      rw [if_neg (fun h => km h.1), if_pos ⟨kf, rfl, ws⟩]
                    refine ⟨_, rfl, a, _, _, _, rfl, rfl, .inl (.inl (s1 _ _ hq)), atI_nat (j := 2) rfl, zv2, z2, rfl, hz2.same s1, sm2, fun e2 H2 s2 => ?_, fun ps e2 v2 H2 s2 d2 => ?_⟩
                    · refine ⟨_, rfl, _, rfl, iteT (q0 ?_ _ (s1.trans s2))⟩
                      rw [pT, e2]
                      rfl
                    · obtain ⟨p2, y2, rfl, hp2, hy2⟩ := d2.tupI
                      refine ⟨_, rfl, _, rfl, iteF ?_⟩
                      have s12 := s1.trans s2
                      refine ⟨_, rfl, _, rfl, a, _, _, _, rfl, rfl, .inl (.inl (s12 _ _ hq)), atI_nat (j := 1) rfl, _, rfl, by rw [sizeLine_eq]; exact show (3 : Nat) ≤ 16777216 by omega, fun t ht => ?_⟩
                      have s3 := Same.fresh (o := .tup [.str k, .str s, .ref p2]) (Same.refl H2) ht
                      refine q1 (.ft (decide (k = "fetch")) s ps) (by rw [pT, e2]; rfl) _ _ (s12.trans s3) ?_
                      have ek : knd (decide (k = "fetch")) = k := knd_of kf
                      show Da K _ _ (.tup [.str (knd (decide (k = "fetch"))), .str s, .tup (ps.map dtP)])
                      rw [ek]
                      exact .tup upd_same (.cons (.str _ lk) (.cons (.str _ ls) (.cons (d2.same s3) .nil)))
                · have ns : ∀ x, z ≠ .str x := fun x e => sz ⟨x, e⟩
                  have pN : plainT k [z, z2] = none := noW (by
                    cases z with
                    | str x => exact absurd rfl (ns x)
                    | _ => rfl)
                  refine .inr ⟨_, (hz.same s1).ty, kit_str _ ns, _, rfl, ?_⟩
                  refine iteF ?_
                  refine ⟨_, rfl, rfl, _, rfl, ?_⟩
                  rw [dk, decide_eq_false kr]
                  refine iteF (iteF ?_)
                  refine ⟨_, rfl, rfl, _, rfl, ?_⟩
                  rw [dk, decide_eq_false ke]
                  refine iteF (iteF ?_)
                  exact q0 pN H1 s1
              · rw [decide_eq_false (show ¬ V.int ((rest.length + 2 : Nat) : Int) = V.int 3 by rw [V.int.injEq]; omega)]
                have pN : plainT k (z :: rest) = none := by
                  unfold plainT
                  rw [if_neg (fun h => km h.1), if_neg (fun h => l1 (by have := h.2.1; rw [List.length_cons] at this; omega)), if_neg (fun h => kr h.1), if_neg (fun h => ke h.1)]
                refine iteF (iteF ?_)
                refine ⟨_, rfl, rfl, _, rfl, ?_⟩
                rw [dk, decide_eq_false kr]
                refine iteF (iteF ?_)
                refine ⟨_, rfl, rfl, _, rfl, ?_⟩
                rw [dk, decide_eq_false ke]
                refine iteF (iteF ?_)
                exact q0 pN H1 s1
        | _ => cases hd
    · have no : ∀ l, d ≠ .tup l := fun l e => ht ⟨l, e⟩
      refine ⟨_, rfl, v, .ty "tuple", _, .type "tuple", false, rfl, .ty "tuple", da.ty, kit_ty (kit_tup d no), _, rfl, ?_⟩
      refine iteT (iteT (q0 ?_ H (Same.refl _)))
      cases d with
      | tup l => exact absurd rfl (no l)
      | _ => rfl
end
end K
set_option Elab.async false
set_option linter.all false
set_option maxRecDepth 100000
set_option maxHeartbeats 4000000
/-! The operators of an own class: +, - (with a list or tuple to the right), ==, !=, in, not in, len. -/
namespace Hk
open PySem L2
open PySem.W (Frag Looks findIn looks_findIn InstAt CmpBack)
section
variable {X : Cx} {CX : CXT} {k : Nat} {f : Addr} {fd : FuncData} {ps : List Str} {sp : Sp} {E : XK} {pins : List (Addr × Obj)} {σ : L2.St} {H : Hp} {s : Shared}
/-- a method is run one level below -/
theorem run_in1 {Q : VK} {us : List Value} {vs : List V} (F : FnOk X.prog X.w X.K X.mg X.base CX k f fd ps sp) (hr : Room (k + 1) X.A) (hb : Binds X.K fd ps []) (hx : Passes CX X E)
    (I : L2.Inv X pins σ H s) (r : Vals vs us) (h : sp vs H Q E) : wpAny (model X.prog X.w) X.A.in1 (call (.ref f) us) (EP X pins σ Q) X.xe s := by
  have hl : (us ++ []).length = ps.length := by
    rw [List.append_nil, ← r.length]
    exact F.len _ _ _ _ h
  have b := hb s us I.kIn hl
  rw [List.append_nil] at b
  refine wpAny_call (codeAny_mono (F.run X.A.in1 X.stack s H ⟨us, []⟩ us vs Q E hr.in1 I.env0.in1 b r h) fun r s' hq => ?_)
  cases r with
  | error e => exact hx pins σ H s e s' I hq
  | ok fl =>
    cases fl with
    | ret u => exact I.after hq
    | next => exact False.elim hq
    | brk => exact False.elim hq
    | cont => exact False.elim hq
theorem back_of {Q : VK} {v : Value} {s' : Shared} (h : EP X pins σ Q v s') : CmpBack (EP X pins σ Q) v s' := by
  obtain ⟨x, H', I, r, q⟩ := h
  cases v with
  | notImplemented =>
    cases x with
    | int i => obtain ⟨_, z⟩ := r; cases z
    | str i => obtain ⟨_, z⟩ := r; cases z
    | byt i => obtain ⟨_, z⟩ := r; cases z
    | flt i => obtain ⟨_, z⟩ := r; cases z
    | _ => first | (cases r; done) | (exact absurd r (by intro z; cases z)) | (obtain ⟨_, z⟩ := r; cases z)
  | _ => exact ⟨x, H', I, r, q⟩
end
section
variable {prog : Program} {w : World} {A : Around} {E : Value → Shared → Prop} {s : Shared} {K : Frag} {x y C f : Addr} {ox : Obj} {od : Option Obj}
/-- a != b by an own __eq__ alone -/
theorem ne_own {Q : Value → Shared → Prop} (hu : A.units + 1 < cLine) (X : K.In s.heap) (I : InstAt s.heap x ox C od) (hb : Looks (model prog w) s.heap (typeOf (.ref y)) (.ref C)) (hne : findIn K (.ref C) "__ne__" = some (some (.builtin "object.__ne__")))
    (hm : PySem.W.mroIn K C (.type "object") = some true) (he : findIn K (.ref C) "__eq__" = some (some (.ref f))) (hf : PySem.W.isFn K (.ref f) = true)
    (h : wpAny (model prog w) A.in1 (call (.ref f) [.ref x, .ref y]) (fun v s' => ∃ b, v = .bool b ∧ Q (.bool (!b)) s') E s) : wpAny (model prog w) A (compareOp .NotEq (.ref x) (.ref y)) Q E s := by
  have hin : Looks (model prog w) s.heap (isInstance (.ref x) (.type "object")) true := I.type.andThen (PySem.W.looks_mroIn X hm)
  have entry : wpAny (model prog w) A.in1 (Builtin.«object.__ne__» ⟨[.ref x, .ref y], []⟩) (fun fin s' => ∃ b, fin = .done (.ret (.bool (!b))) ∧ Q (.bool (!b)) s') E s := by
    have hu1 : A.in1.units < cLine := hu
    obtain ⟨hp, g, d, tk, os⟩ := s
    unfold Builtin.«object.__ne__»
    repeat (first
      | with_reducible refine wpAny_cRoomFor hu1 ?_
      | (refine wpAny_bind (m := callSpecialIfBound? (.ref x) (Str.ofString "__eq__") [.ref y])
          (PySem.W.ifBound_K X I he hf (wpAny_mono h (fun r s' hr => by
            obtain ⟨b, rfl, hq⟩ := hr
            repeat (first | exact ⟨b, rfl, hq⟩ | exact wpAny_pure ⟨b, rfl, hq⟩ | (refine wpAny_bind (m := truthy (.bool _)) (wpAny_truthy_bool ?_)) | wp_step)) fun _ _ e => e)))
      | wp_step)
  show wpAny _ _ (richCompare .NotEq _ _) _ _ _
  unfold richCompare
  simp only [oneThing_ref]
  refine wpAny_holding (wpAny_bind (wpAny_cRoomFor (Nat.lt_of_succ_lt hu) ?_))
  rw [cmpInfo_NotEq]
  dsimp only
  refine wpAny_bind (I.type.here (wpAny_bind (hb.here ?_)))
  rw [show (Value.ref C != Value.ref C) = false from by simp]
  simp only [Bool.false_eq_true, if_false]
  refine wpAny_bind (wpAny_pure ?_)
  simp only [Bool.false_eq_true, if_false]
  refine wpAny_bind ?_
  simp only [tryCompare]
  refine wpAny_bind ?_
  simp only [callSpecialIfBound?, bindSpecialIfBound?]
  refine wpAny_holding (wpAny_bind (wpAny_bind (wpAny_bind (I.type.here ((looks_findIn X hne).here ?_)))))
  have S := F.cmp_object.ne
  have eb : bindSpecial (.builtin "object.__ne__") (.ref x) = pure (.builtin "object.__ne__", [.ref x]) := S.bind _
  refine wpAny_bind (wpAny_askSetting (wpAny_ite ?_))
  have one : wpAny (model prog w) A (call (.builtin "object.__ne__") ([.ref x] ++ [.ref y]) >>= fun v => pure (some v)) (fun r s' => ∃ b, r = some (.bool b) ∧ Q (.bool b) s') E s := by
    refine wpAny_bind (wpAny_call (codeAny_call_builtin S.plain F.cmpEntry_ne (PySem.W.check_slot F.cmpKind_ne F.cmpSplit_ne hin (F.cmpArgs_ne _ _) (wpAny_mono entry (fun fin s' hq => ?_) fun _ _ e => e))))
    obtain ⟨b, rfl, q⟩ := hq
    exact wpAny_pure ⟨_, rfl, q⟩
  split
  · refine wpAny_bind (wpAny_of_eq eb (wpAny_pure ?_))
    refine wpAny_mono one (fun r s' ⟨b, e, q⟩ => ?_) fun _ _ e => e
    subst e
    exact wpAny_pure (wpAny_pure q)
  · refine wpAny_tryCatch (wpAny_bind (wpAny_of_eq eb (wpAny_pure ?_)))
    refine wpAny_mono one (fun r s' ⟨b, e, q⟩ => ?_) fun _ _ e => e
    subst e
    exact wpAny_pure (wpAny_pure q)
/-- what the written part says of an own operator, with a list or a tuple (T) to the right -/
structure OwnOp (K : Frag) (C f : Addr) (op : Operator) (T : String) : Prop where
  first : PySem.W.selfFirst K C = true
  at_ : findIn K (.ref C) (PySem.dunder op.info.2) = some (some (.ref f))
  fn : PySem.W.isFn K (.ref f) = true
  back : findIn K (.ref C) (dunderR op.info.2) = some none
  right : ∃ fo ro : Option Value, findIn K (.type T) (PySem.dunder op.info.2) = some fo ∧ findIn K (.type T) (dunderR op.info.2) = some ro
  sub : PySem.W.subIn K (.type T) (.ref C) = some false
open PySem.W in
theorem bin_own {op : Operator} {T : String} {b : Value} {Q : Value → Shared → Prop} (O : OwnOp K C f op T) (X : K.In s.heap) (I : InstAt s.heap x ox C od) (hb : Looks (model prog w) s.heap (typeOf b) (.type T))
    (h : wpAny (model prog w) A (call (.ref f) [.ref x, b]) (CmpBack Q) E s) : wpAny (model prog w) A (binaryOp op (.ref x) b) Q E s := by
  obtain ⟨fo, ro, r1, r2⟩ := O.right
  obtain ⟨cd, rest, hcd, hm⟩ := ksp_first O.first
  have met := O.at_
  have back := O.back
  generalize hi : op.info = inf at met back r1 r2
  obtain ⟨sym, nm⟩ := inf
  have one := ksp_try X I met O.fn h
  obtain ⟨hh, g, d, t, os⟩ := s
  have tx : Looks (model prog w) hh (typeOf (.ref x)) (.ref C) := I.type
  have tb : Looks (model prog w) hh (typeOf b) (.type T) := hb
  have fx : Looks (model prog w) hh (fillsNumberSlot (.ref C) nm) true := fills_K X hcd hm met
  have fb := ksp_fillsT (M := model prog w) X r1 r2
  have sb : Looks (model prog w) hh (isSubtype (.type T) (.ref C)) false := looks_subIn X O.sub
  have px : Looks (model prog w) hh (numberSlotInPython (.ref C) nm) true := ksp_inPy X met back (.inl rfl)
  have pb : Looks (model prog w) hh (numberSlotInPython (.type T) nm) false := Looks.of_pure rfl
  have lb : Looks (model prog w) hh (typeLookup (.type T) (dunderR nm)) ro := looks_findIn X r2
  have ne : (Value.ref C == Value.type T) = false := rfl
  generalize ((fo.isSome && !isSeqSlot fo) || (ro.isSome && !isSeqSlot ro)) = right at fb
  simp only [binaryOp, hi]
  refine wpAny_holding (wpAny_bind ?_)
  unfold binaryOp1
  refine wpAny_bind (tx.at (wpAny_bind (tb.at (wpAny_bind (fx.at ?_)))))
  simp only [ne, Bool.false_eq_true, if_false]
  have fin : ∀ {k : Option Value → Sem Value}, (∀ v, k (some v) = pure v) → True := fun _ => trivial
  cases right <;>
  · ksp_lk
    refine wpAny_mono one (fun r s' hr => ?_) fun _ _ e => e
    obtain ⟨v, rfl, hq⟩ := hr
    ksp_lk
    exact hq
end
section
variable {X : Cx} {CX : CXT} {k : Nat} {f C : Addr} {fd : FuncData} {ps : List Str} {sp : Sp} {E : XK} {T : String}
theorem looks_ref {M : Model} {h : Heap} {a : Addr} {o : Obj} {c : Value} (ho : h.get? a = some o) (hc : o.cls = c) : Looks M h (typeOf (.ref a)) c := fun A Q E s kp q => by
  obtain ⟨hp, g, d, t, os⟩ := s
  refine wpAny_typeOf_ref (kp _ _ ho) ?_
  rw [hc]
  exact q
theorem v1 {a : Addr} : Vals [V.ref a] [Value.ref a] := .cons (show L2.RelV (V.ref a) (Value.ref a) from rfl) .nil
theorem v2 {a : Addr} {y : V} {u : Value} (r : L2.RelV y u) : Vals [V.ref a, y] [Value.ref a, u] := .cons (show L2.RelV (V.ref a) (Value.ref a) from rfl) (.cons r .nil)
/-- a + y, a - y: y a list or a tuple -/
def rOwnOp (K : Frag) (C : Addr) (sp : Sp) (E : XK) : R2 := fun x y H Q => ∃ (a dx : Addr) (fs : List (Str × V)) (bb : Bool) (b : Addr) (ys : List V), x = .ref a ∧ y = .ref b ∧ H a = some (.ins C dx fs) ∧ ((bb = true ∧ SqL K H b ys) ∨ (bb = false ∧ SqT K H b ys)) ∧ sp [x, y] H Q E
theorem op_own {op : Operator} (OL : OwnOp X.K C f op "list") (OT : OwnOp X.K C f op "tuple") (F : FnOk X.prog X.w X.K X.mg X.base CX k f fd ps sp) (hr : Room k X.A) (hb : Binds X.K fd ps []) (hx : Passes CX X E) :
    OpR X (binaryOp op) (rOwnOp X.K C sp E) := by
  intro pins s σ H x y v u Q I rx ry h
  obtain ⟨a, dx, fs, bb, b, ys, rfl, rfl, ha, hy, q⟩ := h
  cases rx
  cases ry
  obtain ⟨mA, J, _⟩ := ins_get I.hok ha
  obtain ⟨od, J, _⟩ := J.look
  have run : wpAny (model X.prog X.w) X.A (call (.ref f) [.ref a, .ref b]) (CmpBack (EP X pins σ Q)) X.xe s :=
    wpAny_mono (run_fn F hr hb .nil hx I (v2 (y := .ref b) (u := .ref b) rfl) q) (fun v s' z => back_of z) fun _ _ z => z
  rcases hy with ⟨_, hy⟩ | ⟨_, hy⟩
  · obtain ⟨its, _, ⟨o, n, ho, hc, _⟩, _⟩ := I.list hy
    exact bin_own OL I.kIn J (looks_ref ho hc) run
  · obtain ⟨its, _, ⟨o, ho, hc, _⟩, _⟩ := I.tuple hy
    exact bin_own OT I.kIn J (looks_ref ho hc) run
/-- a == b of two of the class -/
def rOwn2 (C : Addr) (sp : Sp) (E : XK) : R2 := fun x y H Q => ∃ (a b dx dy : Addr) (fs gs : List (Str × V)), x = .ref a ∧ y = .ref b ∧ H a = some (.ins C dx fs) ∧ H b = some (.ins C dy gs) ∧ sp [x, y] H Q E
theorem op_ownEq (hs : findIn X.K (.ref C) "__eq__" = some (some (.ref f))) (hf : PySem.W.isFn X.K (.ref f) = true) (F : FnOk X.prog X.w X.K X.mg X.base CX k f fd ps sp) (hr : Room k X.A) (hb : Binds X.K fd ps []) (hx : Passes CX X E) :
    OpR X (compareOp .Eq) (rOwn2 C sp E) := by
  intro pins s σ H x y v u Q I rx ry h
  obtain ⟨a, b, dx, dy, fs, gs, rfl, rfl, ha, hb', q⟩ := h
  cases rx
  cases ry
  obtain ⟨mA, J, _⟩ := ins_get I.hok ha
  obtain ⟨mB, J', _⟩ := ins_get I.hok hb'
  obtain ⟨od, J, _⟩ := J.look
  obtain ⟨od', J', _⟩ := J'.look
  obtain ⟨m, hF⟩ := I.fr
  show wpAny (model X.prog X.w) X.A (richCompare .Eq (.ref a) (.ref b)) (EP X pins σ Q) X.xe s
  refine PySem.W.cmp_K (op := .Eq) (tb := .ref C) hr.units0 hF I.ok.mod.kin J J'.type (by simp [PySem.W.notFirst]) hs hf ?_
  exact wpAny_mono (run_fn F hr hb .nil hx I (v2 (y := .ref b) (u := .ref b) rfl) q) (fun v s' z => back_of z) fun _ _ z => z
/-- a != b of two of the class -/
def rOwnNe (C : Addr) (sp : Sp) (E : XK) : R2 := fun x y H Q => ∃ (a b dx dy : Addr) (fs gs : List (Str × V)), x = .ref a ∧ y = .ref b ∧ H a = some (.ins C dx fs) ∧ H b = some (.ins C dy gs) ∧ sp [x, y] H (fun v H' => ∃ c, v = .bl c ∧ Q (.bl (!c)) H') E
theorem op_ownNe (hne : findIn X.K (.ref C) "__ne__" = some (some (.builtin "object.__ne__"))) (hm : PySem.W.mroIn X.K C (.type "object") = some true) (hs : findIn X.K (.ref C) "__eq__" = some (some (.ref f))) (hf : PySem.W.isFn X.K (.ref f) = true)
    (F : FnOk X.prog X.w X.K X.mg X.base CX k f fd ps sp) (hr : Room (k + 1) X.A) (hb : Binds X.K fd ps []) (hx : Passes CX X E) : OpR X (compareOp .NotEq) (rOwnNe C sp E) := by
  intro pins s σ H x y v u Q I rx ry h
  obtain ⟨a, b, dx, dy, fs, gs, rfl, rfl, ha, hb', q⟩ := h
  cases rx
  cases ry
  obtain ⟨mA, J, _⟩ := ins_get I.hok ha
  obtain ⟨mB, J', _⟩ := ins_get I.hok hb'
  obtain ⟨od, J, _⟩ := J.look
  obtain ⟨od', J', _⟩ := J'.look
  refine ne_own (hu_of hr) I.kIn J J'.type hne hm hs hf ?_
  refine wpAny_mono (run_in1 F hr hb hx I (v2 (y := .ref b) (u := .ref b) rfl) q) (fun v s' z => ?_) fun _ _ z => z
  obtain ⟨z, H', I', rz, c, ez, q'⟩ := z
  subst ez
  exact ⟨c, rz, .bl (!c), H', I', rfl, q'⟩
/-- y in a -/
def rOwnIn (C : Addr) (sp : Sp) (E : XK) : R2 := fun y x H Q => ∃ (a dx : Addr) (fs : List (Str × V)), x = .ref a ∧ H a = some (.ins C dx fs) ∧ sp [x, y] H (fun v H' => ∃ c, v = .bl c ∧ Q (.bl c) H') E
theorem op_ownIn (hs : findIn X.K (.ref C) "__contains__" = some (some (.ref f))) (hf : PySem.W.isFn X.K (.ref f) = true) (F : FnOk X.prog X.w X.K X.mg X.base CX k f fd ps sp) (hr : Room k X.A) (hb : Binds X.K fd ps []) (hx : Passes CX X E) :
    OpR X (compareOp .In) (rOwnIn C sp E) := by
  intro pins s σ H y x u v Q I ry rx h
  obtain ⟨a, dx, fs, rfl, ha, q⟩ := h
  cases rx
  obtain ⟨mA, J, _⟩ := ins_get I.hok ha
  obtain ⟨od, J, _⟩ := J.look
  obtain ⟨m, hF⟩ := I.fr
  refine PySem.W.in_K hF I.ok.mod.kin J hs hf ?_
  refine wpAny_mono (run_fn F hr hb .nil hx I (v2 ry) q) (fun v s' z => ?_) fun _ _ z => z
  obtain ⟨z, H', I', rz, c, ez, q'⟩ := z
  subst ez
  obtain rfl : v = Value.bool c := rz
  exact wpAny_truthy_bool ⟨.bl c, H', I', rfl, q'⟩
/-- len(a) -/
def rOwnLen (C : Addr) (sp : Sp) (E : XK) : List V → Hp → VK → Prop := fun xs H Q => ∃ (a dx : Addr) (fs : List (Str × V)), xs = [.ref a] ∧ H a = some (.ins C dx fs) ∧ sp [.ref a] H (fun v H' => ∃ n : Nat, v = .int n ∧ n < 2 ^ 60 ∧ Q (.int n) H') E
theorem call_ownLen (hs : findIn X.K (.ref C) "__len__" = some (some (.ref f))) (hf : PySem.W.isFn X.K (.ref f) = true) (F : FnOk X.prog X.w X.K X.mg X.base CX k f fd ps sp) (hr : Room (k + 1) X.A) (hb : Binds X.K fd ps []) (hx : Passes CX X E) :
    CallR X (.builtin "len") (rOwnLen C sp E) := by
  intro pins s σ H xs us Q I rv h
  obtain ⟨a, dx, fs, rfl, ha, q⟩ := h
  rw [Vals.ref1 rv]
  obtain ⟨mA, J, _⟩ := ins_get I.hok ha
  obtain ⟨od, J, _⟩ := J.look
  obtain ⟨m, hF⟩ := I.fr
  refine PySem.W.len_K hF I.ok.mod.kin J hs hf ?_
  refine wpAny_mono (run_in1 F hr hb hx I v1 q) (fun v s' z => ?_) fun _ _ z => z
  obtain ⟨z, H', I', rz, n, ez, hn, q'⟩ := z
  subst ez
  obtain ⟨t, rfl⟩ := rz
  exact ⟨by omega, .int n, H', I'.tok _, ⟨_, rfl⟩, q'⟩
end
end Hk
set_option Elab.async false
set_option linter.all false
set_option maxRecDepth 100000
set_option maxHeartbeats 4000000
/-! o[i] by an own __getitem__; a + b of two of a class; methods with a star parameter. -/
namespace Hk
open PySem L2
open PySem.W (Frag Looks findIn looks_findIn InstAt CmpBack)
section
variable {X : Cx} {CX : CXT} {k : Nat} {f C : Addr} {fd : FuncData} {ps : List Str} {sp : Sp} {E : XK}
/-- a[y] -/
def rOwnIx (C : Addr) (sp : Sp) (E : XK) : R2 := fun x y H Q => ∃ (a dx : Addr) (fs : List (Str × V)), x = .ref a ∧ H a = some (.ins C dx fs) ∧ sp [x, y] H Q E
theorem pe_ownIx {a b : Expr} {ta tb : TE} {pos : Pos} (hs : findIn X.K (.ref C) "__getitem__" = some (some (.ref f))) (hf : PySem.W.fnIn X.K f = true) (hfn : PySem.W.isFn X.K (.ref f) = true) (F : FnOk X.prog X.w X.K X.mg X.base CX k f fd ps sp) (hr : Room (k + 1) X.A)
    (hb : Binds X.K fd ps []) (hx : Passes CX X E) (ha : PE X a ta) (hb2 : PE X b tb) (hsl : ∀ x i, subscripted b true (.ref x) i = runValue (.builtin "lifetime.subscript" ⟨[.ref x, i], []⟩) := by intros; with_unfolding_all rfl) : PE X (.Subscript a b pos) (tOp (rOwnIx C sp E) ta tb) := by
  refine ⟨fun pins s σ H Q I h => PyProof.Rows.Subscript_ (binT ha hb2 I h fun v u s2 x y H2 I2 rx ry q => ?_)⟩
  obtain ⟨o, dx, fs, rfl, ho, q⟩ := q
  cases rx
  obtain ⟨mA, J, _⟩ := ins_get I2.hok ho
  obtain ⟨od, J, _⟩ := J.look
  obtain ⟨m, hF⟩ := I2.fr
  exact PySem.W.sub_K hF I2.ok.mod.kin J hs hf hfn (run_in1 F hr hb hx I2 (v2 ry) q) (hsl _ _)
/-- a + b of two of the class -/
theorem op_own2 {op : Operator} (hc : PySem.W.selfFirst X.K C = true) (hs : findIn X.K (.ref C) (PySem.dunder op.info.2) = some (some (.ref f))) (hf : PySem.W.isFn X.K (.ref f) = true) (F : FnOk X.prog X.w X.K X.mg X.base CX k f fd ps sp) (hr : Room k X.A) (hb : Binds X.K fd ps [])
    (hx : Passes CX X E) : OpR X (binaryOp op) (rOwn2 C sp E) := by
  intro pins s σ H x y v u Q I rx ry h
  obtain ⟨a, b, dx, dy, fs, gs, rfl, rfl, ha, hb', q⟩ := h
  cases rx
  cases ry
  obtain ⟨mA, J, _⟩ := ins_get I.hok ha
  obtain ⟨mB, J', _⟩ := ins_get I.hok hb'
  obtain ⟨od, J, _⟩ := J.look
  obtain ⟨od', J', _⟩ := J'.look
  obtain ⟨m, hF⟩ := I.fr
  exact PySem.W.binop_K hF I.ok.mod.kin J J'.type hc hs hf (wpAny_mono (run_fn F hr hb .nil hx I (v2 (y := .ref b) (u := .ref b) rfl) q) (fun v s' z => back_of z) fun _ _ z => z)
end
/-- what o.m(..) does: o first, then its method, then the arguments -/
def mSem (o : Expr) (m : Str) (apos pos : Pos) (pl : Sem Bool) (args : List (Bool × Sem Value)) (env : Env) : Sem Value := (do let ov ← eval o env; standAt apos.atName; let (f, first) ← holding [ov] (getMethod ov m pl); callWith pos f first args (backToKw pos (keywordEach [] env)))
section
variable {X : Cx} {CX : CXT} {k : Nat} {f C : Addr} {sp : Sp} {E : XK} {o e : Expr} {es : List Expr} {m : Str} {apos pos : Pos} {ta : TE} {t : TA}
/-- o.m(e, ..) of a method with a star parameter -/
theorem pe_methR {pl : Sem Bool} (he : PE X o ta) (c : Cls X.K C) (hm : Meth X.K C m f) (F : FnR X.prog X.w X.K X.mg X.base CX k f sp) (hr : Room k X.A) (hx : Passes CX X E) (ha : PA X (e :: es) t)
    (hst : starEach (e :: es) X.env = (false, eval e X.env) :: starEach es X.env := by rfl) (hpl : (backTo pos (starEach es X.env)).any (·.1) = false := by rfl)
    (ht : eval (.Call (.Attribute o m apos) (e :: es) [] pos) X.env = mSem o m apos pos pl (backTo pos (starEach (e :: es) X.env)) X.env := by rfl) : PE X (.Call (.Attribute o m apos) (e :: es) [] pos) (tMeth C m sp [] E ta t) := by
  refine ⟨fun pins s σ H Q I h => PySem.W.methodCall_KW (pl := pl) (thn (he.run pins s σ H _ I h) fun u s1 ⟨x, H1, I1, rx, a, dx, fs, ex, ea, l, q⟩ => ?_) ht⟩
  subst ex
  cases (show u = Value.ref a from rx)
  refine getmeth_ok I1 ea c hm l (PySem.W.callWith_K (first := [.ref a]) (h₀ := X.base) I.ok.mod.kin hm.kp (thn (ha.run pos pins s1 σ H1 _ I1 q) fun us s2 ⟨vs, H2, I2, r, q2⟩ => ⟨I2.kIn, ?_⟩) hst hpl)
  have q3 : sp (.ref a :: (vs ++ [])) H2 Q E := q2
  rw [List.append_nil] at q3
  exact wpAny_call (run_fnR (us := .ref a :: us) (vs := .ref a :: vs) F hr hx I2 (.cons rfl r) q3)
/-- o.m() of such a method -/
theorem pe_methR0 {pl : Sem Bool} (he : PE X o ta) (c : Cls X.K C) (hm : Meth X.K C m f) (F : FnR X.prog X.w X.K X.mg X.base CX k f sp) (hr : Room k X.A) (hx : Passes CX X E)
    (ht : eval (.Call (.Attribute o m apos) [] [] pos) X.env = mSem o m apos pos pl (backTo pos (starEach [] X.env)) X.env := by rfl) : PE X (.Call (.Attribute o m apos) [] [] pos) (tMeth C m sp [] E ta tNil) := by
  refine ⟨fun pins s σ H Q I h => PySem.W.methodCall_KW (pl := pl) (thn (he.run pins s σ H _ I h) fun u s1 ⟨x, H1, I1, rx, a, dx, fs, ex, ea, l, q⟩ => ?_) ht⟩
  subst ex
  cases (show u = Value.ref a from rx)
  exact getmeth_ok I1 ea c hm l (PySem.W.callWith_K0 (first := [.ref a]) I1.kIn hm.kp (wpAny_call (run_fnR (us := [.ref a]) (vs := [.ref a]) F hr hx I1 (.cons rfl .nil) q)))
end
end Hk
set_option Elab.async false
set_option linter.all false
set_option maxRecDepth 100000
set_option maxHeartbeats 4000000
/-! An own error over ValueError (by own classes between) whose __init__ says super().__init__(a text) and then self.f = f. -/
namespace Hk
open PySem PySem.Spec PyProof.Rows L2 PySem.Calls
open PySem.W (ksFn ksEnv ks_superObj ks_superIn kxs_mw)
/-- the parameters: self, f -/
def bA (f : Str) (p1 p2 : Pos) : Arguments := { posonlyargs := [], args := [{ arg := "self", annotation := none, pos := p1 }, { arg := f, annotation := none, pos := p2 }], vararg := none, kwonlyargs := [], kw_defaults := [], kwarg := none, defaults := [] }
def bB (f text : Str) (k : Nat) (p0 p1 p2 p3 p4 p5 q1 q2 q3 q4 : Pos) : List Stmt :=
  [.Expr (.Call (.Attribute (.Call (.Name "super" p0) [] [] p1) "__init__" p2) [.Constant (.str text) k p3] [] p4) p5, .Assign [.Attribute (.Name "self" q1) f q2] (.Name f q3) q4]
def bS (f : Str) : Scope := { kind := .function, names := [(PySem.Str.ofString "self", .local), (f, .local), (PySem.Str.ofString "__class__", .free), (PySem.Str.ofString "super", .globalImplicit)], isGenerator := false, isCoroutine := false, more := [] }
/-- what the written part says of the class at C, its __init__ at fI, its cell at cc -/
structure BadTxt (P : Program) (K : PySem.W.Frag) (mg : Str → Option Value) (C fI cc cda : Addr) (f text qual : Str) (fd : FuncData) : Prop where
  oex : OexC K C
  noN : PySem.W.findIn K (.ref C) f = some none
  iC : PySem.W.findIn K (.ref C) "__init__" = some (some (.ref fI))
  tI : PySem.W.typeIn K (.ref fI) = some (.type "function")
  ho : PySem.W.nsIn K cStatics "thirdparty.any" = some none
  sup : ks_superIn K C C "__init__" = some (some (.builtin "ValueError.__init__"))
  subV : PySem.W.subIn K (.ref C) (.type "ValueError") = some true
  mro : PySem.W.mroIn K C (.ref C) = some true
  noSuper : mg "super" = none
  top : (P.main.scope.names.lookup ("super" : Str)).isSome = false
  cell : ∃ ccl cdd ccs, K.lookup cc = some ⟨ccl, cdd, .cell (some (.ref C)), ccs⟩
  code : ∃ cl cd cs vs file tf, K.lookup cda = some ⟨cl, cd, .fields vs, cs⟩ ∧ vs[2]? = some (.str file tf) ∧ (P.main.file == file) = true
  fn : ∃ (oc : Value) (od : Option Addr) (dV kV doc pm : Value) (an : Option Addr) (ct : Value) (osl : Array (Option Value)) (k : Nat) (a1 a2 p0 p1 p2 p3 p4 p5 q1 q2 q3 q4 : Pos),
    fd = ksFn "__init__" qual (bA f a1 a2) (bB f text k p0 p1 p2 p3 p4 p5 q1 q2 q3 q4) (bS f) dV kV doc pm an (.ref cda) ct cc ∧ K.lookup fI = some ⟨oc, od, .func fd, osl⟩ ∧ PySem.W.codeIn K (.ref cda) qual = true ∧
    ∀ env : Env, env.scope = bS f → ∃ pl : Sem Bool, eval (.Call (.Attribute (.Call (.Name "super" p0) [] [] p1) "__init__" p2) [.Constant (.str text) k p3] [] p4) env = (do
      let ov ← attributeBase (.Call (.Name "super" p0) [] [] p1) "__init__" env (eval (.Call (.Name "super" p0) [] [] p1) env)
      standAt p2.atName
      let (f, first) ← holding [ov] (getMethod ov "__init__" pl)
      callWith p4 f first (backTo p4 (starEach [.Constant (.str text) k p3] env)) [])
/-- the body's context -/
def cxB (CX : CXT) (P : Program) (w : World) (K : PySem.W.Frag) (mg : Str → Option Value) (base : Heap) (N : List Str) (qual : Str) (scope : Scope) (f : Addr) (cd : Value) (cc : Addr) (A : Around) (outer : List Env) (s : Shared) (H : Hp) (E : XK) : Cx where
  prog := P
  w := w
  K := K
  mg := mg
  base := base
  A := A.deeper (ksEnv qual scope s.heap.objs.size f cd cc)
  N := N
  s_0 := s
  H_0 := H
  env := ksEnv qual scope s.heap.objs.size f cd cc
  outer := outer
  stack := ksEnv qual scope s.heap.objs.size f cd cc :: outer
  ex := []
  calm := true
  fn := fun x => x != ("__class__" : Str)
  pn := []
  xe := fun e s' => wpAny (model P w) (A.deeper (ksEnv qual scope s.heap.objs.size f cd cc)) (leaving (ksEnv qual scope s.heap.objs.size f cd cc) e) (fun _ s'' => CX outer H s E e s'') (fun e' s'' => CX outer H s E e' s'') s'
theorem cls_cell {cc c : Addr} {x : Str} (h : ([(("__class__" : Str), cc)] : List (Str × Addr)).lookup x = some c) : x = "__class__" ∧ c = cc := by
  have m := PySem.mem_of_lookup h
  simp at m
  exact ⟨m.1, m.2⟩
/-- the exception whose field f is v: at a with its dict at dx -/
def spBad (C : Addr) (f : Str) : Sp := fun vs H Q _ => ∃ (a : Addr) (v : V), vs = [.ref a, v] ∧ H a = some (exo a C none) ∧ ∀ dx, H dx = none → dx ≠ a → Q .non (upd (upd H dx (exd dx [(f, v)])) a (exo a C (some dx)))
section
variable {P : Program} {w : World} {K : PySem.W.Frag} {mg : Str → Option Value} {base : Heap} {C fI cc cda : Addr} {f text qual : Str} {fd : FuncData}
theorem scope_of {f x : Str} {k : NameKind} (h : (bS f).names.lookup x = some k) : (x = "self" ∧ k = .local) ∨ (x = f ∧ k = .local) ∨ (x = "__class__" ∧ k = .free) ∨ (x = "super" ∧ k = .globalImplicit) := by
  have m := PySem.mem_of_lookup h
  simp [bS] at m
  exact m
theorem inv_bad {CX : CXT} {A : Around} {outer : List Env} {s : Shared} {h1 : Heap} {t1 : Nat} {H : Hp} {E : XK} {a : Addr} {v : V} {u : Value} {cd : Value} {ccl : Value} {cdd : Option Addr} {ccs : Array (Option Value)}
    (hf : f ≠ "self") (hd : A.handled = none) (e0 : Env0 P w K mg base A outer s H) (lc : K.lookup cc = some ⟨ccl, cdd, .cell (some (.ref C)), ccs⟩) (r : RelV v u)
    (hn : h1.Ns s.heap.objs.size (fun x => ([("self", Value.ref a), (f, u)] : List (Str × Value)).reverse.lookup x)) (hk : ∀ b o, s.heap.get? b = some o → h1.get? b = some o) (kl : (bS f).names.lookup ("self" : Str) = some .local) (kf : (bS f).names.lookup f = some .local) :
    Inv (cxB CX P w K mg base ["self", f] qual (bS f) fI cd cc A outer s H E) [] [some (.ref a), some v] H { s with heap := h1, toks := t1 } := by
  have noA : ∀ b : Addr, b ∉ (cxB CX P w K mg base ["self", f] qual (bS f) fI cd cc A outer s H E).ex := fun b z => absurd (show b ∈ ([] : List Addr) from z) (by simp)
  have bcc : base.get? cc = some ⟨ccl, cdd, .cell (some (.ref C)), ccs⟩ := e0.mod.kin _ _ lc
  refine ⟨⟨e0.mod, rfl, rfl, rfl, Nat.le_refl _, fun y z c h1 h2 => ?_, fun y hy => ?_, fun y c hfn h => ?_, fun _ => hd, Around.frames_deeper e0.frames, .inr ⟨rfl, rfl⟩, fun b z => absurd z (noA b), e0.bs, e0.bsz, fun b _ _ => noA b, fun b z => absurd z (noA b), e0.funs, e0.frf⟩,
    rfl, e0.bare, Un.kept hk, ⟨_, hn, fun i y v h1 h2 h3 => ?_⟩, fun y c h => ?_, e0.hok.fresh (Nat.le_refl _), fun y c h => ?_, fun p hp => absurd (show p ∈ ([] : List (Addr × Obj)) from hp) (by simp), e0.hok.kept hk, ?_⟩
  · exact (cls_cell h1).1.trans (cls_cell h2).1.symm
  · have hy : (bS f).names.lookup y = some .cell ∨ (bS f).names.lookup y = some .free := hy
    have q : y = "__class__" := by
      rcases hy with hy | hy
      · rcases scope_of hy with ⟨_, z⟩ | ⟨_, z⟩ | ⟨_, z⟩ | ⟨_, z⟩ <;> cases z
      · rcases scope_of hy with ⟨_, z⟩ | ⟨_, z⟩ | ⟨z, _⟩ | ⟨_, z⟩
        · cases z
        · cases z
        · exact z
        · cases z
    subst q
    exact ⟨cc, rfl⟩
  · have q := (cls_cell h).1
    subst q
    exact absurd (show ((("__class__" : Str) != ("__class__" : Str)) = true) from hfn) (by decide)
  · match i, h1, h2 with
    | 0, h1, h2 =>
      cases h1
      cases h2
      refine ⟨.ref a, rfl, .inl ⟨kl, ?_⟩⟩
      show ([("self", Value.ref a), (f, u)] : List (Str × Value)).reverse.lookup ("self" : Str) = _
      have z : (("self" : Str) == f) = false := by simpa using fun e : ("self" : Str) = f => hf e.symm
      simp [List.lookup, z]
    | 1, h1, h2 =>
      cases h1
      cases h2
      refine ⟨u, r, .inl ⟨kf, ?_⟩⟩
      show ([("self", Value.ref a), (f, u)] : List (Str × Value)).reverse.lookup f = _
      simp [List.lookup]
    | i + 2, h1, h2 => simp at h2
  · obtain ⟨_, rfl⟩ := cls_cell h
    exact ⟨_, _, hk _ _ (e0.bs _ _ bcc).1, rfl⟩
  · obtain ⟨_, rfl⟩ := cls_cell h
    exact (e0.bs _ _ bcc).2
  · rfl
section
variable {M : Model} {A : Around} {E : Value → Shared → Prop} {h : Heap} {g : Array GenState} {d : Drawn} {t : Nat} {os : OsState}
/-- the bound ValueError.__init__ is called -/
theorem call_mwV {nm q : Str} {C N e t0 u : Addr} {bs bm : List Value} {hdct : Bool} {sn : List Str} {sub : List Value} {ab : Bool} {col : Option Bool} {dd : Option Addr} {k0 k1 k2 k3 k5 : Option Value} {rest : List Value} {Q : Value → Shared → Prop}
    (hbm : PySem.HandSPX.refsVE bm = true) (hC : h.get? C = some (excClassObj nm q C N bs bm hdct sn sub ab col dd k0 k1 k2 k3 k5 "ValueError.__new__")) (he : h.get? e = some (PySem.HandSPX.excO C t0)) (hu : h.get? u = some (kxs_mw "ValueError.__init__" e)) (hz : rest.length ≤ sizeLine)
    (hq : ∀ h' t1, (∀ b o, b ≠ e → h.get? b = some o → h'.get? b = some o) → h'.get? e = some (PySem.HandSPX.excO C t1) → Q .none ⟨h', g, d, t, os⟩) :
    wpAny (model P w) A (call (.ref u) rest) Q E ⟨h, g, d, t, os⟩ := by
  refine wpAny_call (codeAny_of_tree ?_)
  show wpAny _ A.in1 (callAny (.ref u) ⟨rest, []⟩) _ _ _
  simp only [callAny]
  refine wpAny_bind (wpAny_load hu ?_)
  simp only [kxs_mw, show (Value.type "method-wrapper" == Value.type "method" || Value.type "method-wrapper" == Value.type "builtin_function_or_method" || Value.type "method-wrapper" == Value.type "method-wrapper") = true by decide, if_true]
  refine PySem.W.KFB.if_so (by decide) ?_
  refine wpAny_bind (PySem.W.check_bound_init F.excBase_ValueError.toExcCallFacts hC he rfl ?_)
  refine wpAny_bind (wpAny_pure (wpAny_pure ?_))
  refine ⟨plainId_quiet F.excBase_ValueError.init.plain _, codeAny_builtin F.excBase_ValueError.initEntry ?_⟩
  exact PySem.W.exc_init_tree (cls := .ref C) (t0 := t0) (dv := none) (c2 := .none) (c3 := .none) (b4 := .bool false) he hz fun h' k e' _ => hq h' _ k e'
end
theorem callWith_mw {M : Model} {A : Around} {E : Value → Shared → Prop} {s : Shared} {i : String} {u x : Addr} {pos : Pos} {env : Env} {e : Expr} {rest : List Expr} {Q : Value → Shared → Prop}
    (h : wpAny M A (spliced (backTo pos (starEach (e :: rest) env))) (fun vs s₁ => PySem.W.KxsAt i u x s₁.heap ∧ wpAny M A (call (.ref u) vs) Q E s₁) E s)
    (he : starEach (e :: rest) env = (false, eval e env) :: starEach rest env := by rfl) (hplain : (backTo pos (starEach rest env)).any (·.1) = false := by rfl) :
    wpAny M A (callWith pos (.ref u) [] (backTo pos (starEach (e :: rest) env)) []) Q E s := by
  rw [he] at h ⊢
  refine PySem.W.kxs_callWith (i := i) (x := x) (by show (false || (backTo pos (starEach rest env)).any (·.1)) = false; rw [hplain]; rfl) ?_
  exact evalArgs_plain h
theorem fn_bad (T : BadTxt P K mg C fI cc cda f text qual fd) (hf : f ≠ "self") (hfC : f ≠ "__class__") (hfS : f ≠ "super") (hdb : (f == ("__debug__" : Str)) = false) (hcdd : (f == ("__classdict__" : Str)) = false) :
    FnOk P w K mg base CX0 1 fI fd ["self", f] (spBad C f) := by
  obtain ⟨oc, od, dV, kV, doc, pm, an, ct, osl, k, a1, a2, p0, p1, p2, p3, p4, p5, q1, q2, q3, q4, rfl, lk, hcd, hev⟩ := T.fn
  obtain ⟨ccl, cdd, ccs, lcc⟩ := T.cell
  obtain ⟨cl, cd0, cs, vs0, file, tf, lcd, hvs, hfile⟩ := T.code
  obtain ⟨nm, q, N, bs, bm, sn, sub, ab, col, dd, k0, k1, k2, k3, k5, hC, hbm⟩ := T.oex.cls
  have kl : (bS f).names.lookup ("self" : Str) = some .local := rfl
  have kf : (bS f).names.lookup f = some .local := by
    have z : (f == ("self" : Str)) = false := by simpa using hf
    show List.lookup f ((PySem.Str.ofString "self", NameKind.local) :: _) = _
    rw [List.lookup, show (f == PySem.Str.ofString "self") = false from z]
    simp [List.lookup]
  have kS : (bS f).names.lookup ("super" : Str) = some .globalImplicit := by
    have z : (("super" : Str) == f) = false := by simpa using fun e : ("super" : Str) = f => hfS e.symm
    show List.lookup ("super" : Str) ((PySem.Str.ofString "self", NameKind.local) :: (f, NameKind.local) :: _) = _
    rw [List.lookup, show (("super" : Str) == PySem.Str.ofString "self") = false by decide, List.lookup, z]
    rfl
  have kC : (bS f).names.lookup ("__class__" : Str) = some .free := by
    have z : (("__class__" : Str) == f) = false := by simpa using fun e : ("__class__" : Str) = f => hfC e.symm
    show List.lookup ("__class__" : Str) ((PySem.Str.ofString "self", NameKind.local) :: (f, NameKind.local) :: _) = _
    rw [List.lookup, show (("__class__" : Str) == PySem.Str.ofString "self") = false by decide, List.lookup, z]
    rfl
  refine ⟨fun vs H Q E ⟨a, v, e, _⟩ => by rw [e]; rfl, fun A outer s H args us vs Q E hr e0 hb r hsp => ?_⟩
  obtain ⟨a, v, rfl, ea, hq⟩ := hsp
  cases r with
  | @cons _ u0 _ ur ra rr =>
  obtain rfl : u0 = Value.ref a := ra
  cases rr with
  | @cons _ u _ ur2 ru rn =>
  cases rn
  have KX : K.In s.heap := e0.mod.kin.keeps fun b o e => (e0.bs b o e).1
  have lim : s.heap.NoLimit := e0.mod.nolimit.keeps fun b o e => (e0.bs b o e).1
  refine ks_codeAny_call_defAt (binds := [("self", Value.ref a), (f, u)]) hr.depth (KX _ _ lk) rfl lim (PySem.W.codeRec_of KX hcd) rfl hb (fun x hx => ?_) (fun x hx => ?_) (fun h₀ hns hk => ?_) rfl rfl rfl
  · rcases List.mem_cons.mp hx with rfl | hx
    · decide
    rcases List.mem_cons.mp hx with rfl | hx
    · show NameKind.local ≠ NameKind.cell
      decide
    rcases List.mem_cons.mp hx with rfl | hx
    · decide
    rcases List.mem_cons.mp hx with rfl | hx
    · decide
    · exact absurd hx (by simp)
  · rcases List.mem_cons.mp hx with rfl | hx
    · exact kl
    rcases List.mem_cons.mp hx with rfl | hx
    · exact kf
    · exact absurd hx (by simp)
  have I := inv_bad (CX := CX0) (w := w) (fI := fI) (cd := .ref cda) (E := E) (qual := qual) (t1 := s.toks + 2) hf hr.hd e0 lcc ru hns hk kl kf
  have K0 : K.In h₀ := KX.keeps hk
  obtain ⟨t0, hx⟩ := exo_at e0.hok ea
  have hx0 := hk _ _ hx
  show _root_.PySem.wpAt (model P w) (A.deeper (ksEnv qual (bS f) s.heap.objs.size fI (.ref cda) cc)) (.func _ (ksEnv qual (bS f) s.heap.objs.size fI (.ref cda) cc)) (execs (bB f text k p0 p1 p2 p3 p4 p5 q1 q2 q3 q4) (ksEnv qual (bS f) s.heap.objs.size fI (.ref cda) cc)) _ _ _
  obtain ⟨pl, hev⟩ := hev (ksEnv qual (bS f) s.heap.objs.size fI (.ref cda) cc) rfl
  refine ks_wpAt_execs_cons (ks_wpAt_Expr_any (ks_wpAt_MethodCall ?_ hev))
  have hcl : PySem.W.clsIn K C = some { name := nm, bases := bs, mro := .ref C :: bm, ns := N, qualname := q, hasDict := true, slotNames := sn, subclasses := sub, abstract := ab, collection := col, hasDel := false } := by unfold PySem.W.clsIn; rw [hC] <;> rfl
  have hf0 := K0 _ _ lk
  have hc0 := K0 _ _ lcd
  refine ks_wpAt_super_base (env := ksEnv qual (bS f) s.heap.objs.size fI (.ref cda) cc) kS kC rfl rfl hf0 rfl rfl rfl hc0 rfl hvs hfile T.top ?_
  obtain ⟨mb, b1, b2⟩ := e0.mod.blt
  have bk : ∀ b o, base.get? b = some o → h₀.get? b = some o := fun b o e => hk _ _ (e0.bs b o e).1
  refine PySem.W.ks_loadName_global rfl kS (loadGlobal_builtin (env := ksEnv qual (bS f) s.heap.objs.size fI (.ref cda) cc) (e0.mod.glob.keeps bk) T.noSuper (b1.keeps bk) ((b2 "super" (by decide)).trans (show bootBuiltins "super" = some (.type "super") by decide +kernel)) ⟨rfl, ?_⟩)
  refine wpAny_loadName_free rfl kC rfl ⟨_, K0 _ _ lcc, rfl⟩ ?_
  refine wpAny_loadName_local (v := Value.ref a) rfl kl hns ?_ ?_
  · have z : (("self" : Str) == f) = false := by simpa using fun e : ("self" : Str) = f => hf e.symm
    simp [List.lookup, z]
  refine ks_wpAny_isType_cls (K0 _ _ hC) rfl ⟨rfl, ?_⟩
  refine ks_wpAny_call_super (K0 _ _ hC) rfl hx0 rfl (fun c e => by cases e) (PySem.W.looks_mroIn K0 T.mro) (fun h' eso k' => ?_)
  have I1 := I.kept (h' := h') (t' := s.toks + 2) k'
  have K1 : K.In h' := K0.keeps k'
  have hx1 := k' _ _ hx0
  have hxC : a ≠ C := by
    rintro rfl
    have z := K0 _ _ hC
    rw [hx0] at z
    have z2 := congrArg Obj.data (Option.some.inj z)
    cases z2
  have J1 : PySem.W.InstAt h' a { cls := .ref C, dict := none, data := .fields #[.ref t0, .none, .none, .none, .bool false, .none] } C none := ⟨hx1, rfl, rfl, trivial⟩
  have hin : PySem.W.Looks (model P w) h' (isInstance (.ref a) (.type "ValueError")) true := J1.type.andThen (PySem.W.looks_subIn K1 T.subV)
  have hsup := T.sup
  unfold ks_superIn at hsup
  rw [hcl] at hsup
  refine PySem.W.kxs_getMethod PySem.W.kxs_ValueError eso (PySem.W.looks_opaque K1 T.ho) (l₀ := .ref C :: bm) (fun A Q E s k q => wpAny_bind ((PySem.W.looks_clsIn K1 hcl) A _ E s k (wpAny_pure q))) rfl K1 hsup hin hxC rfl ?_
  have I2 := I1.kept (h' := h'.push (kxs_mw "ValueError.__init__" a)) (t' := s.toks + 2 + 1) fun b o e => Heap.get?_push_of_some _ e
  have PT : PA (cxB CX0 P w K mg base ["self", f] qual (bS f) fI (.ref cda) cc A outer s H E) [.Constant (.str text) k p3] (tCons (tC (.str text)) tNil) := pa_cons pe_str pa_nil
  have hu : (h'.push (kxs_mw "ValueError.__init__" a)).get? h'.objs.size = some (kxs_mw "ValueError.__init__" a) := Heap.get?_push_size _ rfl
  have I3 := I2.pins_of (pins' := [(h'.objs.size, kxs_mw "ValueError.__init__" a)]) fun p hp => by
    have hp : p ∈ [(h'.objs.size, kxs_mw "ValueError.__init__" a)] := hp
    rw [List.mem_singleton] at hp
    subst hp
    exact ⟨hu, I1.hok.fresh (Nat.le_refl _), Nat.ne_of_gt I1.lt, I1.nofs (Nat.le_refl _), fun v e => by cases e⟩
  refine callWith_mw (i := "ValueError.__init__") (x := a) ?_
  refine thn (PT.run p4 _ _ _ H (fun vs H1 => vs.length ≤ 1 ∧ H1 = H) I3 ⟨by simp, rfl⟩) fun us s3 ⟨vs, H3, I4, r3, lv, eH⟩ => ?_
  subst eH
  have hu3 := (I4.pin _ (List.mem_cons_self)).1
  refine ⟨hu3, ?_⟩
  obtain ⟨t1, hx3⟩ := exo_at I4.hok ea
  have lus : us.length ≤ sizeLine := by
    rw [← Paired.length r3, sizeLine_eq]
    omega
  have K3 := I4.kIn
  obtain ⟨h3, g3, d3, tk3, os3⟩ := s3
  refine call_mwV hbm (K3 _ _ hC) hx3 hu3 lus fun h4 t4 k4 hx4 => ?_
  have J := (I4.pins_of (pins' := []) fun p hp => I4.pin p (by simp at hp)).write (t' := tk3) (x := a) (e := a) (o := exo a C none) (by rw [ea]; exact True.intro) (.inl rfl) k4 ⟨_, hx4⟩ (exo_ok hx4)
  have eu : upd H3 a (exo a C none) = H3 := by
    funext b
    by_cases hb : b = a
    · rw [hb, upd_same, ea]
    · rw [upd_ne hb]
  rw [eu] at J
  have PB : PSs (cxB CX0 P w K mg base ["self", f] qual (bS f) fI (.ref cda) cc A outer s H3 E) [.Assign [.Attribute (.Name "self" q1) f q2] (.Name f q3) q4] (tOst K f (tVar 0) (tVar 1)) :=
    pss_one (ps_ost (pe_var (i := 0) rfl (.inl kl)) (pe_var (i := 1) rfl (.inl kf) hdb hcdd))
  refine wpAt_of_wpAny (wpAny_mono (PB.run [] _ _ _ { nx := fun _ H' => Q .non H', rt := Q } J ⟨v, rfl, .ref a, rfl, a, C, rfl, T.oex, T.noN, .inl ⟨ea, fun dx n ne => hq dx n ne⟩⟩) (fun fl s' hs => ?_) fun e s' hs => hs)
  have fin : ∀ {σ' : L2.St} {H' : Hp} {v : V} {u : Value}, L2.Inv (cxB CX0 P w K mg base ["self", f] qual (bS f) fI (.ref cda) cc A outer s H3 E) [] σ' H' s' → L2.RelV v u → Q v H' → CE outer P w H3 s Q u s' :=
    fun {σ' H' v u} J rv q => ⟨v, H', J.os, J.bare, J.base, J.hok, rv, q⟩
  cases fl with
  | ret u =>
    obtain ⟨v, σ', H', J, rv, q⟩ := hs
    exact fin J rv q
  | next =>
    obtain ⟨σ', H', J, q⟩ := hs
    exact fin (v := V.non) (u := Value.none) J rfl q
  | brk =>
    obtain ⟨_, _, _, q⟩ := hs
    exact False.elim q
  | cont =>
    obtain ⟨_, _, _, q⟩ := hs
    exact False.elim q
end
end Hk
set_option Elab.async false
set_option linter.all false
set_option maxRecDepth 100000
set_option maxHeartbeats 4000000
/-! Own errors of one field: raised, asked for their class, their field read. -/
namespace Hk
open PySem L2
section
variable {X : Cx} {es : List Expr} {ta : TA}
theorem pa_post (ha : PA X es ta) : PA X es (fun σ H Q => ∃ Q0 : List V → Hp → Prop, ta σ H Q0 ∧ ∀ vs H1, Q0 vs H1 → Q vs H1) :=
  ⟨fun pos pins s σ H Q I ⟨Q0, h, w⟩ => thn (ha.run pos pins s σ H Q0 I h) fun us s1 ⟨vs, H1, I1, r, q⟩ => ⟨vs, H1, I1, r, w _ _ q⟩⟩
/-- C(e), an error whose field f is e -/
def tBad (C : Addr) (f : Str) (ta : TA) : L2.St → Hp → XK → Prop := fun σ H Q => ta σ H fun vs H1 => ∃ v, vs = [v] ∧ ∀ d, H1 d = none → Q (.ref C) (some d) (upd H1 d (.xd [(f, v)]))
/-- a name that a field may have -/
structure FldN (f : Str) : Prop where
  s : f ≠ "self"
  c : f ≠ "__class__"
  p : f ≠ "super"
  d : (f == ("__debug__" : Str)) = false
  e : (f == ("__classdict__" : Str)) = false
theorem pmk_bad {C fI cc cda : Addr} {f text qual x : Str} {fd : FuncData} {e : Expr} {p pos : Pos} (T : BadTxt X.prog X.K X.mg C fI cc cda f text qual fd) (N : FldN f) (bI : Binds X.K fd ["self", f] []) (hr : Room 2 X.A) (hg : Gl X x) (hm : X.mg x = some (.ref C)) (ha : PA X [e] ta)
    (hdb : (x == ("__debug__" : Str)) = false := by decide) (he : starEach (e :: []) X.env = (false, eval e X.env) :: starEach [] X.env := by rfl) (hpl : (backTo pos (starEach [] X.env)).any (·.1) = false := by rfl) :
    PMk X (.Call (.Name x p) [e] [] pos) (tBad C f ta) := by
  have F1 : FnOk X.prog X.w X.K X.mg X.base CX0 1 fI fd ["self", f] (spBad C f) := fn_bad T N.s N.c N.p N.d N.e
  have h0 := pmk_oex (x := x) (p := p) (pos := pos) T.oex T.iC T.tI F1 hr bI .nil (fun _ _ _ _ _ _ _ z => z.elim) hg hm (pa_post ha) hdb he hpl
  refine fun pins s σ H Q I h => h0 pins s σ H Q I ⟨_, h, fun vs H1 ⟨v, ev, q⟩ => ?_⟩
  subst ev
  refine ⟨by show 1 ≤ 1000; decide, fun a na => ⟨a, v, rfl, upd_same, fun dx nd ne => ⟨rfl, dx, [(f, v)], upd_same, ?_, ?_, ?_⟩⟩⟩
  · rw [upd_ne ne, upd_same]
  · rw [upd_ne ne] at nd
    exact nd
  · have nd1 : H1 dx = none := by
      rw [upd_ne ne] at nd
      exact nd
    have eu : upd (del (upd (upd (upd H1 a (exo a C none)) dx (exd dx [(f, v)])) a (exo a C (some dx))) a) dx (.xd [(f, v)]) = upd H1 dx (.xd [(f, v)]) := by
      funext b
      by_cases hb : b = dx
      · rw [hb, upd_same, upd_same]
      · rw [upd_ne hb, upd_ne hb]
        by_cases hc : b = a
        · rw [hc, del_same, na]
        · rw [del_ne hc, upd_ne hc, upd_ne hb, upd_ne hc]
    rw [eu]
    exact q dx nd1
/-- raise C(e) -/
def tRaiseBad (C : Addr) (f : Str) (W : WX) (ta : TA) : TS := fun _ σ H => tBad C f ta σ H fun cls d H' => W cls d σ H'
theorem ps_raiseBad {C fI cc cda : Addr} {f text qual x : Str} {fd : FuncData} {e : Expr} {p pos pos2 : Pos} {W : WX} (hc : X.calm = true) (tk : Takes X W) (T : BadTxt X.prog X.K X.mg C fI cc cda f text qual fd) (N : FldN f) (bI : Binds X.K fd ["self", f] []) (hr : Room 2 X.A) (hg : Gl X x) (hm : X.mg x = some (.ref C)) (ha : PA X [e] ta)
    (hdb : (x == ("__debug__" : Str)) = false := by decide) (he : starEach (e :: []) X.env = (false, eval e X.env) :: starEach [] X.env := by rfl) (hpl : (backTo pos (starEach [] X.env)).any (·.1) = false := by rfl) :
    PS X (.Raise (some (.Call (.Name x p) [e] [] pos)) none pos2) (tRaiseBad C f W ta) := ps_raise hc tk (pmk_bad T N bI hr hg hm ha hdb he hpl)
/-- isinstance(e, c), e the exception that the suite holds, with a dict at d -/
def rIsD (K : PySem.W.Frag) (cls : Value) (a : Addr) (d : Option Addr) : List V → Hp → VK → Prop := fun xs H Q => ∃ (D dd : Addr) (fs : List (Str × V)) (c : V) (cv : Value) (b : Bool), cls = .ref D ∧ ExcC K D ∧ d = some dd ∧ H dd = some (.xd fs) ∧ xs = [.ref a, c] ∧ (∀ u, L2.RelV c u → u = cv) ∧ PySem.W.kitOne K (.ref D) cv = some b ∧ Q (.bl b) H
theorem call_isD {a : Addr} {oe : Obj} {cls : Value} {d : Option Addr} {pn : List (Addr × Obj)} (hz : Zc cls d oe) (hf : ∃ vs, oe.data = .fields vs) : CallR (X.suite a ((a, oe) :: pn)) (.builtin "isinstance") (rIsD X.K cls a d) := by
  intro pins s σ H xs us Q I r h
  obtain ⟨D, dd, fs, c, cv, b, rfl, C, rfl, ed, rfl, hcv, e, q⟩ := h
  cases r with
  | cons rx rr =>
    cases rr with
    | cons rt rr =>
      cases rr
      cases rx
      have ec := hcv _ rt
      subst ec
      obtain ⟨hget, _⟩ := I.pin (a, oe) (List.mem_append.mpr (.inl List.mem_cons_self))
      obtain ⟨vs, hv⟩ := hf
      have hx : ObjOk X.prog X.w H s.heap dd (.xd fs) := I.hok dd _ ed
      obtain ⟨mA, hns, hr⟩ := hx
      obtain ⟨od, ho, hl⟩ := lookIn_ns hns
      have J : PySem.W.InstAt s.heap a oe D (some od) := ⟨hget, hz.1, by unfold PySem.W.notCls; rw [hv] <;> rfl, by rw [hz.2]; exact ho⟩
      obtain ⟨cdD, hcD, _⟩ := PySem.W.any_some C.hd
      exact PySem.W.kia_one (PySem.W.kitx_exc (by rw [hcD]; rfl) C.hg C.hk C.hs C.ha C.hn C.ht C.hm) I.kIn J e (fun z => nomatch z) fun tk => ⟨.bl b, H, I.kept (t' := tk) fun _ _ z => z, rfl, q⟩
end
end Hk
set_option Elab.async false
set_option linter.all false
set_option maxRecDepth 100000
set_option maxHeartbeats 4000000
/-! Policies: how one is made. -/
namespace K
open PySem L2 Hk PyProof.Rows
/-! ### the heap without one place -/
def less (D : Addr) (H : Hp) : Hp := fun b => if b = D then none else H b
theorem less_same {D : Addr} {H : Hp} : Same (less D H) H := fun b o e => by
  unfold less at e
  split at e
  · cases e
  · exact e
theorem less_ne {D b : Addr} {H : Hp} (h : b ≠ D) : less D H b = H b := if_neg h
theorem less_but {D : Addr} {H H' : Hp} (s : But D H H') : Same (less D H) (less D H') := fun b o e => by
  by_cases h : b = D
  · rw [h] at e
    unfold less at e
    rw [if_pos rfl] at e
    cases e
  · rw [less_ne h] at e ⊢
    exact s b o h e
theorem less_mono {D : Addr} {H H' : Hp} (s : Same H H') : Same (less D H) (less D H') := less_but (But.of s)
mutual
/-- no list in it -/
def nlD : Dt → Bool
  | .lst _ => false
  | .tup l => nlA l
  | _ => true
def nlA : List Dt → Bool
  | [] => true
  | d :: l => nlD d && nlA l
end
theorem nlA_map {α : Type} {f : α → Dt} (h : ∀ x, nlD (f x) = true) : ∀ l : List α, nlA (l.map f) = true
  | [] => rfl
  | x :: l => by rw [List.map_cons, nlA, h x, nlA_map h l]; rfl
theorem nl_L : ∀ r : Rl, nlD (dtL r) = true
  | .ft b a ps => by
    show (true && (true && (nlA (ps.map dtP) && true))) = true
    rw [nlA_map fun _ => rfl]
    rfl
  | .rs _ _ => rfl
  | .mt _ _ _ => rfl
  | .mk ws => by
    show (true && (nlA (ws.map Dt.str) && true)) = true
    rw [nlA_map fun _ => rfl]
    rfl
section
variable {K : PySem.W.Frag} {H : Hp} {D : Addr} {zs : List V}
theorem lessT {a : Addr} {xs : List V} (h : H D = some (.lst zs)) (q : SqT K H a xs) : SqT K (less D H) a xs := by
  have ne : ∀ {o : HO}, H a = some o → (∀ ys, o ≠ .lst ys) → a ≠ D := fun {o} e n z => by
    rw [z, h] at e
    cases e
    exact n _ rfl
  rcases q with (q | ⟨o, q⟩) | q
  · exact .inl (.inl (by rw [less_ne (ne q (fun _ z => nomatch z))]; exact q))
  · exact .inl (.inr ⟨o, by rw [less_ne (ne q (fun _ z => nomatch z))]; exact q⟩)
  · exact .inr q
mutual
theorem Da.lessN (h : H D = some (.lst zs)) : ∀ {v : V} {t : Dt}, Da K H v t → nlD t = true → Da K (less D H) v t
  | _, _, .non, _ => .non
  | _, _, .dct (a := a) q, _ => .dct (by rw [less_ne (fun z => by rw [z, h] at q; cases q)]; exact q)
  | _, _, .int i, _ => .int i
  | _, _, .str x l, _ => .str x l
  | _, _, .lst _ _, e => by cases e
  | _, _, .tup q l, e => .tup (by rw [less_ne (fun z => by rw [z, h] at q; cases q)]; exact q) (DaAll.lessN h l e)
  | _, _, .nul q, _ => .nul (lessT h q)
theorem DaAll.lessN (h : H D = some (.lst zs)) : ∀ {v : List V} {t : List Dt}, DaAll K H v t → nlA t = true → DaAll K (less D H) v t
  | _, _, .nil, _ => .nil
  | _, _, .cons q l, e => by
    unfold nlA at e
    have e' := Bool.and_eq_true_iff.mp e
    exact .cons (Da.lessN h q e'.1) (DaAll.lessN h l e'.2)
end
theorem DaAll.app : ∀ {xs ys : List V} {l m : List Dt}, DaAll K H xs l → DaAll K H ys m → DaAll K H (xs ++ ys) (l ++ m)
  | _, _, _, _, .nil, h => h
  | _, _, _, _, .cons q t, h => .cons q (DaAll.app t h)
end
theorem SqX.butI {K : PySem.W.Frag} {H H' : Hp} {b : Bool} {d a C dx : Addr} {fs : List (Str × V)} {xs : List V} (h : SqX K H b a xs) (hi : H d = some (.ins C dx fs)) (s : But d H H') : SqX K H' b a xs := by
  have ne : ∀ {o : HO}, H a = some o → (∀ C dx fs, o ≠ .ins C dx fs) → a ≠ d := fun {o} e n z => by
    rw [z, hi] at e
    cases e
    exact n _ _ _ rfl
  cases b with
  | true =>
    rcases (show SqL K H a xs from h) with (h | ⟨o, h⟩) | h
    · exact SqX.list (.inl (.inl (s _ _ (ne h (fun _ _ _ z => nomatch z)) h)))
    · exact SqX.list (.inl (.inr ⟨o, s _ _ (ne h (fun _ _ _ z => nomatch z)) h⟩))
    · exact SqX.list (.inr h)
  | false =>
    rcases (show SqT K H a xs from h) with (h | ⟨o, h⟩) | h
    · exact SqX.tup (.inl (.inl (s _ _ (ne h (fun _ _ _ z => nomatch z)) h)))
    · exact SqX.tup (.inl (.inr ⟨o, s _ _ (ne h (fun _ _ _ z => nomatch z)) h⟩))
    · exact SqX.tup (.inr h)
mutual
theorem Da.butI {K : PySem.W.Frag} {H H' : Hp} {d C dx : Addr} {fs : List (Str × V)} (hi : H d = some (.ins C dx fs)) (s : But d H H') : ∀ {v : V} {t : Dt}, Da K H v t → Da K H' v t
  | _, _, .non => .non
  | _, _, .dct (a := a) h => .dct (s _ _ (fun z => by rw [z, hi] at h; cases h) h)
  | _, _, .int i => .int i
  | _, _, .str x l => .str x l
  | _, _, .lst h l => .lst (SqX.butI (b := true) h hi s) (DaAll.butI hi s l)
  | _, _, .tup h l => .tup (s _ _ (fun z => by rw [z, hi] at h; cases h) h) (DaAll.butI hi s l)
  | _, _, .nul h => .nul (SqX.butI (b := false) h hi s)
theorem DaAll.butI {K : PySem.W.Frag} {H H' : Hp} {d C dx : Addr} {fs : List (Str × V)} (hi : H d = some (.ins C dx fs)) (s : But d H H') : ∀ {v : List V} {t : List Dt}, DaAll K H v t → DaAll K H' v t
  | _, _, .nil => .nil
  | _, _, .cons h t => .cons (Da.butI hi s h) (DaAll.butI hi s t)
end
theorem Same.no {H H1 : Hp} {d : Addr} (s : Same H H1) (h : H1 d = none) : H d = none := none_back s h
/-! ### what is wrong -/
/-- the places of the things that fit -/
def idxs {α : Type} (p : α → Bool) (l : List α) : List Nat := (l.zipIdx.filter fun x => p x.1).map (·.2)
theorem idxs_snoc {α : Type} (p : α → Bool) (l : List α) (x : α) : idxs p (l ++ [x]) = if p x = true then idxs p l ++ [l.length] else idxs p l := by
  unfold idxs
  rw [List.zipIdx_append, List.filter_append, List.map_append]
  cases h : p x <;> simp [List.filter_cons, h]
theorem idxs_len {α : Type} (p : α → Bool) (l : List α) : (idxs p l).length ≤ l.length := by
  unfold idxs
  rw [List.length_map]
  exact Nat.le_trans (List.length_filter_le _ _) (by rw [List.length_zipIdx]; exact Nat.le_refl _)
def mkO : Option Rl → Bool
  | some r => isMk r
  | none => false
def oD : Option Rl → Dt
  | some r => dtL r
  | none => .non
theorem nl_O : ∀ o, nlD (oD o) = true
  | some r => nl_L r
  | none => rfl
/-- the numbers of the rules that do not fit -/
def wrongs (pl : List (Option Rl)) : List Nat := idxs (fun o => o.isNone) pl ++ (idxs mkO pl).drop 1
def natV (l : List Nat) : List V := l.map fun (n : Nat) => V.int (n : Int)
theorem idxs_nil {α : Type} {p : α → Bool} {l : List α} (h : idxs p l = []) : ∀ x ∈ l, p x = false := by
  intro x hx
  unfold idxs at h
  rw [List.map_eq_nil_iff, List.filter_eq_nil_iff] at h
  obtain ⟨i, hi, e⟩ := List.getElem_of_mem hx
  have := h (x, i) (by
    refine List.mem_iff_getElem.mpr ⟨i, by rw [List.length_zipIdx]; exact hi, ?_⟩
    rw [List.getElem_zipIdx, e]
    simp)
  simpa using this
theorem all_some {l : List Dt} (h : idxs (fun o => o.isNone) (l.map plainD) = []) : (l.map plainD).map oD = (l.filterMap plainD).map dtL := by
  have h2 := idxs_nil h
  clear h
  induction l with
  | nil => rfl
  | cons x l ih =>
    have h3 := h2 (plainD x) (by simp)
    cases e : plainD x with
    | none => rw [e] at h3; cases h3
    | some r =>
      rw [List.filterMap_cons, List.map_cons, List.map_cons, e, ih fun o ho => h2 o (List.mem_cons_of_mem _ ho)]
      rfl
theorem cut1 (xs : List V) : cutV xs (some 1) none = xs.drop 1 := by
  cases xs with
  | nil => rfl
  | cons x xs => rw [cut_from1]; rfl
/-- the number with which the making of a policy is refused -/
def PErr (d : Dt) (e : Option Nat) : Prop := (e = none ∧ (rowD d).isSome = false) ∨ ∃ l, rowD d = some l ∧ ((e = none ∧ 12 < l.length) ∨ (l.length ≤ 12 ∧ ∃ m, e = some m ∧ m ∈ wrongs (l.map plainD) ∧ ∀ y ∈ wrongs (l.map plainD), m ≤ y))
def flds (t : Addr) : List (Str × V) := putF "rules" (.ref t) []
theorem flds_r (t : Addr) : (flds t).lookup ("rules" : Str) = some (.ref t) := by
  unfold flds
  rw [lookup_putF, if_pos rfl]
theorem flds_no (t : Addr) {m : Str} (h : ¬ m = "rules") : (flds t).lookup m = none := by
  unfold flds
  rw [lookup_putF, if_neg h]
  rfl
/-- a policy at a -/
structure PoAt (K : PySem.W.Frag) (CP : Addr) (H : Hp) (a : Addr) (rs : List Rl) : Prop where
  ex : ∃ (dx t : Addr) (xs : List V), H a = some (.ins CP dx (flds t)) ∧ H t = some (.tup xs) ∧ DaAll K H xs (rs.map dtL)
theorem PoAt.same {K : PySem.W.Frag} {CP : Addr} {H H' : Hp} {a : Addr} {rs : List Rl} (S : PoAt K CP H a rs) (s : Same H H') : PoAt K CP H' a rs := by
  obtain ⟨dx, t, xs, h1, h2, h3⟩ := S.ex
  exact ⟨dx, t, xs, s _ _ h1, s _ _ h2, DaAll.same s h3⟩
/-- the error of class C with field f = v lies at d -/
def ErrAt (H : Hp) (d : Addr) (f : Str) (v : V) : Prop := H d = some (.xd [(f, v)])
/-- the rules of what is given -/
def rls (d : Dt) : List Rl := (lD d).filterMap plainD
/-- Policy(rules) -/
def spInit (K : PySem.W.Frag) (CP CB : Addr) : Sp := fun vs H Q E => ∃ (a dx : Addr) (v : V) (d : Dt), vs = [.ref a, v] ∧ H a = some (.ins CP dx []) ∧ Da K H v d ∧ smD d = true ∧ (∀ x ∈ lD d, hdT x = true) ∧
  (∀ e, PErr d e → ∀ dd H', Same H H' → H dd = none → ErrAt H' dd "number" (vNo e) → E (.ref CB) (some dd) H') ∧
  (∀ l, rowD d = some l → l.length ≤ 12 → wrongs (l.map plainD) = [] → ∀ H', But a H H' → PoAt K CP H' a (rls d) → Q .non H')
structure TxtI (P : Program) (K : PySem.W.Frag) (mg : Str → Option Value) (fR fPR CP CB fB cB cdB : Addr) (fdB : FuncData) : Prop where
  g : TxtG mg
  gR : mg "is_row" = some (.ref fR)
  kR : PySem.W.keepIn K (.ref fR) = true
  gPR : mg "plain_rule" = some (.ref fPR)
  kPR : PySem.W.keepIn K (.ref fPR) = true
  m12 : ∃ u, mg "MOST_RULES" = some u ∧ RelV (.int 12) u
  cl : Cls K CP
  nR : NoAttr K CP "rules"
  gP : mg "Policy" = some (.ref CP)
  gB : mg "BadPolicy" = some (.ref CB)
  B : BadTxt P K mg CB fB cB cdB "number" "this is no policy, or no rule of one" "BadPolicy.__init__" fdB
  bB : Binds K fdB ["self", "number"] []
theorem fld_number : FldN "number" := ⟨by decide, by decide, by decide, by decide, by decide⟩
section
variable {P : Program} {w : World} {K : PySem.W.Frag} {mg : Str → Option Value} {base : Heap} {f fR fPR CP CB fB cB cdB : Addr} {fd fdR fdPR fdB : FuncData}
abbrev nPI : List Str := ["self", "rules", "rule", "plain", "number", "makes", "wrong"]
theorem scPI : FnScope nPI ["self", "rules"] (defScope sInit) := ⟨rfl, rfl, rfl, by decide +kernel, rfl, by decide +kernel, by decide +kernel⟩
theorem ok_init (F : Fun K "__init__" "Policy.__init__" sInit f fd) (T : TxtI P K mg fR fPR CP CB fB cB cdB fdB)
    (GR : FnOk P w K mg base CX0 1 fR fdR ["value"] (spIsRow K)) (bR : Binds K fdR ["value"] []) (GP : FnOk P w K mg base CX0 4 fPR fdPR ["rule"] (spPR K)) (bP : Binds K fdPR ["rule"] []) :
    FnOk P w K mg base (L2.CX P w) 5 f fd ["self", "rules"] (spInit K CP CB) := by
  obtain ⟨u12, g12, r12⟩ := T.m12
  refine F.okX scPI (fun vs H Q E h => ?_) (fun cdv A outer s H vs Q E hr h => ?_)
  · obtain ⟨a, dx, v, d, rfl, _⟩ := h
    rfl
  · obtain ⟨a, dx, v, d, rfl, ha, da, sm, hd, qe, qk⟩ := h
    have hr1 := hr.mono (show 1 ≤ 4 by decide)
    have hr2 := hr.mono (show 2 ≤ 4 by decide)
    refine ⟨_, pss_cons (ps_if (PW.pt (pw_or (pt_not (pt_val (pe_call GR hr1 (by rfl) T.gR T.kR bR .nil pass0 (pa_cons (pv 1) pa_nil))))
        (pw_or1 (pt_cmpR op_gt (pe_callB call_len_seq (by rfl) T.g.f.len PySem.boot_len (pa_cons (pv 1) pa_nil)) (pe_glob (v := .int 12) (by rfl) g12 r12) (nomark _))))) (pss_one (ps_raiseBad rfl (takes_of rfl rfl rfl rfl) T.B fld_number T.bB hr2 (by rfl) T.gB (pa_cons pe_non pa_nil))) pss_nil)
      (pss_cons (ps_setLc (i := 3) (own := [("rule", 2)]) (g := gName 2) (tt := tYes) (te := tCall (spPR K) [] E0 (tCons (tVar 2) tNil)) rfl scPI.nd rfl rfl (sw_true rfl rfl rfl (by decide +kernel)) (pi_seq (pv 1)) (blkOk_by (N := nPI) (sc := defScope sInit) (by decide +kernel))
          (fun _ _ _ _ _ => pg_name (i := 2) scPI.nd rfl (Or.inl rfl)) (fun _ _ _ _ _ => pts_nil) (fun _ _ _ _ _ => pe_call GP hr (by rfl) T.gPR T.kPR bP .nil pass0 (pa_cons (pv 2) pa_nil)))
      (pss_cons (ps_setLc (i := 5) (own := [("number", 4), ("rule", 2)]) (g := gTup K 2 (gCons (gName 4) (gCons (gName 2) gNil))) (tt := tAnd (tTest (tNotN (tVar 2))) (tTest (tOp rEq (tOp (rIxT K) (tVar 2) (tC (.int 0))) (tC (.str "make"))))) (te := tVar 4) rfl scPI.nd rfl rfl (sw_true rfl rfl rfl (by decide +kernel)) (pi_enumX (by rfl) T.g.enum (pa_cons (pv 3) pa_nil)) (blkOk_by (N := nPI) (sc := defScope sInit) (by decide +kernel))
          (fun _ _ _ _ _ => pg_tup rfl (pgs_cons (pg_name (i := 4) scPI.nd rfl (Or.inl rfl)) (pgs_cons (pg_name (i := 2) scPI.nd rfl (Or.inl rfl)) pgs_nil))) (fun _ _ _ _ _ => pts_one (PW.pt (pw_and (pt_cmp (pc_notN (pv 2))) (pw_and1 (pt_cmpR op_eq (pe_ix ix_tup (pv 2) pe_int (fun _ _ => rfl)) pe_str (nomark _)))))) (fun _ _ _ _ _ => pv 4))
      (pss_cons (ps_set (i := 6) scPI.nd rfl (Or.inl rfl) (pe_op op_cat
          (pe_lc (own := [("number", 4), ("rule", 2)]) (g := gTup K 2 (gCons (gName 4) (gCons (gName 2) gNil))) (tt := tTest (tIsN (tVar 2))) (te := tVar 4) rfl scPI.nd (pi_enumX (by rfl) T.g.enum (pa_cons (pv 3) pa_nil)) (blkOk_by (N := nPI) (sc := defScope sInit) (by decide +kernel))
            (fun _ _ _ _ _ => pg_tup rfl (pgs_cons (pg_name (i := 4) scPI.nd rfl (Or.inl rfl)) (pgs_cons (pg_name (i := 2) scPI.nd rfl (Or.inl rfl)) pgs_nil))) (fun _ _ _ _ _ => pts_one (pt_cmp (pc_isN (pv 2)))) (fun _ _ _ _ _ => pv 4))
          (pe_slice sl_list (pv 5) (po_some pe_int) po_none)))
      (pss_cons (ps_if (pt_truth (pv 6) (by intro _; rfl)) (pss_one (ps_raiseBad rfl (takes_of rfl rfl rfl rfl) T.B fld_number T.bB hr2 (by rfl) T.gB (pa_cons (pe_callB (cr_min rfl) (by rfl) T.g.min (by decide +kernel) (pa_cons (pv 6) pa_nil)) pa_nil))) pss_nil)
      (pss_one (ps_fld (pv 0) (pe_callTy call_tuple_of (by rfl) T.g.f.tuple (by decide +kernel) (pa_cons (pv 3) pa_nil)) rfl)))))), ?_⟩
    have fin : ∀ {H1 : Hp} (e : Option Nat), Same H H1 → PErr d e → ∃ v', [vNo e] = [v'] ∧ ∀ dd, H1 dd = none → E (.ref CB) (some dd) (upd H1 dd (.xd [(("number" : Str), v')])) := fun {H1} e s1 h => ⟨_, rfl, fun dd hd => qe e h dd _ (Same.fresh s1 hd) (Same.no s1 hd) upd_same⟩
    refine ⟨_, rfl, v, tyOf d, (rowD d).isSome, rfl, da.ty, kit_row K d, fun H1 s1 => ⟨_, rfl, ?_⟩⟩
    cases er : rowD d with
    | none => exact iteT (iteT (fin none s1 (.inl ⟨rfl, by rw [er]; rfl⟩)))
    | some l =>
      refine iteF ?_
      obtain ⟨few, sml⟩ := smD_row sm er
      obtain ⟨b, ar, xs, rfl, hx, hl⟩ := da.row er
      have lx := hl.len
      have ld : lD d = l := by unfold lD; rw [er]; rfl
      rw [ld] at hd
      refine ⟨_, rfl, ar, xs, rfl, (hx.same s1).either, _, _, rfl, rfl, _, rfl, ?_⟩
      by_cases c1 : 12 < l.length
      · rw [decide_eq_true (show (xs.length : Int) > 12 by omega)]
        exact iteT (fin none s1 (.inr ⟨l, er, .inl ⟨rfl, c1⟩⟩))
      rw [decide_eq_false (show ¬ (xs.length : Int) > 12 by omega)]
      refine iteF ?_
      have hx1 := hx.same s1
      have hl1 := hl.same s1
      refine ⟨_, rfl, b, ar, xs, rfl, hx1, fun J wk D hD => lcX wk hD (fun i acc H => DaAll K (less D H) acc (((l.take i).map plainD).map oD)) (by rw [sizeLine_eq]; omega) (fun _ _ _ _ r b => DaAll.same (less_but b) r) .nil (fun H2 s2 => hx1.same s2) ?_ ?_⟩
      · intro i x H2 acc hi ex s2 e r Nx yes no
        obtain ⟨dx1, ed, dax⟩ := hl1.at ex
        have up : l.take (i + 1) = l.take i ++ [dx1] := take_up ed
        have mx := List.mem_of_getElem? ed
        refine ⟨rfl, tYes_ok ?_⟩
        have go : ∀ v2 H3, Same H2 H3 → Da K H3 v2 (oD (plainD dx1)) → DaAll K (less D H3) (acc ++ [v2]) (((l.take (i + 1)).map plainD).map oD) := fun v2 H3 s3 d3 => by
          rw [up, List.map_append, List.map_append]
          exact DaAll.app (DaAll.same (less_mono s3) r) (.cons (Da.lessN (s3 _ _ e) d3 (nl_O _)) .nil)
        refine ⟨_, rfl, x, dx1, rfl, Da.same s2 dax, smA_mem sml mx, hd _ mx, fun e3 H3 s3 => yes _ _ s3 (go _ _ s3 (by rw [e3]; exact .non)), fun r3 e3 v3 H3 s3 d3 => yes _ _ s3 (go _ _ s3 (by rw [e3]; exact d3))⟩
      · intro H2 pls s2 e r
        rw [lx, List.take_length] at r
        have r2 := DaAll.same less_same r
        have s02 := s1.trans s2
        have lp : pls.length = l.length := by rw [r2.len, List.length_map, List.length_map]
        generalize hpl : l.map plainD = pl at r2 lp
        have lpl : pl.length = l.length := by rw [← hpl, List.length_map]
        refine ⟨_, rfl, true, D, pls, rfl, SqX.list (SqL.of e), fun J2 wk2 C hC => lcE wk2 hC (fun i acc H => acc = natV (idxs mkO (pl.take i))) (by rw [sizeLine_eq]; omega) (fun _ _ _ _ r _ => r) rfl (fun H3 s3 => SqX.list (SqL.of (s3 _ _ e))) ?_ ?_⟩
        · intro i x T1 H3 acc hi ex s3 hT e3 r3 Nx yes no
          obtain ⟨dx1, ed, dax⟩ := (r2.same s3).at ex
          rw [List.getElem?_map] at ed
          obtain ⟨o, eo, rfl⟩ := Option.map_eq_some_iff.mp ed
          have up : pl.take (i + 1) = pl.take i ++ [o] := take_up eo
          have sT : Same H3 (upd H3 T1 (.tup [.int (i : Nat), x])) := Same.fresh (Same.refl _) hT
          refine ⟨T1, _, rfl, .inl (.inl upd_same), rfl, _, _, rfl, _, _, rfl, rfl, rfl, ?_⟩
          have lt : (pl.take i).length = i := by rw [List.length_take]; omega
          cases o with
          | none =>
            cases dax
            refine ⟨_, rfl, _, rfl, ?_⟩
            rw [decide_eq_true (rfl : V.non = V.non)]
            refine iteF (iteF (no _ sT ?_))
            rw [r3, up, idxs_snoc]
            rfl
          | some r =>
            obtain ⟨ra, ys, rfl, hra, hys⟩ := rule_at (show Da K H3 x (dtL r) from dax)
            refine ⟨_, rfl, _, rfl, ?_⟩
            rw [decide_eq_false (show ¬ V.ref ra = V.non from fun z => by cases z)]
            refine iteT ?_
            refine ⟨_, rfl, ra, _, _, _, rfl, rfl, .inl (.inl (sT _ _ hra)), atI_nat (j := 0) rfl, rfl, _, rfl, ?_⟩
            rw [show decide (V.str (headS r) = V.str "make") = isMk r by rw [← head_make, Bool.eq_iff_iff, decide_eq_true_eq, decide_eq_true_eq, V.str.injEq]]
            cases em : isMk r with
            | true =>
              refine iteT ⟨_, rfl, yes _ _ sT ?_⟩
              rw [r3, up, idxs_snoc, if_pos (show mkO (some r) = true from em), lt]
              unfold natV
              rw [List.map_append]
              rfl
            | false =>
              refine iteF (no _ sT ?_)
              rw [r3, up, idxs_snoc, if_neg (show ¬ mkO (some r) = true from fun z => by rw [show mkO (some r) = isMk r from rfl, em] at z; cases z)]
        · intro H3 mks s3 e3 r3
          rw [show pls.length = pl.length by omega, List.take_length] at r3
          have e3D := s3 _ _ e
          have r23 := r2.same s3
          refine ⟨_, rfl, true, D, pls, rfl, SqX.list (SqL.of e3D), fun J4 wk4 C4 hC4 => lcE wk4 hC4 (fun i acc H => acc = natV (idxs (fun o => o.isNone) (pl.take i))) (by rw [sizeLine_eq]; omega) (fun _ _ _ _ r _ => r) rfl (fun H4 s4 => SqX.list (SqL.of (s4 _ _ e3D))) ?_ ?_⟩
          · intro i x T1 H4 acc hi ex s4 hT e4 r4 Nx yes no
            obtain ⟨dx1, ed, dax⟩ := (r23.same s4).at ex
            rw [List.getElem?_map] at ed
            obtain ⟨o, eo, rfl⟩ := Option.map_eq_some_iff.mp ed
            have up : pl.take (i + 1) = pl.take i ++ [o] := take_up eo
            have sT : Same H4 (upd H4 T1 (.tup [.int (i : Nat), x])) := Same.fresh (Same.refl _) hT
            refine ⟨T1, _, rfl, .inl (.inl upd_same), rfl, _, _, rfl, _, _, rfl, rfl, rfl, ?_⟩
            have lt : (pl.take i).length = i := by rw [List.length_take]; omega
            cases o with
            | none =>
              cases dax
              refine ⟨_, rfl, _, rfl, ?_⟩
              rw [decide_eq_true (rfl : V.non = V.non)]
              refine iteT ⟨_, rfl, yes _ _ sT ?_⟩
              rw [r4, up, idxs_snoc, if_pos (show (none : Option Rl).isNone = true from rfl), lt]
              unfold natV
              rw [List.map_append]
              rfl
            | some r =>
              obtain ⟨ra, ys, rfl, hra, hys⟩ := rule_at (show Da K H4 x (dtL r) from dax)
              refine ⟨_, rfl, _, rfl, ?_⟩
              rw [decide_eq_false (show ¬ V.ref ra = V.non from fun z => by cases z)]
              refine iteF (no _ sT ?_)
              rw [r4, up, idxs_snoc, if_neg (fun z => by cases z)]
          · intro H4 nos s4 e4 r4
            rw [show pls.length = pl.length by omega, List.take_length] at r4
            refine ⟨_, rfl, _, rfl, C, mks, rfl, SqL.of (s4 _ _ e3), fun p hp => ?_⟩
            rw [cut1]
            have n4p : C4 ≠ p := fun z => by rw [← z, e4] at hp; cases hp
            refine ⟨C4, p, nos, mks.drop 1, rfl, rfl, by rw [upd_ne n4p]; exact e4, upd_same, ?_, fun q hq => ?_⟩
            · have l1 := idxs_len mkO pl
              have l2 := idxs_len (fun o => o.isNone) pl
              rw [List.length_drop, r3, r4, natV, natV, List.length_map, List.length_map, sizeLine_eq]
              omega
            have s5 : Same H4 (upd (upd H4 p (.lst (mks.drop 1))) q (.lst (nos ++ mks.drop 1))) := Same.fresh (Same.fresh (Same.refl _) hp) hq
            have ew : nos ++ mks.drop 1 = natV (wrongs pl) := by
              rw [r3, r4]
              unfold natV wrongs
              rw [List.map_append, List.map_drop]
            have e5 : upd (upd H4 p (.lst (mks.drop 1))) q (.lst (nos ++ mks.drop 1)) q = some (.lst (natV (wrongs pl))) := by rw [upd_same, ew]
            generalize upd (upd H4 p (.lst (mks.drop 1))) q (.lst (nos ++ mks.drop 1)) = H5 at s5 e5
            have s25 := (s3.trans s4).trans s5
            have s05 := s02.trans s25
            refine ⟨_, rfl, _, .inl ⟨_, SqL.of e5, rfl⟩, ?_⟩
            cases hw : wrongs pl with
            | cons m0 ws =>
              rw [hw] at e5
              refine iteT ?_
              refine ⟨_, rfl, q, (m0 :: ws).map fun (n : Nat) => (n : Int), rfl, SqL.of (by rw [e5, natV, List.map_map]; rfl), by simp, fun m hm lo => ?_⟩
              obtain ⟨m1, hm1, rfl⟩ := List.mem_map.mp hm
              refine fin (some m1) s05 (.inr ⟨l, er, .inr ⟨by omega, m1, rfl, by rw [hpl, hw]; exact hm1, fun y hy => ?_⟩⟩)
              rw [hpl, hw] at hy
              have := lo _ (List.mem_map.mpr ⟨y, hy, rfl⟩)
              omega
            | nil =>
              refine iteF ?_
              have e2D := s25 _ _ e
              refine ⟨_, rfl, D, pls, rfl, .inl ⟨SqL.of e2D, fun t0 ht0 => ?_⟩⟩
              have at0 : a ≠ t0 := fun z => by rw [← z, s05 _ _ ha] at ht0; cases ht0
              refine ⟨_, rfl, a, CP, dx, [], rfl, (by rw [upd_ne at0]; exact s05 _ _ ha), T.cl, T.nR, (by show 0 < 1000; decide), ?_⟩
              have b1 : But a H (upd (upd H5 t0 (.tup pls)) a (.ins CP dx (flds t0))) := ((But.of s05).new ht0).upd
              refine qk l er (by omega) (by rw [hpl]; exact hw) _ b1 ⟨dx, t0, pls, upd_same, by rw [upd_ne at0.symm, upd_same], ?_⟩
              have e7 : pl.map oD = (rls d).map dtL := by
                unfold rls
                rw [ld, ← hpl]
                rw [← hpl] at hw
                exact all_some (List.append_eq_nil_iff.mp hw).1
              rw [← e7]
              have z1 : DaAll K H5 pls (pl.map oD) := DaAll.same s25 r2
              exact DaAll.butI (d := a) (by rw [upd_ne at0]; exact s05 _ _ ha) (But.rfl'.upd) (DaAll.same (Same.fresh (Same.refl _) ht0) z1)
end
end K
set_option Elab.async false
set_option linter.all false
set_option maxRecDepth 100000
set_option maxHeartbeats 4000000
/-! Rules that are as a policy keeps them. -/
namespace K
open PySem L2 Hk PyProof.Rows
theorem sortT_perm (l : List Str) : (l.mergeSort leT).Perm l := List.mergeSort_perm _ _
theorem sortT_pw (l : List Str) : (l.mergeSort leT).Pairwise fun a b => leT a b = true :=
  List.pairwise_mergeSort (le := leT) (fun a b c => leT_total.trans a b c) (fun (a b : Str) => by have z := leT_total.total a b; simpa using z) _
theorem sortT_is {l m : List Str} (h : l.Perm m) : l.mergeSort leT = m.mergeSort leT := sorted_one leT_anti (sortT_pw l) (sortT_pw m) ((sortT_perm l).trans (h.trans (sortT_perm m).symm))
theorem sortT_self (l : List Str) : (l.mergeSort leT).mergeSort leT = l.mergeSort leT := sortT_is (sortT_perm l)
theorem strsD_map : ∀ ws : List Str, strsD (ws.map Dt.str) = ws
  | [] => rfl
  | x :: ws => by
    have ih := strsD_map ws
    show x :: strsD (ws.map Dt.str) = x :: ws
    rw [ih]
theorem prsD_map : ∀ ps : List (Str × Str), prsD (ps.map dtP) = ps
  | [] => rfl
  | x :: ps => by
    have ih := prsD_map ps
    show x :: prsD (ps.map dtP) = x :: ps
    rw [ih]
theorem all_words {ws : List Str} (h : ∀ x ∈ ws, wordOk 8 x = true) : (ws.map Dt.str).all (wordD 8) = true := by
  rw [List.all_map, List.all_eq_true]
  exact h
theorem all_pairs {ps : List (Str × Str)} (h : ∀ p ∈ ps, wordOk 8 p.1 = true ∧ wordOk 8 p.2 = true) : (ps.map dtP).all (grpD 2) = true := by
  rw [List.all_map, List.all_eq_true]
  intro p hp
  obtain ⟨h1, h2⟩ := h p hp
  show (decide ((([Dt.str p.1, Dt.str p.2].length : Nat) : Int) = 2) && (wordD 8 (.str p.1) && (wordD 8 (.str p.2) && true))) = true
  rw [show wordD 8 (.str p.1) = true from h1, show wordD 8 (.str p.2) = true from h2]
  rfl
theorem plain_mk {d : Dt} {ws : List Str} (e : rowD d = some (ws.map Dt.str)) (h : ∀ x ∈ ws, wordOk 8 x = true) (nd : ws.Nodup) (l1 : 1 ≤ ws.length) (l2 : ws.length ≤ 9) : plainD (.tup [.str "make", d]) = some (.mk (ws.mergeSort leT)) := by
  have es : sD d = ws := by
    unfold sD lD
    rw [e]
    exact strsD_map ws
  have ow : okW d = true := by
    unfold okW wordsD
    rw [e, es]
    dsimp only
    rw [strsD_map, all_words h, decide_eq_true nd, decide_eq_true l1, decide_eq_true l2]
    rfl
  show plainT "make" [d] = _
  unfold plainT
  rw [if_pos ⟨rfl, rfl⟩]
  show (if okW d = true then _ else _) = _
  rw [if_pos ow, es]
theorem knd_ft (b : Bool) : ftB (knd b) = true ∧ (decide (knd b = "fetch")) = b ∧ knd b ≠ "make" := by
  cases b
  · exact ⟨ftB_s.2.1, by decide +kernel, by decide +kernel⟩
  · exact ⟨ftB_s.1, by decide +kernel, by decide +kernel⟩
theorem pairs_of {d : Dt} {ps : List (Str × Str)} (e : rowD d = some (ps.map dtP)) (h : ∀ p ∈ ps, wordOk 8 p.1 = true ∧ wordOk 8 p.2 = true) (nd : ps.Nodup) (l1 : 1 ≤ ps.length) (l2 : ps.length ≤ 9) : pairsD d = some (srtP ps) := by
  have ok : okP (ps.map dtP) = true := by
    unfold okP
    rw [List.length_map, prsD_map, all_pairs h, decide_eq_true nd, decide_eq_true l1, decide_eq_true l2]
    rfl
  rw [pairsD_row e, if_pos ok, prsD_map]
theorem plain_ft {b : Bool} {a : Str} {d : Dt} {ps : List (Str × Str)} (e : rowD d = some (ps.map dtP)) (ha : wordOk 8 a = true) (h : ∀ p ∈ ps, wordOk 8 p.1 = true ∧ wordOk 8 p.2 = true) (nd : ps.Nodup) (l1 : 1 ≤ ps.length) (l2 : ps.length ≤ 9) :
    plainD (.tup [.str (knd b), .str a, d]) = some (.ft b a (srtP ps)) := by
  obtain ⟨k1, k2, k3⟩ := knd_ft b
  show plainT (knd b) [.str a, d] = _
  unfold plainT
  rw [if_neg (fun h => k3 h.1), if_pos ⟨k1, rfl, ha⟩]
  show (pairsD d).map _ = _
  rw [pairs_of e h nd l1 l2, k2]
  rfl
theorem plain_rs {a b : Str} (ha : wordOk 8 a = true) (hb : wordOk 8 b = true) : plainD (dtL (.rs a b)) = some (.rs a b) := by
  show plainT "raise" [.str a, .str b] = _
  have g : grpD 2 (.tup [.str a, .str b]) = true := by
    show (decide ((2 : Int) = 2) && (wordD 8 (.str a) && (wordD 8 (.str b) && true))) = true
    rw [show wordD 8 (.str a) = true from ha, show wordD 8 (.str b) = true from hb]
    rfl
  unfold plainT
  rw [if_neg (fun h => absurd h.1 (by decide +kernel)), if_neg (fun h => by rw [ftB_s.2.2.1] at h; cases h.1), if_pos ⟨rfl, g⟩]
theorem plain_mt {a b c : Str} (ha : wordOk 8 a = true) (hb : wordOk 8 b = true) (hc : wordOk 8 c = true) : plainD (dtL (.mt a b c)) = some (.mt a b c) := by
  show plainT "meet" [.str a, .str b, .str c] = _
  have g : grpD 3 (.tup [.str a, .str b, .str c]) = true := by
    show (decide ((3 : Int) = 3) && (wordD 8 (.str a) && (wordD 8 (.str b) && (wordD 8 (.str c) && true)))) = true
    rw [show wordD 8 (.str a) = true from ha, show wordD 8 (.str b) = true from hb, show wordD 8 (.str c) = true from hc]
    rfl
  unfold plainT
  rw [if_neg (fun h => absurd h.1 (by decide +kernel)), if_neg (fun h => by rw [ftB_s.2.2.2.1] at h; cases h.1), if_neg (fun h => absurd h.1 (by decide +kernel)), if_pos ⟨rfl, g⟩]
/-- a rule as a policy keeps it -/
structure Rok (r : Rl) : Prop where
  pl : plainD (dtL r) = some r
  sm : smD (dtL r) = true
  nw : (wordsOf r).length < 20
theorem hd_L (r : Rl) : hdT (dtL r) = true := by rw [dtL_is]; rfl
theorem smA_map {α : Type} {f : α → Dt} (h : ∀ x, smD (f x) = true) : ∀ l : List α, smA (l.map f) = true
  | [] => rfl
  | x :: l => by rw [List.map_cons, smA, h x, smA_map h l]; rfl
theorem flat2 : ∀ l : List (Str × Str), (l.map fun p => [p.1, p.2]).flatten.length = 2 * l.length
  | [] => rfl
  | x :: l => by
    rw [List.map_cons, List.flatten_cons, List.length_append, flat2 l, List.length_cons]
    simp only [List.length_cons, List.length_nil]
    omega
theorem rok_ft {b : Bool} {a : Str} {ps : List (Str × Str)} (ha : wordOk 8 a = true) (h : ∀ p ∈ ps, wordOk 8 p.1 = true ∧ wordOk 8 p.2 = true) (nd : ps.Nodup) (l1 : 1 ≤ ps.length) (l2 : ps.length ≤ 9) (s : srtP ps = ps) : Rok (.ft b a ps) where
  pl := by
    have := plain_ft (b := b) (a := a) (d := .tup (ps.map dtP)) rfl ha h nd l1 l2
    rw [s] at this
    exact this
  sm := by
    show (decide (3 < 60) && (true && (true && ((decide ((ps.map dtP).length < 60) && smA (ps.map dtP)) && true)))) = true
    rw [List.length_map, smA_map (fun _ => rfl), decide_eq_true (show ps.length < 60 by omega)]
    rfl
  nw := by
    show ((ps.map fun p => [p.1, p.2]).flatten).length + 1 < 20
    rw [flat2]
    omega
theorem rok_rs {a b : Str} (ha : wordOk 8 a = true) (hb : wordOk 8 b = true) : Rok (.rs a b) := ⟨plain_rs ha hb, rfl, by show 2 < 20; decide⟩
theorem rok_mt {a b c : Str} (ha : wordOk 8 a = true) (hb : wordOk 8 b = true) (hc : wordOk 8 c = true) : Rok (.mt a b c) := ⟨plain_mt ha hb hc, rfl, by show 3 < 20; decide⟩
theorem rok_mk {ws : List Str} (h : ∀ x ∈ ws, wordOk 8 x = true) (nd : ws.Nodup) (l1 : 1 ≤ ws.length) (l2 : ws.length ≤ 9) (s : ws.mergeSort leT = ws) : Rok (.mk ws) where
  pl := by
    have := plain_mk (d := .tup (ws.map Dt.str)) rfl h nd l1 l2
    rw [s] at this
    exact this
  sm := by
    show (decide (2 < 60) && (true && ((decide ((ws.map Dt.str).length < 60) && smA (ws.map Dt.str)) && true))) = true
    rw [List.length_map, smA_map (fun _ => rfl), decide_eq_true (show ws.length < 60 by omega)]
    rfl
  nw := by
    show ws.length < 20
    omega
/-- rules that make a policy -/
structure Pok (rs : List Rl) : Prop where
  all : ∀ r ∈ rs, Rok r
  few : rs.length ≤ 12
  one : (rs.filter isMk).length ≤ 1
theorem idxs_length {α : Type} (p : α → Bool) (l : List α) : (idxs p l).length = (l.filter p).length := by
  unfold idxs
  rw [List.length_map]
  have e : (l.zipIdx.filter fun x => p x.1).map (·.1) = l.filter p := by
    have := List.filter_map (p := p) (f := fun x : α × Nat => x.1) (l := l.zipIdx)
    rw [show (l.zipIdx.map fun x : α × Nat => x.1) = l from List.zipIdx_map_fst 0 l] at this
    exact this.symm
  rw [← e, List.length_map]
theorem plains {rs : List Rl} (h : ∀ r ∈ rs, Rok r) : (rs.map dtL).map plainD = rs.map some := by
  rw [List.map_map]
  exact List.map_congr_left fun r hr => (h r hr).pl
theorem wr_ok {rs : List Rl} (h : Pok rs) : wrongs ((rs.map dtL).map plainD) = [] := by
  rw [plains h.all]
  have e1 : (idxs (fun o : Option Rl => o.isNone) (rs.map some)).length = 0 := by
    rw [idxs_length, List.filter_map, List.length_map]
    refine List.length_eq_zero_iff.mpr (List.filter_eq_nil_iff.mpr fun r _ => ?_)
    simp
  have e2 : (idxs mkO (rs.map some)).length ≤ 1 := by
    rw [idxs_length, List.filter_map, List.length_map]
    exact h.one
  unfold wrongs
  rw [List.length_eq_zero_iff.mp e1, List.nil_append]
  refine List.length_eq_zero_iff.mp ?_
  rw [List.length_drop]
  omega
theorem rls_ok {d : Dt} {rs : List Rl} (e : rowD d = some (rs.map dtL)) (h : ∀ r ∈ rs, Rok r) : rls d = rs := by
  unfold rls lD
  rw [e]
  show (rs.map dtL).filterMap plainD = rs
  clear e
  induction rs with
  | nil => rfl
  | cons r rs ih => rw [List.map_cons, List.filterMap_cons, (h r List.mem_cons_self).pl, ih fun x hx => h x (List.mem_cons_of_mem _ hx)]
theorem Pok.sub {rs ss : List Rl} (h : Pok rs) (s : ss.Sublist rs) : Pok ss := ⟨fun r hr => h.all r (s.subset hr), Nat.le_trans s.length_le h.few, Nat.le_trans (s.filter isMk).length_le h.one⟩
theorem sm_rs {rs : List Rl} (h : ∀ r ∈ rs, Rok r) : smA (rs.map dtL) = true := by
  induction rs with
  | nil => rfl
  | cons r rs ih => rw [List.map_cons, smA, (h r List.mem_cons_self).sm, ih fun x hx => h x (List.mem_cons_of_mem _ hx)]; rfl
theorem hd_rs (rs : List Rl) : ∀ x ∈ rs.map dtL, hdT x = true := fun x hx => by
  obtain ⟨r, _, rfl⟩ := List.mem_map.mp hx
  exact hd_L r
theorem noErr {d : Dt} {l : List Dt} (e : rowD d = some l) (few : l.length ≤ 12) (w : wrongs (l.map plainD) = []) (o : Option Nat) : ¬ PErr d o := by
  rintro (⟨_, h⟩ | ⟨m, e2, h⟩)
  · rw [e] at h
    cases h
  · rw [e] at e2
    cases e2
    rcases h with ⟨_, h⟩ | ⟨_, m, _, h, _⟩
    · omega
    · rw [w] at h
      cases h
end K
set_option Elab.async false
set_option linter.all false
set_option maxRecDepth 100000
set_option maxHeartbeats 4000000
/-! list(a), a of an own class whose __iter__ gives a list's iterator, and that has __len__. -/
namespace Hk
open PySem L2
open PySem.W (Frag Looks findIn looks_findIn InstAt CmpBack)
section
variable {X : Cx} {CX : CXT} {k : Nat} {f C : Addr} {fd : FuncData} {ps : List Str} {sp : Sp} {E : XK} {pins : List (Addr × Obj)} {σ : L2.St} {H : Hp} {s : Shared} {A : Around}
/-- a def is run somewhere below -/
theorem run_sub {Q Ex : Value → Shared → Prop} {QV : VK} {us : List Value} {vs : List V} (F : FnOk X.prog X.w X.K X.mg X.base CX k f fd ps sp) (sb : Sub X k A) (hb : Binds X.K fd ps []) (hx : ∀ e s', CX X.stack H s E e s' → Ex e s')
    (I : L2.Inv X pins σ H s) (r : Vals vs us) (h : sp vs H QV E) (hq : ∀ u s', CE X.stack X.prog X.w H s QV u s' → Q u s') : wpAny (model X.prog X.w) A (call (.ref f) us) Q Ex s := by
  have hl : (us ++ []).length = ps.length := by
    rw [List.append_nil, ← r.length]
    exact F.len _ _ _ _ h
  have b := hb s us I.kIn hl
  rw [List.append_nil] at b
  have e := I.env0
  have e0 : Env0 X.prog X.w X.K X.mg X.base A X.stack s H := ⟨by rw [sb.fr]; exact e.frames, e.mod, e.bs, e.bsz, e.funs, e.frf, e.hok, e.bare⟩
  refine wpAny_call (codeAny_mono (F.run A X.stack s H ⟨us, []⟩ us vs QV E sb.room e0 b r h) fun r s' hq' => ?_)
  cases r with
  | error er => exact hx er s' hq'
  | ok fl =>
    cases fl with
    | ret u => exact hq u s' hq'
    | next => exact False.elim hq'
    | brk => exact False.elim hq'
    | cont => exact False.elim hq'
/-- a call's end that has tracked one object more: it is forgotten again, and stands -/
theorem forget {it : Addr} {φ : Heap → Prop} {s' : Shared} (I : L2.Inv X pins σ H s) (os : s'.os = s.os) (bare : PyProof.Rows.AllBare s'.gens) (un : Un (frs X.stack) [] H (upd H it (.ext φ)) s.heap s'.heap) (hok : HOk X.prog X.w (upd H it (.ext φ)) s'.heap) (hn : H it = none) :
    L2.Inv X pins σ H s' ∧ s.heap.get? it = none ∧ φ s'.heap ∧ Un (frs X.stack) [] H H s.heap s'.heap := by
  have n0 : s.heap.get? it = none := by
    cases e : s.heap.get? it with
    | none => rfl
    | some o =>
      have z := un.free it o e hn (by simp)
      rw [upd_same] at z
      cases z
  have ne : ∀ b o, s.heap.get? b = some o → b ≠ it := fun b o e z => by
    rw [z, n0] at e
    cases e
  have fh : φ s'.heap := (show ObjOk X.prog X.w (upd H it (.ext φ)) s'.heap it (.ext φ) from hok it _ upd_same).1
  have un2 : Un (frs X.stack) [] H H s.heap s'.heap := {
    keep := fun b o e n hf hx => un.keep b o e n hf hx
    slot := fun b o e n hf hx => un.slot b o e n hf hx
    free := fun b o e n hx => n
    there := fun b o e hx => un.there b o e hx
    tups := fun b xs e => e
    frzs := fun b o u e => e
    tbls := fun b ps e => ⟨#[], by rw [e, Array.append_empty]⟩ }
  refine ⟨?_, n0, fh, un2⟩
  have hok2 : HOk X.prog X.w H s'.heap := fun b o e => by
    have hb : b ≠ it := fun z => by rw [z, hn] at e; cases e
    have x := hok b o (by rw [upd_ne hb]; exact e)
    refine x.stay (fun c u _ q => q) (fun c q => ?_) (fun c xs q => ?_)
    · by_cases hc : c = it
      · rw [hc, upd_same] at q
        have z := Option.some.inj q
        cases z
      · rw [upd_ne hc] at q
        exact q
    · by_cases hc : c = it
      · rw [hc, upd_same] at q
        have z := Option.some.inj q
        cases z
      · rw [upd_ne hc] at q
        exact q
  exact I.call' (ch := []) os un2 hok2 bare (fun b z => absurd z (by simp))
/-- list(a) -/
def rListI (C : Addr) (spI spL : Sp) (E : XK) : List V → Hp → VK → Prop := fun xs H Q => ∃ (a dx : Addr) (fs : List (Str × V)) (r : Addr) (ys : List V), xs = [.ref a] ∧ H a = some (.ins C dx fs) ∧ H r = some (.lst ys) ∧ ys.length < 1000000 ∧
  (∀ H', Same H H' → ∀ Q' : VK, (∀ it, H' it = none → Q' (.ref it) (upd H' it (ItO r it 0))) → spI [.ref a] H' Q' E) ∧
  (∀ H', Same H H' → ∀ Q' : VK, Q' (.int ys.length) H' → spL [.ref a] H' Q' E) ∧ ∀ l H', Same H H' → H l = none → H' l = some (.lst ys) → Q (.ref l) H'
variable {fi fL : Addr} {fdI fdL : FuncData} {psI psL : List Str} {spI spL : Sp} {CI : CXT}
theorem call_listI (hi : findIn X.K (.ref C) "__iter__" = some (some (.ref fi))) (hiF : PySem.W.isFn X.K (.ref fi) = true) (hl : findIn X.K (.ref C) "__len__" = some (some (.ref fL))) (hlF : PySem.W.isFn X.K (.ref fL) = true)
    (FI : FnOk X.prog X.w X.K X.mg X.base CI k fi fdI psI spI) (bI : Binds X.K fdI psI []) (xI : Passes CI X E) (FL : FnOk X.prog X.w X.K X.mg X.base CX0 k fL fdL psL spL) (bL : Binds X.K fdL psL []) (hc : X.calm = true) (hr : Room (k + 4) X.A) : CallR X (.type "list") (rListI C spI spL E) := by
  intro pins s σ H xs us Q I rv h
  obtain ⟨a, dx, fs, r, ys, rfl, ha, hrl, hy, qI, qL, q⟩ := h
  rw [Vals.ref1 rv]
  have sb2 : Sub X (k + 2) X.A.in1.in1 := Sub.in1 (Sub.in1 (⟨hr, rfl⟩ : Sub X (k + 4) X.A))
  have sb : Sub X k X.A.in1.in1 := sb2.mono (by omega)
  refine callType_codes (Q₁ := fun obj s₁ => obj = .ref s.heap.objs.size ∧ s₁ = { s with heap := s.heap.push { cls := .type "list", data := .seq #[] } }) PySem.F.called_list (PySem.F.typeCall_list_1 _) PySem.F.entry_list_init
    (code_list_new _ ⟨rfl, rfl⟩) fun obj s₁ h₁ => ?_
  obtain ⟨rfl, rfl⟩ := h₁
  have hS : (s.heap.push { cls := .type "list", data := .seq #[] }).get? s.heap.objs.size = some { cls := .type "list", data := .seq #[] } := Heap.get?_push_size _ rfl
  refine ⟨⟨_, hS, rfl⟩, PySem.F.args_list_init_2 _ _, ?_⟩
  have fr : H s.heap.objs.size = none := I.hok.fresh (Nat.le_refl _)
  have I1 : L2.Inv X pins σ (upd H s.heap.objs.size (.lst [])) { s with heap := s.heap.push { cls := .type "list", data := .seq #[] } } := I.lnew (its := []) (t' := s.toks) .nil (Nat.zero_le _)
  show wpAny _ _ (do let old ← Builtin.List.listItems (.ref s.heap.objs.size); Builtin.List.listUpdate (.ref s.heap.objs.size) (fun _ => #[]); letGo old.toList.reverse; Builtin.List.listExtendWith (.ref s.heap.objs.size) (.ref a) .none) _ _ _
  generalize hSz : s.heap.objs.size = S at *
  refine wpAny_bind ?_
  unfold Builtin.List.listItems
  refine wpAny_bind (wpAny_seqItems hS rfl (wpAny_pure ?_))
  show wpAny _ _ (updateSeq S (fun _ => #[]) >>= fun _ => letGo (#[] : Array Value).toList.reverse >>= fun _ => Builtin.List.listExtendWith (.ref S) (.ref a) .none) _ _ _
  refine wpAny_bind (wpAny_updateSeq hS rfl ?_)
  have I2 := I1.lset (f := fun _ => #[]) (its := []) (its' := []) (ys := []) (t' := s.toks) upd_same hS rfl .nil (Nat.zero_le _)
  rw [upd_upd] at I2
  refine wpAny_bind (wpAny_letGo ?_)
  have sH : Same H (upd H S (.lst [])) := Same.fresh (Same.refl _) fr
  have haS := sH _ _ ha
  generalize hs2 : ({ s with heap := (s.heap.push { cls := .type "list", data := .seq #[] }).update S (Obj.mapSeq fun _ => #[]), toks := s.toks } : Shared) = s2 at I2
  have hne : S ≠ a := fun z => by rw [z, ha] at fr; cases fr
  obtain ⟨mA, J, _⟩ := ins_get I2.hok haS
  obtain ⟨od, J, _⟩ := J.look
  obtain ⟨m0, hF⟩ := I2.fr
  unfold Builtin.List.listExtendWith
  refine wpAny_bind (J.type.here ?_)
  have h1 : Builtin.List.listSameRef (.ref S) (.ref a) = false := by simp [Builtin.List.listSameRef, hne]
  have h2 : (Value.ref C == Value.type "list") = false := rfl
  have h3 : (Value.ref C == Value.type "tuple") = false := rfl
  simp only [h1, h2, h3, Bool.or_false, Bool.false_eq_true, if_false]
  refine wpAny_bind (PySem.W.owit_iter hF I2.ok.mod.kin J hi hiF ?_)
  refine run_sub FI sb bI (fun e s' z => xI pins σ _ _ e s' I2 z) I2 v1 (qI _ sH (fun v H' => ∃ it, v = .ref it ∧ upd H S (.lst []) it = none ∧ H' = upd (upd H S (.lst [])) it (ItO r it 0)) fun it n => ⟨it, rfl, n, rfl⟩) fun u s3 ce => ?_
  obtain ⟨v, H', os3, bare3, un3, hok3, rv3, it, ev, nit, eH⟩ := ce
  subst ev
  subst eH
  cases (show u = Value.ref it from rv3)
  obtain ⟨I3, n0, hit, un23⟩ := forget I2 os3 bare3 un3 hok3 nit
  have hit : s3.heap.get? it = some (GNX.itObj r 0) := hit
  have nS : it ≠ S := fun z => by rw [z, upd_same] at nit; cases nit
  have nL : it ≠ X.env.locals := fun z => by
    have lt := I2.lt
    obtain ⟨m, ⟨o, _, _, e, _⟩, _⟩ := I2.loc
    rw [← z, n0] at e
    cases e
  have nF : it ∉ X.fs := fun hb => by
    obtain ⟨_, o, ho, _⟩ := I2.funs.mem hb
    rw [n0] at ho
    cases ho
  have I4 : L2.Inv X ((it, GNX.itObj r 0) :: pins) σ (upd H S (.lst [])) s3 := I3.pins_of fun p hp => by
    rcases List.mem_cons.mp hp with rfl | hp
    · exact ⟨hit, nit, nL, nF, fun v e => by cases e⟩
    · exact I3.pin p (List.mem_append_right _ hp)
  unfold PySem.W.OwitIt
  refine wpAny_specialOf (show s3.TypeIs (.ref it) "list_iterator" from ⟨_, hit, rfl⟩) slot_listiter_next.lookup ?_
  -- how long
  obtain ⟨mA3, J3, _⟩ := ins_get I4.hok haS
  obtain ⟨od3, J3, _⟩ := J3.look
  obtain ⟨m3, hF3⟩ := I4.fr
  refine wpAny_bind (wpAny_holding ?_)
  unfold Builtin.List.listLengthHint
  refine wpAny_bind (wpAny_bind (J3.type.here ((looks_findIn I4.kIn hl).here ?_)))
  refine PySem.W.KFB.if_not rfl ?_
  refine PySem.W.KFB.if_so rfl ?_
  refine wpAny_bind (wpAny_rule ?_)
  refine wpAny_bind (wpAny_attempt ?_)
  have sb3 : Sub X k X.A.in1.in1.in1 := (Sub.in1 (sb2 : Sub X (k + 1 + 1) X.A.in1.in1)).mono (by omega)
  refine PySem.W.len_K hF3 I4.ok.mod.kin J3 hl hlF ?_
  refine run_sub FL sb3 bL (fun e s' z => z.elim) I4 v1 (qL _ sH (fun v H' => v = .int ys.length ∧ H' = upd H S (.lst [])) ⟨rfl, rfl⟩) fun u s5 ce => ?_
  obtain ⟨v, H', os5, bare5, un5, hok5, rv5, ev, eH⟩ := ce
  subst ev
  subst eH
  have I5 := I4.call' (ch := []) os5 un5 hok5 bare5 (fun b z => absurd z (by simp))
  obtain ⟨tk5, eu⟩ := (show ∃ t, u = Value.int ys.length t from rv5)
  subst eu
  have un25 := un23.trans un5
  have fS : (upd H S (.lst [])) S = some (.lst []) := upd_same
  have rS : r ≠ S := fun z => by rw [z, fr] at hrl; cases hrl
  have hr5 := sH _ _ hrl
  have loop : ∀ s6 : Shared, (∀ b o, b ≠ S → s5.heap.get? b = some o → s6.heap.get? b = some o) → (∃ c, s6.heap.get? S = some { cls := .type "list", data := .seq #[] c }) → s6.gens = s5.gens → s6.os = s5.os →
      codeAny (model X.prog X.w) X.A.in1 (.builtin "list.extend.loop" ⟨[.ref S, .ref it, .none], []⟩) (wants (fun r s₂ => r = .none ∧ EP X pins σ Q (.ref S) s₂) X.xe) s6 := by
    intro s6 k6 ⟨c6, e6⟩ g6 o6
    obtain ⟨zr, its, nr, rvr, hlr, er⟩ := I5.lstM hr5
    have er6 := k6 _ _ rS er
    have eit := (I5.pin (it, GNX.itObj r 0) (List.mem_append_right _ List.mem_cons_self)).1
    have eit6 := k6 _ _ nS eit
    have nri : r ≠ it := fun z => by
      rw [← z, er] at eit
      have z2 := congrArg Obj.cls (Option.some.inj eit)
      exact absurd (Value.type.inj z2) (by decide)
    have W := (Walks.list (prog := X.prog) (w := X.w) (A := X.A.in1.in1) (I.ok.hd hc) it r nri its.toArray).toS
    refine codeAny_extend_loopS W (by rw [List.size_toArray, ← hlr]; exact zr) S (by simp [nS.symm, rS.symm]) .none _ 0 s6 #[] c6 rfl (Nat.zero_le _) ⟨⟨_, eit6, rfl, rfl⟩, ⟨_, er6, rfl, nr, rfl⟩⟩ e6 (ItemsOf.nil _) fun s7 acc c7 mv e7 ia => ?_
    have ea : acc = its.toArray := by
      obtain ⟨z1, z2⟩ := ia
      refine Array.ext (by rw [z1]) fun j h1 h2 => ?_
      have q1 : its.toArray[j]? = some acc[j] := z2 j acc[j] (Array.getElem?_eq_getElem h1)
      rw [Array.getElem?_eq_getElem h2] at q1
      exact (Option.some.inj q1).symm
    subst ea
    have k57 : ∀ b o, b ≠ S → b ≠ it → s5.heap.get? b = some o → s7.heap.get? b = some o := fun b o h1 h2 e => mv.heap b o (by simp [h1, h2]) (k6 b o h1 e)
    have bit : ∀ b o, s2.heap.get? b = some o → b ≠ it := fun b o e z => by rw [z, n0] at e; cases e
    have nH : ∀ b, (upd H S (.lst [])) b = none → b ≠ S := fun b e z => by rw [z, fS] at e; cases e
    have un7 : Un (frs X.stack) [] (upd H S (.lst [])) (upd H S (.lst ys)) s2.heap s7.heap := {
      keep := fun b o e n hf hx => k57 b o (nH b n) (bit b o e) (un25.keep b o e n hf hx)
      slot := fun b o e n hf hx => by
        obtain ⟨sl, z⟩ := un25.slot b o e n hf hx
        exact ⟨sl, k57 b _ (nH b n) (bit b o e) z⟩
      free := fun b o e n hx => by rw [upd_ne (nH b n)]; rw [upd_ne (nH b n)] at n; exact n
      there := fun b o e hx => by
        obtain ⟨o', z⟩ := un25.there b o e hx
        by_cases hb : b = S
        · exact ⟨_, by rw [hb]; exact e7⟩
        · exact ⟨o', k57 b _ hb (bit b o e) z⟩
      tups := fun b xs e => by
        by_cases hb : b = S
        · rw [hb, fS] at e; cases e
        · rw [upd_ne hb] at e ⊢; exact e
      frzs := fun b o u e => by
        by_cases hb : b = S
        · rw [hb, fS] at e; cases e
        · rw [upd_ne hb] at e ⊢; exact e
      tbls := fun b ps e => by
        by_cases hb : b = S
        · rw [hb, fS] at e; cases e
        · rw [upd_ne hb] at e ⊢; exact ⟨#[], by rw [e, Array.append_empty]⟩ }
    have hok7 : HOk X.prog X.w (upd H S (.lst ys)) s7.heap := fun b o e => by
      by_cases hb : b = S
      · subst hb
        rw [upd_same] at e
        cases e
        exact ⟨zr, its, c7, rvr, e7⟩
      · have e' : (upd H S (.lst [])) b = some o := by rw [upd_ne hb] at e ⊢; exact e
        have own : ∀ c, (upd H S (.lst [])) c = some (.own b) → c ≠ S ∧ c ≠ it := fun c z => ⟨fun q => (by rw [q, fS] at z; cases z), fun q => (by rw [q, nit] at z; cases z)⟩
        have nbi : b ≠ it := fun q => by rw [q, nit] at e'; cases e'
        refine (I5.hok b o e').stay (fun c u hc z => ?_) (fun c z => ?_) (fun c xs z => ?_)
        · rcases hc with hc | hc
          · rw [hc] at z ⊢
            exact k57 b u hb nbi z
          · exact k57 c u (own c hc).1 (own c hc).2 z
        · rw [upd_ne (own c z).1]
          rw [upd_ne (own c z).1] at z
          exact z
        · by_cases hcS : c = S
          · rw [hcS, fS] at z; cases z
          · rw [upd_ne hcS] at z ⊢; exact z
    have g7 : s7.gens = s5.gens := (show s7.gens = s6.gens from mv.gens).trans g6
    have J7 := I2.call' (ch := []) (s' := s7) (by rw [mv.os, o6, os5, os3]) un7 hok7 (by rw [g7]; exact bare5) (fun b z => absurd z (by simp))
    exact ⟨rfl, .ref S, _, J7, rfl, q S _ (Same.fresh (Same.refl _) fr) fr upd_same⟩
  refine ⟨by omega, ?_⟩
  have long : Builtin.List.listTooLong ((ys.length : Int).toNat) = false := by
    unfold Builtin.List.listTooLong
    rw [sizeLine_eq, Int.toNat_natCast]
    exact decide_eq_false (by omega)
  refine wpAny_bind (wpAny_of_eq (a := some (ys.length : Int)) rfl ?_)
  refine PySem.W.KFB.if_not long ?_
  refine wpAny_pure ?_
  have fin := loop { s5 with toks := s5.toks + 1 } (fun b o _ e => e) (let ⟨_, its, n, rv, hl0, e⟩ := I5.lstM (l := S) (xs := []) upd_same; ⟨n, by cases rv; exact e⟩) rfl rfl
  refine wpAny_ite_split (fun _ => ?_) (fun _ => ?_)
  · obtain ⟨c5, e5⟩ : ∃ c, s5.heap.get? S = some { cls := .type "list", data := .seq #[] c } := let ⟨_, its, n, rv, hl0, e⟩ := I5.lstM (l := S) (xs := []) upd_same; ⟨n, by cases rv; exact e⟩
    refine wpAny_bind (wpAny_rule ?_)
    refine wpAny_bind ?_
    show wpAny _ _ (updateSeq S (·.push .none) >>= fun _ => updateSeq S (·.pop)) _ _ _
    refine wpAny_bind (wpAny_updateSeq (s := { s5 with toks := s5.toks + 1 }) e5 rfl ?_)
    have e51 := Heap.get?_update_self (Obj.mapSeq (·.push Value.none)) e5 rfl
    refine wpAny_updateSeq e51 rfl ?_
    have e52 := Heap.get?_update_self (Obj.mapSeq (·.pop)) e51 rfl
    refine wpAny_pure ⟨plainId_quiet PySem.F.plain_extend_loop _, loop _ (fun b o hb e => ?_) ⟨_, e52⟩ rfl rfl⟩
    exact (Heap.get?_update_other _ _ (Ne.symm hb)).trans ((Heap.get?_update_other _ _ (Ne.symm hb)).trans e)
  · exact wpAny_pure ⟨plainId_quiet PySem.F.plain_extend_loop _, fin⟩
end
end Hk
set_option Elab.async false
set_option linter.all false
set_option maxRecDepth 100000
set_option maxHeartbeats 4000000
/-! iter(t), t a tuple; list(a), a of an own class whose __iter__ gives a tuple's iterator, and that has __len__. -/
namespace Hk
open PySem L2
open PySem.W (Frag Looks findIn looks_findIn InstAt CmpBack)
/-- the iterator at it over the tuple at r, at its start -/
def ItT (r it : Addr) : HO := .ext fun h => h.get? it = some (tupIt r)
theorem itT_ok {P : Program} {w : World} {H : Hp} {h : Heap} {r it : Addr} (e : h.get? it = some (tupIt r)) : ObjOk P w H h it (ItT r it) := ⟨e, ⟨_, e⟩, fun h1 h2 q k => k _ q⟩
section
variable {X : Cx}
def rIterT (K : Frag) : List V → Hp → VK → Prop := fun xs H Q => ∃ (a : Addr) (ys : List V), xs = [.ref a] ∧ SqT K H a ys ∧ ∀ it, H it = none → Q (.ref it) (upd H it (ItT a it))
theorem call_iterT : CallR X (.builtin "iter") (rIterT X.K) := by
  intro pins s σ H xs us Q I r h
  obtain ⟨a, ys, rfl, ha, q⟩ := h
  rw [Vals.ref1 r]
  obtain ⟨its, rv, p, hz⟩ := I.tuple ha
  refine Calls.call_function_entry (by decide +kernel) (by decide +kernel) PySem.W.kdk_entry_iter (PySem.W.kdk_args_iter _) ?_
  unfold Builtin.«iter»
  (refine wpAny_bind (m := someArgs "iter" 1 2 _) (wpAny_of_eq (a := [Value.ref a]) (by first | rfl | kernel_rfl!) ?_)); show wpAny _ _ (pyIter (.ref a) >>= _) _ _ _
  refine wpAny_bind (wpAny_pyIter_tuple p (wpAny_pure ⟨_, rfl, .ref s.heap.objs.size, _, I.laid (t' := s.toks) (fun b u e => Heap.get?_push_of_some _ e) (Nat.le_refl _) (itT_ok (r := a) (Heap.get?_push_size _ rfl)), rfl, q _ (I.hok.fresh (Nat.le_refl _))⟩))
end
section
variable {X : Cx} {CX : CXT} {k : Nat} {f C : Addr} {fd : FuncData} {ps : List Str} {sp : Sp} {E : XK} {pins : List (Addr × Obj)} {σ : L2.St} {H : Hp} {s : Shared} {A : Around}
/-- list(a) -/
def rListT (C : Addr) (spI spL : Sp) (E : XK) : List V → Hp → VK → Prop := fun xs H Q => ∃ (a dx : Addr) (fs : List (Str × V)) (r : Addr) (ys : List V), xs = [.ref a] ∧ H a = some (.ins C dx fs) ∧ H r = some (.tup ys) ∧ ys.length < 1000000 ∧
  (∀ H', Same H H' → ∀ Q' : VK, (∀ it, H' it = none → Q' (.ref it) (upd H' it (ItT r it))) → spI [.ref a] H' Q' E) ∧
  (∀ H', Same H H' → ∀ Q' : VK, Q' (.int ys.length) H' → spL [.ref a] H' Q' E) ∧ ∀ l H', Same H H' → H l = none → H' l = some (.lst ys) → Q (.ref l) H'
variable {fi fL : Addr} {fdI fdL : FuncData} {psI psL : List Str} {spI spL : Sp} {CI : CXT}
theorem call_listT (hi : findIn X.K (.ref C) "__iter__" = some (some (.ref fi))) (hiF : PySem.W.isFn X.K (.ref fi) = true) (hl : findIn X.K (.ref C) "__len__" = some (some (.ref fL))) (hlF : PySem.W.isFn X.K (.ref fL) = true)
    (FI : FnOk X.prog X.w X.K X.mg X.base CI k fi fdI psI spI) (bI : Binds X.K fdI psI []) (xI : Passes CI X E) (FL : FnOk X.prog X.w X.K X.mg X.base CX0 k fL fdL psL spL) (bL : Binds X.K fdL psL []) (hc : X.calm = true) (hr : Room (k + 4) X.A) : CallR X (.type "list") (rListT C spI spL E) := by
  intro pins s σ H xs us Q I rv h
  obtain ⟨a, dx, fs, r, ys, rfl, ha, hrl, hy, qI, qL, q⟩ := h
  rw [Vals.ref1 rv]
  have sb2 : Sub X (k + 2) X.A.in1.in1 := Sub.in1 (Sub.in1 (⟨hr, rfl⟩ : Sub X (k + 4) X.A))
  have sb : Sub X k X.A.in1.in1 := sb2.mono (by omega)
  refine callType_codes (Q₁ := fun obj s₁ => obj = .ref s.heap.objs.size ∧ s₁ = { s with heap := s.heap.push { cls := .type "list", data := .seq #[] } }) PySem.F.called_list (PySem.F.typeCall_list_1 _) PySem.F.entry_list_init
    (code_list_new _ ⟨rfl, rfl⟩) fun obj s₁ h₁ => ?_
  obtain ⟨rfl, rfl⟩ := h₁
  have hS : (s.heap.push { cls := .type "list", data := .seq #[] }).get? s.heap.objs.size = some { cls := .type "list", data := .seq #[] } := Heap.get?_push_size _ rfl
  refine ⟨⟨_, hS, rfl⟩, PySem.F.args_list_init_2 _ _, ?_⟩
  have fr : H s.heap.objs.size = none := I.hok.fresh (Nat.le_refl _)
  have I1 : L2.Inv X pins σ (upd H s.heap.objs.size (.lst [])) { s with heap := s.heap.push { cls := .type "list", data := .seq #[] } } := I.lnew (its := []) (t' := s.toks) .nil (Nat.zero_le _)
  show wpAny _ _ (do let old ← Builtin.List.listItems (.ref s.heap.objs.size); Builtin.List.listUpdate (.ref s.heap.objs.size) (fun _ => #[]); letGo old.toList.reverse; Builtin.List.listExtendWith (.ref s.heap.objs.size) (.ref a) .none) _ _ _
  generalize hSz : s.heap.objs.size = S at *
  refine wpAny_bind ?_
  unfold Builtin.List.listItems
  refine wpAny_bind (wpAny_seqItems hS rfl (wpAny_pure ?_))
  show wpAny _ _ (updateSeq S (fun _ => #[]) >>= fun _ => letGo (#[] : Array Value).toList.reverse >>= fun _ => Builtin.List.listExtendWith (.ref S) (.ref a) .none) _ _ _
  refine wpAny_bind (wpAny_updateSeq hS rfl ?_)
  have I2 := I1.lset (f := fun _ => #[]) (its := []) (its' := []) (ys := []) (t' := s.toks) upd_same hS rfl .nil (Nat.zero_le _)
  rw [upd_upd] at I2
  refine wpAny_bind (wpAny_letGo ?_)
  have sH : Same H (upd H S (.lst [])) := Same.fresh (Same.refl _) fr
  have haS := sH _ _ ha
  generalize hs2 : ({ s with heap := (s.heap.push { cls := .type "list", data := .seq #[] }).update S (Obj.mapSeq fun _ => #[]), toks := s.toks } : Shared) = s2 at I2
  have hne : S ≠ a := fun z => by rw [z, ha] at fr; cases fr
  obtain ⟨mA, J, _⟩ := ins_get I2.hok haS
  obtain ⟨od, J, _⟩ := J.look
  obtain ⟨m0, hF⟩ := I2.fr
  unfold Builtin.List.listExtendWith
  refine wpAny_bind (J.type.here ?_)
  have h1 : Builtin.List.listSameRef (.ref S) (.ref a) = false := by simp [Builtin.List.listSameRef, hne]
  have h2 : (Value.ref C == Value.type "list") = false := rfl
  have h3 : (Value.ref C == Value.type "tuple") = false := rfl
  simp only [h1, h2, h3, Bool.or_false, Bool.false_eq_true, if_false]
  refine wpAny_bind (PySem.W.owit_iter hF I2.ok.mod.kin J hi hiF ?_)
  refine run_sub FI sb bI (fun e s' z => xI pins σ _ _ e s' I2 z) I2 v1 (qI _ sH (fun v H' => ∃ it, v = .ref it ∧ upd H S (.lst []) it = none ∧ H' = upd (upd H S (.lst [])) it (ItT r it)) fun it n => ⟨it, rfl, n, rfl⟩) fun u s3 ce => ?_
  obtain ⟨v, H', os3, bare3, un3, hok3, rv3, it, ev, nit, eH⟩ := ce
  subst ev
  subst eH
  cases (show u = Value.ref it from rv3)
  obtain ⟨I3, n0, hit, un23⟩ := forget I2 os3 bare3 un3 hok3 nit
  have hit : s3.heap.get? it = some (tupIt r) := hit
  have nS : it ≠ S := fun z => by rw [z, upd_same] at nit; cases nit
  have nL : it ≠ X.env.locals := fun z => by
    have lt := I2.lt
    obtain ⟨m, ⟨o, _, _, e, _⟩, _⟩ := I2.loc
    rw [← z, n0] at e
    cases e
  have nF : it ∉ X.fs := fun hb => by
    obtain ⟨_, o, ho, _⟩ := I2.funs.mem hb
    rw [n0] at ho
    cases ho
  have I4 : L2.Inv X ((it, tupIt r) :: pins) σ (upd H S (.lst [])) s3 := I3.pins_of fun p hp => by
    rcases List.mem_cons.mp hp with rfl | hp
    · exact ⟨hit, nit, nL, nF, fun v e => by cases e⟩
    · exact I3.pin p (List.mem_append_right _ hp)
  unfold PySem.W.OwitIt
  refine wpAny_specialOf (show s3.TypeIs (.ref it) "tuple_iterator" from ⟨_, hit, rfl⟩) PyProof.Rows.slot_tupleiter_next.lookup ?_
  -- how long
  obtain ⟨mA3, J3, _⟩ := ins_get I4.hok haS
  obtain ⟨od3, J3, _⟩ := J3.look
  obtain ⟨m3, hF3⟩ := I4.fr
  refine wpAny_bind (wpAny_holding ?_)
  unfold Builtin.List.listLengthHint
  refine wpAny_bind (wpAny_bind (J3.type.here ((looks_findIn I4.kIn hl).here ?_)))
  refine PySem.W.KFB.if_not rfl ?_
  refine PySem.W.KFB.if_so rfl ?_
  refine wpAny_bind (wpAny_rule ?_)
  refine wpAny_bind (wpAny_attempt ?_)
  have sb3 : Sub X k X.A.in1.in1.in1 := (Sub.in1 (sb2 : Sub X (k + 1 + 1) X.A.in1.in1)).mono (by omega)
  refine PySem.W.len_K hF3 I4.ok.mod.kin J3 hl hlF ?_
  refine run_sub FL sb3 bL (fun e s' z => z.elim) I4 v1 (qL _ sH (fun v H' => v = .int ys.length ∧ H' = upd H S (.lst [])) ⟨rfl, rfl⟩) fun u s5 ce => ?_
  obtain ⟨v, H', os5, bare5, un5, hok5, rv5, ev, eH⟩ := ce
  subst ev
  subst eH
  have I5 := I4.call' (ch := []) os5 un5 hok5 bare5 (fun b z => absurd z (by simp))
  obtain ⟨tk5, eu⟩ := (show ∃ t, u = Value.int ys.length t from rv5)
  subst eu
  have un25 := un23.trans un5
  have fS : (upd H S (.lst [])) S = some (.lst []) := upd_same
  have rS : r ≠ S := fun z => by rw [z, fr] at hrl; cases hrl
  have hr5 := sH _ _ hrl
  have loop : ∀ s6 : Shared, (∀ b o, b ≠ S → s5.heap.get? b = some o → s6.heap.get? b = some o) → (∃ c, s6.heap.get? S = some { cls := .type "list", data := .seq #[] c }) → s6.gens = s5.gens → s6.os = s5.os →
      codeAny (model X.prog X.w) X.A.in1 (.builtin "list.extend.loop" ⟨[.ref S, .ref it, .none], []⟩) (wants (fun r s₂ => r = .none ∧ EP X pins σ Q (.ref S) s₂) X.xe) s6 := by
    intro s6 k6 ⟨c6, e6⟩ g6 o6
    obtain ⟨zr, its, rvr, ⟨oR, er, hcR, nr, hdR⟩⟩ := I5.hok r _ hr5
    have hlr : ys.length = its.length := rvr.length
    have er6 := k6 _ _ rS er
    have eit := (I5.pin (it, tupIt r) (List.mem_append_right _ List.mem_cons_self)).1
    have eit6 := k6 _ _ nS eit
    have nri : r ≠ it := fun z => by
      rw [← z, er] at eit
      have z2 := congrArg Obj.cls (Option.some.inj eit)
      rw [hcR] at z2
      exact absurd (Value.type.inj z2) (by decide)
    have W := (Walks.tuple (prog := X.prog) (w := X.w) (A := X.A.in1.in1) (I.ok.hd hc) it r nri its.toArray).toS
    refine codeAny_extend_loopS W (by rw [List.size_toArray, ← hlr]; exact zr) S (by simp [nS.symm, rS.symm]) .none _ 0 s6 #[] c6 rfl (Nat.zero_le _) ⟨⟨_, eit6, rfl, rfl⟩, ⟨_, er6, hcR, nr, hdR⟩⟩ e6 (ItemsOf.nil _) fun s7 acc c7 mv e7 ia => ?_
    have ea : acc = its.toArray := by
      obtain ⟨z1, z2⟩ := ia
      refine Array.ext (by rw [z1]) fun j h1 h2 => ?_
      have q1 : its.toArray[j]? = some acc[j] := z2 j acc[j] (Array.getElem?_eq_getElem h1)
      rw [Array.getElem?_eq_getElem h2] at q1
      exact (Option.some.inj q1).symm
    subst ea
    have k57 : ∀ b o, b ≠ S → b ≠ it → s5.heap.get? b = some o → s7.heap.get? b = some o := fun b o h1 h2 e => mv.heap b o (by simp [h1, h2]) (k6 b o h1 e)
    have bit : ∀ b o, s2.heap.get? b = some o → b ≠ it := fun b o e z => by rw [z, n0] at e; cases e
    have nH : ∀ b, (upd H S (.lst [])) b = none → b ≠ S := fun b e z => by rw [z, fS] at e; cases e
    have un7 : Un (frs X.stack) [] (upd H S (.lst [])) (upd H S (.lst ys)) s2.heap s7.heap := {
      keep := fun b o e n hf hx => k57 b o (nH b n) (bit b o e) (un25.keep b o e n hf hx)
      slot := fun b o e n hf hx => by
        obtain ⟨sl, z⟩ := un25.slot b o e n hf hx
        exact ⟨sl, k57 b _ (nH b n) (bit b o e) z⟩
      free := fun b o e n hx => by rw [upd_ne (nH b n)]; rw [upd_ne (nH b n)] at n; exact n
      there := fun b o e hx => by
        obtain ⟨o', z⟩ := un25.there b o e hx
        by_cases hb : b = S
        · exact ⟨_, by rw [hb]; exact e7⟩
        · exact ⟨o', k57 b _ hb (bit b o e) z⟩
      tups := fun b xs e => by
        by_cases hb : b = S
        · rw [hb, fS] at e; cases e
        · rw [upd_ne hb] at e ⊢; exact e
      frzs := fun b o u e => by
        by_cases hb : b = S
        · rw [hb, fS] at e; cases e
        · rw [upd_ne hb] at e ⊢; exact e
      tbls := fun b ps e => by
        by_cases hb : b = S
        · rw [hb, fS] at e; cases e
        · rw [upd_ne hb] at e ⊢; exact ⟨#[], by rw [e, Array.append_empty]⟩ }
    have hok7 : HOk X.prog X.w (upd H S (.lst ys)) s7.heap := fun b o e => by
      by_cases hb : b = S
      · subst hb
        rw [upd_same] at e
        cases e
        exact ⟨zr, its, c7, rvr, e7⟩
      · have e' : (upd H S (.lst [])) b = some o := by rw [upd_ne hb] at e ⊢; exact e
        have own : ∀ c, (upd H S (.lst [])) c = some (.own b) → c ≠ S ∧ c ≠ it := fun c z => ⟨fun q => (by rw [q, fS] at z; cases z), fun q => (by rw [q, nit] at z; cases z)⟩
        have nbi : b ≠ it := fun q => by rw [q, nit] at e'; cases e'
        refine (I5.hok b o e').stay (fun c u hc z => ?_) (fun c z => ?_) (fun c xs z => ?_)
        · rcases hc with hc | hc
          · rw [hc] at z ⊢
            exact k57 b u hb nbi z
          · exact k57 c u (own c hc).1 (own c hc).2 z
        · rw [upd_ne (own c z).1]
          rw [upd_ne (own c z).1] at z
          exact z
        · by_cases hcS : c = S
          · rw [hcS, fS] at z; cases z
          · rw [upd_ne hcS] at z ⊢; exact z
    have g7 : s7.gens = s5.gens := (show s7.gens = s6.gens from mv.gens).trans g6
    have J7 := I2.call' (ch := []) (s' := s7) (by rw [mv.os, o6, os5, os3]) un7 hok7 (by rw [g7]; exact bare5) (fun b z => absurd z (by simp))
    exact ⟨rfl, .ref S, _, J7, rfl, q S _ (Same.fresh (Same.refl _) fr) fr upd_same⟩
  refine ⟨by omega, ?_⟩
  have long : Builtin.List.listTooLong ((ys.length : Int).toNat) = false := by
    unfold Builtin.List.listTooLong
    rw [sizeLine_eq, Int.toNat_natCast]
    exact decide_eq_false (by omega)
  refine wpAny_bind (wpAny_of_eq (a := some (ys.length : Int)) rfl ?_)
  refine PySem.W.KFB.if_not long ?_
  refine wpAny_pure ?_
  have fin := loop { s5 with toks := s5.toks + 1 } (fun b o _ e => e) (let ⟨_, its, n, rv, hl0, e⟩ := I5.lstM (l := S) (xs := []) upd_same; ⟨n, by cases rv; exact e⟩) rfl rfl
  refine wpAny_ite_split (fun _ => ?_) (fun _ => ?_)
  · obtain ⟨c5, e5⟩ : ∃ c, s5.heap.get? S = some { cls := .type "list", data := .seq #[] c } := let ⟨_, its, n, rv, hl0, e⟩ := I5.lstM (l := S) (xs := []) upd_same; ⟨n, by cases rv; exact e⟩
    refine wpAny_bind (wpAny_rule ?_)
    refine wpAny_bind ?_
    show wpAny _ _ (updateSeq S (·.push .none) >>= fun _ => updateSeq S (·.pop)) _ _ _
    refine wpAny_bind (wpAny_updateSeq (s := { s5 with toks := s5.toks + 1 }) e5 rfl ?_)
    have e51 := Heap.get?_update_self (Obj.mapSeq (·.push Value.none)) e5 rfl
    refine wpAny_updateSeq e51 rfl ?_
    have e52 := Heap.get?_update_self (Obj.mapSeq (·.pop)) e51 rfl
    refine wpAny_pure ⟨plainId_quiet PySem.F.plain_extend_loop _, loop _ (fun b o hb e => ?_) ⟨_, e52⟩ rfl rfl⟩
    exact (Heap.get?_update_other _ _ (Ne.symm hb)).trans ((Heap.get?_update_other _ _ (Ne.symm hb)).trans e)
  · exact wpAny_pure ⟨plainId_quiet PySem.F.plain_extend_loop _, fin⟩
end
end Hk
set_option Elab.async false
set_option linter.all false
set_option maxRecDepth 100000
set_option maxHeartbeats 4000000
/-! Policies: made, words, len, iter, [], ==. -/
namespace K
open PySem L2 Hk PyProof.Rows
def spMd (K : PySem.W.Frag) (CP : Addr) : Sp := fun vs H Q _ => ∃ (a : Addr) (rs : List Rl), vs = [.ref a] ∧ PoAt K CP H a rs ∧ rs.length < 1000 ∧ (made rs = none → ∀ H', Same H H' → Q .non H') ∧ ∀ ws, made rs = some ws → ∀ H' v, Same H H' → Da K H' v (.tup (ws.map Dt.str)) → Q v H'
def spWd (K : PySem.W.Frag) (CP : Addr) : Sp := fun vs H Q _ => ∃ (a : Addr) (rs : List Rl), vs = [.ref a] ∧ PoAt K CP H a rs ∧ rs.length < 100 ∧ (∀ r ∈ rs, (wordsOf r).length < 20) ∧
  ∀ p H' (l : List Str), Same H H' → l.Nodup → (∀ y, y ∈ l ↔ ∃ r ∈ rs, y ∈ wordsOf r) → H' p = some (.lst ((l.mergeSort leT).map V.str)) → Q (.ref p) H'
def spLen (K : PySem.W.Frag) (CP : Addr) : Sp := fun vs H Q _ => ∃ (a : Addr) (rs : List Rl), vs = [.ref a] ∧ PoAt K CP H a rs ∧ Q (.int rs.length) H
def spIter (CP : Addr) : Sp := fun vs H Q _ => ∃ (a dx t : Addr) (xs : List V), vs = [.ref a] ∧ H a = some (.ins CP dx (flds t)) ∧ H t = some (.tup xs) ∧ ∀ it, H it = none → Q (.ref it) (upd H it (ItT t it))
/-- a place among m -/
def plc : V → Nat → Bool
  | .int i, m => decide (0 ≤ i) && decide (i < (m : Int))
  | _, _ => false
def spGet (K : PySem.W.Frag) (CP CB : Addr) : Sp := fun vs H Q E => ∃ (a : Addr) (rs : List Rl) (v : V), vs = [.ref a, v] ∧ PoAt K CP H a rs ∧ rs.length < 1000 ∧ ((∃ i, v = .int i) ∨ ∃ x, v = .str x) ∧
  (plc v rs.length = false → ∀ dd H', Same H H' → H dd = none → ErrAt H' dd "number" v → E (.ref CB) (some dd) H') ∧
  ∀ (n : Nat) r, v = .int (n : Int) → rs[n]? = some r → ∀ v H', Same H H' → Da K H' v (dtL r) → Q v H'
def spEq (K : PySem.W.Frag) (CP : Addr) : Sp := fun vs H Q _ => ∃ (a b : Addr) (rs ss : List Rl), vs = [.ref a, .ref b] ∧ PoAt K CP H a rs ∧ PoAt K CP H b ss ∧ Q (.bl (decide (rs = ss))) H
structure ClsI (K : PySem.W.Frag) (C : Addr) : Prop where
  ha : PySem.W.findIn K (.ref C) "__class__" = some (some (.builtin "object.__class__"))
  hn : PySem.W.specialIn K (.builtin "object.__class__") "__get__" = some (some (.builtin "getset_descriptor.__get__"))
  htk : PySem.W.takesIn K (.builtin "object.__class__") = some true
  hm : PySem.W.mroIn K C (.type "object") = some true
theorem kit_self {K : PySem.W.Frag} (C : Addr) : PySem.W.kitOne K (.ref C) (.ref C) = some true := by
  unfold PySem.W.kitOne
  rw [if_pos (by simp)]
section
variable {P : Program} {w : World} {K : PySem.W.Frag} {mg : Str → Option Value} {base : Heap} {f fR fPR CP CB fB cB cdB fM fP : Addr} {fd fdB fdM fdP : FuncData}
theorem scS : ∀ {s : Stmt}, s = sMade ∨ s = sWords ∨ s = sLen ∨ s = sIter → FnScope ["self"] ["self"] (defScope s) := by
  rintro s (rfl | rfl | rfl | rfl)
  · exact ⟨rfl, rfl, rfl, by decide +kernel, rfl, by decide +kernel, by decide +kernel⟩
  · exact ⟨rfl, rfl, rfl, by decide +kernel, rfl, by decide +kernel, by decide +kernel⟩
  · exact ⟨rfl, rfl, rfl, by decide +kernel, rfl, by decide +kernel, by decide +kernel⟩
  · exact ⟨rfl, rfl, rfl, by decide +kernel, rfl, by decide +kernel, by decide +kernel⟩
theorem ok_made (F : Fun K "made" "Policy.made" sMade f fd) (T : TxtI P K mg fR fPR CP CB fB cB cdB fdB) (gM : mg "made_words" = some (.ref fM)) (kM : PySem.W.keepIn K (.ref fM) = true)
    (GM : FnOk P w K mg base CX0 2 fM fdM ["rules"] (spMade K)) (bM : Binds K fdM ["rules"] []) : FnOk P w K mg base CX0 3 f fd ["self"] (spMd K CP) := by
  refine F.ok (scS (.inl rfl)) (fun vs H Q E h => ?_) (fun cdv A outer s H vs Q E hr h => ?_)
  · obtain ⟨a, rs, rfl, _⟩ := h
    rfl
  · obtain ⟨a, rs, rfl, S, few, q0, q1⟩ := h
    obtain ⟨dx, t, xs, h1, h2, h3⟩ := S.ex
    refine ⟨_, pss_one (ps_ret (pe_call GM hr (by rfl) gM kM bM .nil pass0 (pa_cons (pe_fld (pv 0) rfl) pa_nil))), ?_⟩
    exact ⟨_, rfl, a, CP, dx, _, _, rfl, h1, T.cl, T.nR, flds_r _, t, xs, rs, rfl, .inl (.inl h2), h3, few, q0, q1⟩
theorem ok_words (F : Fun K "words" "Policy.words" sWords f fd) (T : TxtI P K mg fR fPR CP CB fB cB cdB fdB) (gM : mg "rule_words" = some (.ref fM)) (kM : PySem.W.keepIn K (.ref fM) = true)
    (GM : FnOk P w K mg base CX0 2 fM fdM ["rules"] (spRuleWords K)) (bM : Binds K fdM ["rules"] []) : FnOk P w K mg base CX0 3 f fd ["self"] (spWd K CP) := by
  refine F.ok (scS (.inr (.inl rfl))) (fun vs H Q E h => ?_) (fun cdv A outer s H vs Q E hr h => ?_)
  · obtain ⟨a, rs, rfl, _⟩ := h
    rfl
  · obtain ⟨a, rs, rfl, S, few, fw, q⟩ := h
    obtain ⟨dx, t, xs, h1, h2, h3⟩ := S.ex
    refine ⟨_, pss_one (ps_ret (pe_call GM hr (by rfl) gM kM bM .nil pass0 (pa_cons (pe_fld (pv 0) rfl) pa_nil))), ?_⟩
    refine ⟨_, rfl, a, CP, dx, _, _, rfl, h1, T.cl, T.nR, flds_r _, t, xs, rs, rfl, .inl (.inl h2), h3, by omega, fun r hr => by have := fw r hr; omega, ?_, q⟩
    have z : ∀ l : List Rl, (∀ r ∈ l, (wordsOf r).length < 20) → ((l.map wordsOf).flatten).length ≤ 20 * l.length := by
      intro l
      induction l with
      | nil => intro _; simp
      | cons r l ih =>
        intro h
        have h1 := h r List.mem_cons_self
        have h2 := ih fun x hx => h x (List.mem_cons_of_mem _ hx)
        rw [List.map_cons, List.flatten_cons, List.length_append, List.length_cons]
        omega
    have := z rs fw
    omega
theorem ok_len (F : Fun K "__len__" "Policy.__len__" sLen f fd) (T : TxtI P K mg fR fPR CP CB fB cB cdB fdB) : FnOk P w K mg base CX0 1 f fd ["self"] (spLen K CP) := by
  refine F.ok (scS (.inr (.inr (.inl rfl)))) (fun vs H Q E h => ?_) (fun cdv A outer s H vs Q E hr h => ?_)
  · obtain ⟨a, rs, rfl, _⟩ := h
    rfl
  · obtain ⟨a, rs, rfl, S, q⟩ := h
    obtain ⟨dx, t, xs, h1, h2, h3⟩ := S.ex
    refine ⟨_, pss_one (ps_ret (pe_callB call_len_seq (by rfl) T.g.f.len PySem.boot_len (pa_cons (pe_fld (pv 0) rfl) pa_nil))), ?_⟩
    refine ⟨_, rfl, a, CP, dx, _, _, rfl, h1, T.cl, T.nR, flds_r _, t, xs, rfl, .inr (.inl (.inl h2)), ?_⟩
    rw [DaAll.len h3, List.length_map]
    exact q
theorem ok_iter (F : Fun K "__iter__" "Policy.__iter__" sIter f fd) (T : TxtI P K mg fR fPR CP CB fB cB cdB fdB) (nI : mg "iter" = none) : FnOk P w K mg base CX0 1 f fd ["self"] (spIter CP) := by
  refine F.ok (scS (.inr (.inr (.inr rfl)))) (fun vs H Q E h => ?_) (fun cdv A outer s H vs Q E hr h => ?_)
  · obtain ⟨a, dx, t, xs, rfl, _⟩ := h
    rfl
  · obtain ⟨a, dx, t, xs, rfl, h1, h2, q⟩ := h
    refine ⟨_, pss_one (ps_ret (pe_callB call_iterT (by rfl) nI (by decide +kernel) (pa_cons (pe_fld (pv 0) rfl) pa_nil))), ?_⟩
    exact ⟨_, rfl, a, CP, dx, _, _, rfl, h1, T.cl, T.nR, flds_r _, t, xs, rfl, .inl (.inl h2), q⟩
theorem scGet : FnScope ["self", "number"] ["self", "number"] (defScope sGetitem) := ⟨rfl, rfl, rfl, by decide +kernel, rfl, by decide +kernel, by decide +kernel⟩
theorem ok_get (F : Fun K "__getitem__" "Policy.__getitem__" sGetitem f fd) (T : TxtI P K mg fR fPR CP CB fB cB cdB fdB) (gP : mg "is_place" = some (.ref fP)) (kP : PySem.W.keepIn K (.ref fP) = true)
    (GP : FnOk P w K mg base CX0 2 fP fdP ["value", "many"] (spIsPlace K)) (bP : Binds K fdP ["value", "many"] []) : FnOk P w K mg base (L2.CX P w) 3 f fd ["self", "number"] (spGet K CP CB) := by
  refine F.okX scGet (fun vs H Q E h => ?_) (fun cdv A outer s H vs Q E hr h => ?_)
  · obtain ⟨a, rs, v, rfl, _⟩ := h
    rfl
  · obtain ⟨a, rs, v, rfl, S, few, hv, q0, q1⟩ := h
    obtain ⟨dx, t, xs, h1, h2, h3⟩ := S.ex
    refine ⟨_, pss_cons (ps_if (pt_not (pt_val (pe_call GP hr (by rfl) gP kP bP .nil pass0 (pa_cons (pv 1) (pa_cons (pe_callB call_len_seq (by rfl) T.g.f.len PySem.boot_len (pa_cons (pe_fld (pv 0) rfl) pa_nil)) pa_nil)))))
        (pss_one (ps_raiseBad rfl (takes_of rfl rfl rfl rfl) T.B fld_number T.bB hr (by rfl) T.gB (pa_cons (pv 1) pa_nil))) pss_nil)
      (pss_one (ps_ret (pe_ix ix_tup (pe_fld (pv 0) rfl) (pv 1) (fun _ _ => rfl)))), ?_⟩
    refine ⟨_, rfl, _, rfl, a, CP, dx, _, _, rfl, h1, T.cl, T.nR, flds_r _, t, xs, rfl, .inr (.inl (.inl h2)), ?_⟩
    have lx : xs.length = rs.length := by rw [h3.len, List.length_map]
    rw [lx]
    rcases hv with ⟨i, rfl⟩ | ⟨x, rfl⟩
    · refine ⟨_, _, rfl, .inl ⟨i, rfl, _, rfl, ?_⟩⟩
      cases e : plc (.int i) rs.length with
      | false =>
        rw [show (decide (0 ≤ i) && decide (i < (rs.length : Int))) = false from e]
        exact iteT ⟨_, rfl, _, rfl, fun dd hd => q0 e dd _ (Same.fresh (Same.refl _) hd) hd upd_same⟩
      | true =>
        rw [show (decide (0 ≤ i) && decide (i < (rs.length : Int))) = true from e]
        refine iteF ?_
        have e2 := Bool.and_eq_true_iff.mp (show (decide (0 ≤ i) && decide (i < (rs.length : Int))) = true from e)
        have i0 := of_decide_eq_true e2.1
        have i1 := of_decide_eq_true e2.2
        obtain ⟨n, rfl⟩ := Int.eq_ofNat_of_zero_le i0
        have ln : n < rs.length := by omega
        have ex : xs[n]? = some xs[n] := List.getElem?_eq_getElem (by omega)
        obtain ⟨d, ed, dax⟩ := h3.at ex
        rw [List.getElem?_map] at ed
        obtain ⟨r, er, rfl⟩ := Option.map_eq_some_iff.mp ed
        refine ⟨_, rfl, a, CP, dx, _, _, rfl, h1, T.cl, T.nR, flds_r _, _, rfl, t, xs, _, _, rfl, rfl, .inl (.inl h2), atI_nat (j := n) ex, q1 n r rfl er _ _ (Same.refl _) dax⟩
    · refine ⟨_, _, rfl, .inr ⟨x, rfl, _, rfl, ?_⟩⟩
      exact iteT ⟨_, rfl, _, rfl, fun dd hd => q0 rfl dd _ (Same.fresh (Same.refl _) hd) hd upd_same⟩
theorem scEq : FnScope ["self", "other"] ["self", "other"] (defScope sEq) := ⟨rfl, rfl, rfl, by decide +kernel, rfl, by decide +kernel, by decide +kernel⟩
theorem ok_eq (F : Fun K "__eq__" "Policy.__eq__" sEq f fd) (T : TxtI P K mg fR fPR CP CB fB cB cdB fdB) (TI : ClsI K CP) : FnOk P w K mg base CX0 1 f fd ["self", "other"] (spEq K CP) := by
  refine F.ok scEq (fun vs H Q E h => ?_) (fun cdv A outer s H vs Q E hr h => ?_)
  · obtain ⟨a, b, rs, ss, rfl, _⟩ := h
    rfl
  · obtain ⟨a, b, rs, ss, rfl, S1, S2, q⟩ := h
    obtain ⟨dx, t, xs, h1, h2, h3⟩ := S1.ex
    obtain ⟨dy, u, ys, k1, k2, k3⟩ := S2.ex
    refine ⟨_, pss_one (ps_ret (pe_and (pe_callB call_isi (by rfl) T.g.f.isi (by decide +kernel) (pa_cons (pv 1) (pa_cons (pe_glob (v := .ref CP) (by rfl) T.gP rfl) pa_nil)))
      (pe_one (pe_cmpR (op_eqP hr.units) (pe_fld (pv 0) rfl) (pe_fld (pv 1) rfl) (nomark _))))), ?_⟩
    refine ⟨_, rfl, .ref b, .ref CP, .ref CP, .ref CP, true, rfl, .own CP, .base (.ins k1 T.cl TI.ha TI.hn TI.htk TI.hm), kit_self CP, _, rfl, iteT ?_⟩
    refine ⟨_, rfl, a, CP, dx, _, _, rfl, h1, T.cl, T.nR, flds_r _, _, rfl, b, CP, dy, _, _, rfl, k1, T.cl, T.nR, flds_r _, .tuple (encA (rs.map dtL)), .tuple (encA (ss.map dtL)), .tup (.inl (.inl h2)) (dp_A h3 (ndA_map nd_L _)), .tup (.inl (.inl k2)) (dp_A k3 (ndA_map nd_L _)), lay_A _, lay_A _, ?_, ?_⟩
    · have := dep_Ls rs
      simp only [PyData.depth]
      omega
    · rw [if_neg Bool.false_ne_true, show PyData.eqv (.tuple (encA (rs.map dtL))) (.tuple (encA (ss.map dtL))) = decide (rs = ss) from eqv_Ls rs ss]
      exact q
end
end K
set_option Elab.async false
set_option linter.all false
set_option maxRecDepth 100000
set_option maxHeartbeats 4000000
/-! Policies: without, +. -/
namespace K
open PySem L2 Hk PyProof.Rows
theorem sm_row {d : Dt} {rs : List Rl} (e : rowD d = some (rs.map dtL)) (h : ∀ r ∈ rs, Rok r) (few : rs.length ≤ 12) : smD d = true := by
  have z : (decide ((rs.map dtL).length < 60) && smA (rs.map dtL)) = true := by
    rw [sm_rs h, List.length_map, decide_eq_true (show rs.length < 60 by omega)]
    rfl
  cases d with
  | lst l => cases e; exact z
  | tup l => cases e; exact z
  | _ => cases e
/-- a policy of given rules is made (the reading of the class's call) -/
theorem mk_read {K : PySem.W.Frag} {CP CB : Addr} {H1 : Hp} {v : V} {d : Dt} {rs : List Rl} {Q : VK} {E : XK} (h : Da K H1 v d) (e : rowD d = some (rs.map dtL)) (ok : Pok rs)
    (qk : ∀ H' x, Same H1 H' → H1 x = none → PoAt K CP H' x rs → Q (.ref x) H') :
    ∀ x dx, H1 x = none → H1 dx = none → dx ≠ x → spInit K CP CB (.ref x :: ([v] ++ [])) (upd (upd H1 dx (.own x)) x (.ins CP dx [])) (fun v H2 => v = .non ∧ Q (.ref x) H2) E := by
  intro x dx hx hdx ne
  have s1 : Same H1 (upd (upd H1 dx (.own x)) x (.ins CP dx [])) := fun b o e => by
    rw [upd_ne (ne_of_none e hx), upd_ne (ne_of_none e hdx)]
    exact e
  have few : (rs.map dtL).length ≤ 12 := by rw [List.length_map]; exact ok.few
  have ld : lD d = rs.map dtL := by unfold lD; rw [e]; rfl
  refine ⟨x, dx, v, d, rfl, upd_same, Da.same s1 h, sm_row e ok.all ok.few, by rw [ld]; exact hd_rs rs, fun o ho => absurd ho (noErr e few (wr_ok ok) o), fun l el lf wr H' b S => ⟨rfl, qk H' x (fun c o e => b c o (ne_of_none e hx) (s1 c o e)) hx ?_⟩⟩
  rw [rls_ok e ok.all] at S
  exact S
/-- the rules of both -/
def addR (rs ss : List Rl) : List Rl := rs ++ ss.filter fun r => !decide (r ∈ rs)
def spAdd (K : PySem.W.Frag) (CP : Addr) : Sp := fun vs H Q _ => ∃ (a b : Addr) (rs ss : List Rl), vs = [.ref a, .ref b] ∧ PoAt K CP H a rs ∧ PoAt K CP H b ss ∧ rs.length < 100 ∧ ss.length < 100 ∧ Pok (addR rs ss) ∧ ∀ H' x, Same H H' → H x = none → PoAt K CP H' x (addR rs ss) → Q (.ref x) H'
theorem any_L2 (r : Rl) (l : List Rl) : (if true = true then !((encA (l.map dtL)).any fun e => PyData.eqv e (encD (dtL r))) else (encA (l.map dtL)).any fun e => PyData.eqv e (encD (dtL r))) = !decide (r ∈ l) := by
  rw [if_pos rfl, any_L]
section
variable {P : Program} {w : World} {K : PySem.W.Frag} {mg : Str → Option Value} {base : Heap} {f fR fPR CP CB fB cB cdB fI fP : Addr} {fd fdB fdI fdP : FuncData}
theorem ps_dead {X : Cx} {st : Stmt} : PS X st (fun _ _ _ => False) := ⟨fun _ _ _ _ _ _ h => h.elim⟩
abbrev nAd : List Str := ["self", "other", "rule"]
theorem scAdd : FnScope nAd ["self", "other"] (defScope sAdd) := ⟨rfl, rfl, rfl, by decide +kernel, rfl, by decide +kernel, by decide +kernel⟩
theorem ok_add (F : Fun K "__add__" "Policy.__add__" sAdd f fd) (T : TxtI P K mg fR fPR CP CB fB cB cdB fdB) (TI : ClsI K CP)
    (GI : FnOk P w K mg base (L2.CX P w) 5 fI fdI ["self", "rules"] (spInit K CP CB)) (bI : Binds K fdI ["self", "rules"] []) (MK : Mk K CP fI) : FnOk P w K mg base (L2.CX P w) 7 f fd ["self", "other"] (spAdd K CP) := by
  refine F.okX scAdd (fun vs H Q E h => ?_) (fun cdv A outer s H vs Q E hr h => ?_)
  · obtain ⟨a, b, rs, ss, rfl, _⟩ := h
    rfl
  · obtain ⟨a, b, rs, ss, rfl, S1, S2, f1, f2, ok, q⟩ := h
    obtain ⟨dx, t, xs, h1, h2, h3⟩ := S1.ex
    obtain ⟨dy, u, ys, k1, k2, k3⟩ := S2.ex
    refine ⟨_, pss_cons (ps_if (pt_not (pt_val (pe_callB call_isi (by rfl) T.g.f.isi (by decide +kernel) (pa_cons (pv 1) (pa_cons (pe_glob (v := .ref CP) (by rfl) T.gP rfl) pa_nil))))) (pss_one ps_dead) pss_nil)
      (pss_one (ps_ret (pe_make (E := E) MK GI hr (by rfl) T.gP bI .nil (passes_call (takes_of rfl rfl rfl rfl) fun _ _ _ _ h => h) (pa_cons (pe_op op_cat (pe_callTy call_list_of (by rfl) T.g.f.list (by decide +kernel) (pa_cons (pe_fld (pv 0) rfl) pa_nil))
        (pe_lc (own := [("rule", 2)]) (g := gName 2) (tt := tTest (tOp (rInDT K true) (tVar 2) (tFld K (tVar 0) "rules"))) (te := tVar 2) rfl scAdd.nd (pi_seq (pe_fld (pv 1) rfl)) (blkOk_by (N := nAd) (sc := defScope sAdd) (by decide +kernel))
            (fun _ _ _ _ _ => pg_name (i := 2) scAdd.nd rfl (Or.inl rfl)) (fun _ _ _ _ _ => pts_one (pt_cmpR (op_notInDT hr.units) (pv 2) (pe_fld (pv 0) rfl) rfl)) (fun _ _ _ _ _ => pv 2))) pa_nil)))), ?_⟩
    refine ⟨_, rfl, .ref b, .ref CP, .ref CP, .ref CP, true, rfl, .own CP, .base (.ins k1 T.cl TI.ha TI.hn TI.htk TI.hm), kit_self CP, _, rfl, iteF ?_⟩
    refine ⟨_, rfl, a, CP, dx, _, _, rfl, h1, T.cl, T.nR, flds_r _, t, xs, rfl, .inr (.inl (.inl h2)), fun l hl => ?_⟩
    have s1 : Same H (upd H l (.lst xs)) := Same.fresh (Same.refl _) hl
    have lx : xs.length = rs.length := by rw [h3.len, List.length_map]
    have ly : ys.length = ss.length := by rw [k3.len, List.length_map]
    have e1 : upd H l (.lst xs) l = some (.lst xs) := upd_same
    generalize upd H l (.lst xs) = H1 at s1 e1
    have ku : SqT K H1 u ys := .inl (.inl (s1 _ _ k2))
    refine ⟨_, rfl, b, CP, dy, _, _, rfl, s1 _ _ k1, T.cl, T.nR, flds_r _, false, u, ys, rfl, ku, fun J wk D hD => lcX wk hD (fun i acc H => DaAll K (less D H) acc (((ss.take i).filter fun r => !decide (r ∈ rs)).map dtL)) (by rw [sizeLine_eq]; omega) (fun _ _ _ _ r b => DaAll.same (less_but b) r) .nil (fun H2 s2 => seqT_same s2 ku) ?_ ?_⟩
    · intro i x H2 acc hi ex s2 e r Nx yes no
      obtain ⟨d, ed, dax⟩ := (k3.same (s1.trans s2)).at ex
      rw [List.getElem?_map] at ed
      obtain ⟨r0, er, rfl⟩ := Option.map_eq_some_iff.mp ed
      have up : ss.take (i + 1) = ss.take i ++ [r0] := take_up er
      have s02 := s1.trans s2
      refine ⟨rfl, ?_⟩
      refine ⟨_, rfl, _, rfl, a, CP, dx, _, _, rfl, s02 _ _ h1, T.cl, T.nR, flds_r _, t, xs, encA (rs.map dtL), encD (dtL r0), rfl, .inl (.inl (s02 _ _ h2)), dp_A (h3.same s02) (ndA_map nd_L _), dp_D dax (nd_L _), lay_A _, lay_D _, by have := dep_L r0; omega, ?_⟩
      rw [any_L2]
      refine ⟨_, rfl, ?_⟩
      cases hm : decide (r0 ∈ rs) with
      | true =>
        refine iteF (no _ (Same.refl _) ?_)
        rw [up, List.filter_append]
        simp [List.filter_cons, hm]
        simpa using r
      | false =>
        refine iteT ⟨_, rfl, yes _ _ (Same.refl _) ?_⟩
        rw [up, List.filter_append, List.map_append]
        refine DaAll.app r ?_
        simp only [List.filter_cons, hm]
        exact .cons (Da.lessN e dax (nl_L _)) .nil
    · intro H2 acc s2 e r
      rw [ly, List.take_length] at r
      have r2 := DaAll.same less_same r
      have s02 := s1.trans s2
      have la : acc.length ≤ ss.length := by
        rw [r2.len, List.length_map]
        exact List.length_filter_le _ _
      refine ⟨l, D, xs, acc, rfl, rfl, s2 _ _ e1, e, by rw [sizeLine_eq]; omega, fun p hp => ?_⟩
      have s3 : Same H2 (upd H2 p (.lst (xs ++ acc))) := Same.fresh (Same.refl _) hp
      refine mk_read (rs := addR rs ss) (d := .lst ((addR rs ss).map dtL)) (.lst (SqL.of upd_same) ?_) rfl ok fun H' x s4 hx S => q H' x ((s02.trans s3).trans s4) (Same.no (s02.trans s3) hx) S
      unfold addR
      rw [List.map_append]
      exact DaAll.app (h3.same (s02.trans s3)) (r2.same s3)
end
end K
set_option Elab.async false
set_option linter.all false
set_option maxRecDepth 100000
set_option maxHeartbeats 4000000
/-! Policies: without. -/
namespace K
open PySem L2 Hk PyProof.Rows
/-- the rules without those with the numbers -/
def dropR (rs : List Rl) (ns : List Int) : List Rl := (rs.zipIdx.filter fun x => !decide ((x.2 : Int) ∈ ns)).map (·.1)
theorem dropR_snoc (rs : List Rl) (r : Rl) (ns : List Int) : dropR (rs ++ [r]) ns = if decide ((rs.length : Int) ∈ ns) = true then dropR rs ns else dropR rs ns ++ [r] := by
  unfold dropR
  rw [List.zipIdx_append, List.filter_append, List.map_append]
  cases h : decide ((rs.length : Int) ∈ ns) <;> simp [List.filter_cons, h]
theorem dropR_sub (rs : List Rl) (ns : List Int) : (dropR rs ns).Sublist rs := by
  unfold dropR
  have := (List.filter_sublist (p := fun x : Rl × Nat => !decide ((x.2 : Int) ∈ ns)) (l := rs.zipIdx)).map (·.1)
  rwa [show (rs.zipIdx.map fun x : Rl × Nat => x.1) = rs from List.zipIdx_map_fst 0 rs] at this
/-- the number that is no place -/
def spWi (K : PySem.W.Frag) (CP CB : Addr) : Sp := fun vs H Q E => ∃ (a p : Addr) (rs : List Rl) (ns : List Int), vs = [.ref a, .ref p] ∧ PoAt K CP H a rs ∧ Pok rs ∧ H p = some (.tup (ns.map V.int)) ∧ ns.length < 1000 ∧
  (∀ n ∈ ns, plc (.int n) rs.length = false → ∀ dd H', Same H H' → H dd = none → ErrAt H' dd "number" (.int n) → E (.ref CB) (some dd) H') ∧
  ((∀ n ∈ ns, plc (.int n) rs.length = true) → ∀ H' x, Same H H' → H x = none → PoAt K CP H' x (dropR rs ns) → Q (.ref x) H')
theorem inV_ints (n : Int) : ∀ l : List Int, inV (.int n) (l.map V.int) = decide (n ∈ l)
  | [] => rfl
  | y :: l => by
    show (eqV (.int y) (.int n) || inV (.int n) (l.map V.int)) = _
    rw [inV_ints n l]
    have e : eqV (.int y) (.int n) = decide (y = n) := by
      show (y == n) = _
      rw [Bool.eq_iff_iff, beq_iff_eq, decide_eq_true_eq]
    rw [e, Bool.eq_iff_iff, Bool.or_eq_true, decide_eq_true_eq, decide_eq_true_eq, decide_eq_true_eq, List.mem_cons]
    exact ⟨fun z => z.elim (fun e => .inl e.symm) .inr, fun z => z.elim (fun e => .inl e.symm) .inr⟩
theorem flat_ints : ∀ l : List Int, (l.map V.int).all flatV = true
  | [] => rfl
  | _ :: l => flat_ints l
section
variable {P : Program} {w : World} {K : PySem.W.Frag} {mg : Str → Option Value} {base : Heap} {f fR fPR CP CB fB cB cdB fI fP : Addr} {fd fdB fdI fdP : FuncData}
abbrev nWi : List Str := ["self", "numbers", "number", "rule"]
theorem scWi : FnScope nWi ((["self"] : List Str) ++ (["numbers"] : List Str)) (defScope sWithout) := ⟨rfl, rfl, rfl, by decide +kernel, rfl, by decide +kernel, by decide +kernel⟩
theorem ok_without (F : FunD K "without" "Policy.without" (defArgs sWithout) (defBody sWithout) (defScope sWithout) [] [] f fd) (T : TxtI P K mg fR fPR CP CB fB cB cdB fdB)
    (gP : mg "is_place" = some (.ref fP)) (kP : PySem.W.keepIn K (.ref fP) = true) (GP : FnOk P w K mg base CX0 2 fP fdP ["value", "many"] (spIsPlace K)) (bP : Binds K fdP ["value", "many"] [])
    (GI : FnOk P w K mg base (L2.CX P w) 5 fI fdI ["self", "rules"] (spInit K CP CB)) (bI : Binds K fdI ["self", "rules"] []) (MK : Mk K CP fI) :
    FnR P w K mg base (L2.CX P w) 7 f (fun vs H Q E => ∃ ws rest, vs = ws ++ rest ∧ ws.length = 1 ∧ rest.length ≤ sizeLine ∧ ∀ p, H p = Option.none → spWi K CP CB (ws ++ [V.ref p]) (upd H p (.tup rest)) Q E) := by
  obtain ⟨oc, od, dV, kV, doc, pm, an, cdv, ct, osl, rfl, lk, hcd, hD, _⟩ := F.ex
  obtain rfl : dV = .none := by
    rcases hD with ⟨_, h⟩ | ⟨h, _⟩
    · exact h
    · exact absurd rfl h
  refine StX.fn_star (ps := ["self"]) (pv := "numbers") lk hcd scWi StX.cxUp (fun us rest hl => ?_) (fun A outer s H vs Q E hr h => ?_)
  · obtain ⟨u, rfl⟩ := List.length_eq_one_iff.mp hl
    cases rest <;> rfl
  · obtain ⟨a, p, rs, ns, rfl, S, ok, hp, fn, qe, qk⟩ := h
    obtain ⟨dx, t, xs, h1, h2, h3⟩ := S.ex
    have hr2 := hr.mono (show 2 ≤ 6 by decide)
    refine ⟨_, pss_cons (ps_for (passes_of rfl) rfl (pi_seq (pv 1)) (pg_name (i := 2) scWi.nd rfl (Or.inl rfl))
        (pss_one (ps_if (pt_not (pt_val (pe_call GP hr2 (by rfl) gP kP bP .nil pass0 (pa_cons (pv 2) (pa_cons (pe_callB call_len_seq (by rfl) T.g.f.len PySem.boot_len (pa_cons (pe_fld (pv 0) rfl) pa_nil)) pa_nil)))))
          (pss_one (ps_raiseBad rfl (takes_of rfl rfl rfl rfl) T.B fld_number T.bB hr2 (by rfl) T.gB (pa_cons (pv 2) pa_nil))) pss_nil)))
      (pss_one (ps_ret (pe_make (E := E) MK GI hr (by rfl) T.gP bI .nil (passes_call (takes_of rfl rfl rfl rfl) fun _ _ _ _ h => h) (pa_cons
        (pe_lc (own := [("number", 2), ("rule", 3)]) (g := gTup K 2 (gCons (gName 2) (gCons (gName 3) gNil))) (tt := tTest (tOp (rIn K true) (tVar 2) (tVar 1))) (te := tVar 3) rfl scWi.nd (pi_enumX (by rfl) T.g.enum (pa_cons (pe_fld (pv 0) rfl) pa_nil)) (blkOk_by (N := nWi) (sc := defScope sWithout) (by decide +kernel))
            (fun _ _ _ _ _ => pg_tup rfl (pgs_cons (pg_name (i := 2) scWi.nd rfl (Or.inl rfl)) (pgs_cons (pg_name (i := 3) scWi.nd rfl (Or.inl rfl)) pgs_nil))) (fun _ _ _ _ _ => pts_one (pt_cmpR op_notIn_seq (pv 2) (pv 1) rfl)) (fun _ _ _ _ _ => pv 3)) pa_nil)))), ?_⟩
    have lx : xs.length = rs.length := by rw [h3.len, List.length_map]
    have hpT : SqT K H p (ns.map V.int) := .inl (.inl hp)
    refine ⟨_, rfl, false, p, ns.map V.int, rfl, hpT, fun J wk => for_it wk (fun i σ H' => ∃ v3 v4, σ = [some (.ref a), some (.ref p), v3, v4] ∧ Same H H' ∧ ∀ n ∈ ns.take i, plc (.int n) rs.length = true) ⟨none, none, rfl, Same.refl _, by simp⟩ (fun i σ H' _ ⟨_, _, _, s, _⟩ => seqT_same s hpT) ?_ ?_⟩
    · rintro i z σ H1 H1' hi ⟨v3, v4, rfl, s1, hn⟩ ⟨rfl, ez⟩
      rw [List.getElem?_map] at ez
      obtain ⟨n, en, rfl⟩ := Option.map_eq_some_iff.mp ez
      have up : ns.take (i + 1) = ns.take i ++ [n] := take_up en
      refine ⟨_, rfl, _, rfl, a, CP, dx, _, _, rfl, s1 _ _ h1, T.cl, T.nR, flds_r _, t, xs, rfl, .inr (.inl (.inl (s1 _ _ h2))), ?_⟩
      rw [lx]
      refine ⟨_, _, rfl, .inl ⟨n, rfl, _, rfl, ?_⟩⟩
      rw [show (decide (0 ≤ n) && decide (n < (rs.length : Int))) = plc (.int n) rs.length from rfl]
      cases e : plc (.int n) rs.length with
      | false =>
        exact iteT ⟨_, rfl, _, rfl, fun dd hd => qe n (List.mem_of_getElem? en) e dd _ (Same.fresh s1 hd) (Same.no s1 hd) upd_same⟩
      | true =>
        refine iteF ⟨_, _, rfl, s1, fun m hm => ?_⟩
        rw [up, List.mem_append, List.mem_singleton] at hm
        rcases hm with hm | rfl
        · exact hn m hm
        · exact e
    · rintro σ H1 ⟨v3, v4, rfl, s1, hn⟩
      rw [List.length_map, List.take_length] at hn
      have kt : SqT K H1 t xs := .inl (.inl (s1 _ _ h2))
      refine ⟨_, rfl, a, CP, dx, _, _, rfl, s1 _ _ h1, T.cl, T.nR, flds_r _, false, t, xs, rfl, kt, fun J2 wk2 D hD => lcE wk2 hD (fun i acc H => DaAll K (less D H) acc ((dropR (rs.take i) ns).map dtL)) (by have := ok.few; rw [sizeLine_eq]; omega) (fun _ _ _ _ r b => DaAll.same (less_but b) r) .nil (fun H2 s2 => seqT_same s2 kt) ?_ ?_⟩
      · intro i x T1 H2 acc hi ex s2 hT e r Nx yes no
        obtain ⟨d, ed, dax⟩ := (h3.same (s1.trans s2)).at ex
        rw [List.getElem?_map] at ed
        obtain ⟨r0, er, rfl⟩ := Option.map_eq_some_iff.mp ed
        have up : rs.take (i + 1) = rs.take i ++ [r0] := take_up er
        have sT : Same H2 (upd H2 T1 (.tup [.int (i : Nat), x])) := Same.fresh (Same.refl _) hT
        have lt : (rs.take i).length = i := by rw [List.length_take]; omega
        refine ⟨T1, _, rfl, .inl (.inl upd_same), rfl, _, _, rfl, _, _, rfl, rfl, rfl, ?_⟩
        refine ⟨_, rfl, _, rfl, p, ns.map V.int, rfl, .inr (.inl (.inl (((s1.trans s2).trans sT) _ _ hp))), rfl, flat_ints _, _, rfl, ?_⟩
        rw [if_pos rfl, inV_ints]
        cases hm : decide (((i : Nat) : Int) ∈ ns) with
        | true =>
          refine iteF (no _ sT ?_)
          rw [up, dropR_snoc, lt, if_pos hm]
          exact DaAll.same (less_mono sT) r
        | false =>
          refine iteT ⟨_, rfl, yes _ _ sT ?_⟩
          rw [up, dropR_snoc, lt, if_neg (by rw [hm]; decide), List.map_append]
          exact DaAll.app (DaAll.same (less_mono sT) r) (.cons (Da.lessN (sT _ _ e) (dax.same sT) (nl_L _)) .nil)
      · intro H2 acc s2 e r
        rw [lx, List.take_length] at r
        have r2 := DaAll.same less_same r
        have s02 := s1.trans s2
        exact mk_read (rs := dropR rs ns) (d := .lst ((dropR rs ns).map dtL)) (.lst (SqL.of e) r2) rfl (ok.sub (dropR_sub rs ns)) fun H' x s4 hx S => qk hn H' x (s02.trans s4) (Same.no s02 hx) S
end
end K
set_option Elab.async false
set_option linter.all false
set_option maxRecDepth 100000
set_option maxHeartbeats 4000000
namespace Hk
open PySem L2
theorem But.put {d : Addr} {H H1 : Hp} {p : Addr} {o : HO} (a : But d H H1) (hp : H p = none) : But d H (L2.upd H1 p o) := fun b u n e => by
  rw [upd_ne (ne_of_none e hp)]
  exact a b u n e
/-- a comprehension each of whose turns makes objects, and changes the one at d -/
theorem lcB {J : It} {n : Nat} {G : Hp → Prop} {xs : List V} (w : Walk J n G (YAt xs)) {g : TG} {tt : TT} {te : TE} {vs : List Nat} {σ : L2.St} {H1 : Hp} {D d : Addr} {Qd : Hp → Prop} (hD : H1 D = none) (hd : D ≠ d) (R : Nat → List V → Hp → Prop) (big : n < sizeLine)
    (hR : ∀ i l H H', R i l H → But D H H' → R i l H') (h0 : R 0 [] H1) (hG : ∀ H, But d H1 H → G H)
    (turn : ∀ i x H acc, i < n → xs[i]? = some x → But d H1 H → H D = some (.lst acc) → R i acc H → ∀ Nx : Hp → Prop,
      (∀ y H4, But d H H4 → R (i + 1) (acc ++ [y]) H4 → ∃ acc, H4 D = some (.lst acc) ∧ acc.length < sizeLine ∧ Nx (L2.upd H4 D (.lst (acc ++ [y])))) → (∀ H3, But d H H3 → R (i + 1) acc H3 → Nx H3) →
      g x (wipe σ vs) H fun σ2 H2 => wipe σ2 vs = wipe σ vs ∧ tt σ2 H2 fun b H3 =>
        if b = true then te σ2 H3 fun y H4 => ∃ acc, H4 D = some (.lst acc) ∧ acc.length < sizeLine ∧ Nx (L2.upd H4 D (.lst (acc ++ [y]))) else Nx H3)
    (fin : ∀ H acc, But d H1 H → H D = some (.lst acc) → R n acc H → Qd H) :
    ∃ W : Nat → Nat → Hp → Prop, (∃ m, W 0 m (L2.upd H1 D (.lst []))) ∧ ∀ i m H, W i m H →
      (J.stop i H ∧ Qd H) ∨ (J.go i H ∧ ∃ Nx : Hp → Prop, (∀ H', Nx H' → ∃ m', m' < m ∧ W (i + 1) m' H') ∧ ∀ x H', J.yld i H x H' → g x (wipe σ vs) H' fun σ2 H2 => wipe σ2 vs = wipe σ vs ∧ tt σ2 H2 fun b H3 =>
        if b = true then te σ2 H3 fun y H4 => ∃ acc, H4 D = some (.lst acc) ∧ acc.length < sizeLine ∧ Nx (L2.upd H4 D (.lst (acc ++ [y]))) else Nx H3) := by
  refine lc_it w (fun i H => But d H1 H ∧ ∃ acc, H D = some (.lst acc) ∧ acc.length ≤ i ∧ R i acc H) ⟨But.put But.rfl' hD, [], upd_same, Nat.le_refl _, hR _ _ _ _ h0 (But.upd But.rfl')⟩ (fun i H _ p => hG H p.1) (fun i x H H' hi p y => ?_) fun H ⟨s, acc, e, _, r⟩ => fin H acc s e r
  obtain ⟨s, acc, e, l, r⟩ := p
  obtain ⟨rfl, ex⟩ := y
  refine turn i x H' acc hi ex s e r _ (fun y H4 s4 r4 => ⟨acc, s4 _ _ hd e, by omega, ?_, acc ++ [y], upd_same, by rw [List.length_append]; exact Nat.succ_le_succ l, hR _ _ _ _ r4 (But.upd But.rfl')⟩) fun H3 s3 r3 => ⟨s.trans s3, acc, s3 _ _ hd e, Nat.le_succ_of_le l, r3⟩
  exact But.put (s.trans s4) hD
end Hk
set_option Elab.async false
set_option linter.all false
set_option maxRecDepth 100000
set_option maxHeartbeats 4000000
/-! The law's _law_rules. -/
namespace K
open PySem L2 Hk PyProof.Rows
structure TxtLR (K : PySem.W.Frag) (mg : Str → Option Value) (fX fP : Addr) : Prop where
  g : TxtG mg
  gX : mg "_law_next" = some (.ref fX)
  kX : PySem.W.keepIn K (.ref fX) = true
  gP : mg "_law_pick" = some (.ref fP)
  kP : PySem.W.keepIn K (.ref fP) = true
/-- the drawn words -/
def lws : List Str := ["g", "r", "t", "w"]
/-- a rule of words, as it is kept -/
def Wok : Rl → Prop
  | .ft _ a ps => wordOk 8 a = true ∧ (∀ p ∈ ps, wordOk 8 p.1 = true ∧ wordOk 8 p.2 = true) ∧ ps.Nodup ∧ 1 ≤ ps.length ∧ ps.length ≤ 9 ∧ srtP ps = ps
  | .rs a b => wordOk 8 a = true ∧ wordOk 8 b = true
  | .mt a b c => wordOk 8 a = true ∧ wordOk 8 b = true ∧ wordOk 8 c = true
  | .mk ws => (∀ x ∈ ws, wordOk 8 x = true) ∧ ws.Nodup ∧ 1 ≤ ws.length ∧ ws.length ≤ 9 ∧ ws.mergeSort leT = ws
theorem Wok.rok : ∀ {r : Rl}, Wok r → Rok r
  | .ft _ _ _, h => rok_ft h.1 h.2.1 h.2.2.1 h.2.2.2.1 h.2.2.2.2.1 h.2.2.2.2.2
  | .rs _ _, h => rok_rs h.1 h.2
  | .mt _ _ _, h => rok_mt h.1 h.2.1 h.2.2
  | .mk _, h => rok_mk h.1 h.2.1 h.2.2.1 h.2.2.2.1 h.2.2.2.2
/-- what is found -/
structure LOk (m : Nat) (rs : List Rl) : Prop where
  all : ∀ r ∈ rs, Wok r
  few : rs.length ≤ m
  one : (rs.filter isMk).length ≤ 1
def spLR (K : PySem.W.Frag) : Sp := fun vs H Q _ => ∃ (d : Addr) (m : Nat), vs = [.ref d, .int (m : Int)] ∧ Dr K H d ∧ m ≤ 10 ∧
  ∀ (H' : Hp) (l : Addr) (xs : List V) (rs : List Rl), But d H H' → Dr K H' d → H l = none → l ≠ d → H' l = some (.lst xs) → DaAll K (less l (less d H')) xs (rs.map dtL) → LOk m rs → Q (.ref l) H'
theorem ne_of_none' {H : Hp} {p c : Addr} {o : HO} (h : H p = none) (e : H c = some o) : p ≠ c := fun z => by
  rw [z, e] at h
  cases h
/-- the loop's invariant -/
structure LI (K : PySem.W.Frag) (H : Hp) (d p w : Addr) (H' : Hp) (n : Nat) (rs : List Rl) : Prop where
  b : But d H H'
  g : Go H H' d
  ex : ∃ xs, H' p = some (.lst xs) ∧ DaAll K (less p (less d H')) xs (rs.map dtL)
  wd : H' w = some (.lst (lws.map V.str))
  ok : LOk n rs
section
variable {K : PySem.W.Frag} {H H' H4 : Hp} {d p w : Addr} {n : Nat} {rs : List Rl}
theorem LI.go (L : LI K H d p w H' n rs) (b : But d H' H4) (g : Go H' H4 d) (pd : p ≠ d) (wd : w ≠ d) : LI K H d p w H4 n rs := by
  obtain ⟨b0, g0, ⟨xs, h1, h2⟩, h3, ok⟩ := L
  exact ⟨b0.trans b, g0.trans g, ⟨xs, b _ _ pd h1, DaAll.same (less_mono (less_but b)) h2⟩, b _ _ wd h3, ok⟩
theorem LI.fresh (L : LI K H d p w H' n rs) (s : Same H' H4) (D : Dr K H d) : LI K H d p w H4 n rs := by
  obtain ⟨b0, g0, ⟨xs, h1, h2⟩, h3, ok⟩ := L
  exact ⟨b0.trans (But.of s), g0.same fun o e => s _ _ e, ⟨xs, s _ _ h1, DaAll.same (less_mono (less_but (But.of s))) h2⟩, s _ _ h3, ok⟩
/-- a rule more -/
theorem LI.push {xs : List V} {v : V} {r : Rl} (L : LI K H d p w H' n rs) (hp : H p = none) (pd : p ≠ d) (pw : p ≠ w) (ex : H' p = some (.lst xs)) (da : Da K (less p (less d H')) v (dtL r)) (hr : Wok r) (one : isMk r = true → (rs.filter isMk).length = 0) :
    LI K H d p w (upd H' p (.lst (xs ++ [v]))) (n + 1) (rs ++ [r]) := by
  obtain ⟨b0, g0, ⟨xs', h1, h2⟩, h3, ok⟩ := L
  rw [ex] at h1
  have e := HO.lst.inj (Option.some.inj h1)
  subst e
  have sm : Same (less p (less d H')) (less p (less d (upd H' p (.lst (xs ++ [v]))))) := less_but fun b o hb e => by
    by_cases hbd : b = d
    · rw [hbd] at e
      unfold less at e
      rw [if_pos rfl] at e
      cases e
    · rw [less_ne hbd] at e ⊢
      rw [upd_ne hb]
      exact e
  refine ⟨But.put b0 hp, g0.same fun o e => by rw [upd_ne pd.symm]; exact e, ⟨_, upd_same, ?_⟩, by rw [upd_ne pw.symm]; exact h3, ⟨fun x hx => ?_, ?_, ?_⟩⟩
  · rw [List.map_append]
    exact DaAll.app (DaAll.same sm h2) (.cons (Da.same sm da) .nil)
  · rcases List.mem_append.mp hx with hx | hx
    · exact ok.all x hx
    · rw [List.mem_singleton] at hx
      rw [hx]
      exact hr
  · rw [List.length_append]
    have := ok.few
    show rs.length + 1 ≤ n + 1
    omega
  · rw [List.filter_append, List.length_append]
    have := ok.one
    cases e : isMk r with
    | true =>
      rw [one e]
      simp [List.filter_cons, e]
    | false => simpa [List.filter_cons, e] using this
theorem LI.small {xs : List V} (L : LI K H d p w H' n rs) (e : H' p = some (.lst xs)) (hn : n ≤ 100) : xs.length < sizeLine := by
  obtain ⟨_, _, ⟨xs', h1, h2⟩, _, ok⟩ := L
  rw [e] at h1
  have e2 := HO.lst.inj (Option.some.inj h1)
  subst e2
  have l := h2.len
  rw [List.length_map] at l
  have := ok.few
  rw [sizeLine_eq]
  omega
theorem LI.keep (L : LI K H d p w H' n rs) : LI K H d p w H' (n + 1) rs := ⟨L.b, L.g, L.ex, L.wd, ⟨L.ok.all, Nat.le_succ_of_le L.ok.few, L.ok.one⟩⟩
end
theorem lws_ok {x : Str} (h : x ∈ lws) : wordOk 8 x = true ∧ x.length ≤ 1000 := by
  unfold lws at h
  simp only [List.mem_cons, List.not_mem_nil, or_false] at h
  rcases h with rfl | rfl | rfl | rfl <;> exact ⟨by decide +kernel, by decide⟩
theorem less2 {K : PySem.W.Frag} {H : Hp} {d p : Addr} {v : V} {r : Rl} {xs : List V} (h : Da K H v (dtL r)) (D : Dr K H d) (hp : H p = some (.lst xs)) (pd : p ≠ d) : Da K (less p (less d H)) v (dtL r) := by
  obtain ⟨_, _, _, e, _⟩ := D
  exact Da.lessN (by rw [less_ne pd]; exact hp) (Da.lessN e h (nl_L r)) (nl_L r)
theorem wok_ft {b : Bool} {a : Str} {ps : List (Str × Str)} (ha : a ∈ lws) (h : ∀ p ∈ ps, p.1 ∈ lws ∧ p.2 ∈ lws) (nd : ps.Nodup) (l1 : 1 ≤ ps.length) (l2 : ps.length ≤ 9) : Wok (.ft b a (srtP ps)) :=
  ⟨(lws_ok ha).1, fun p hp => let q := h p ((srtP_perm ps).mem_iff.mp hp); ⟨(lws_ok q.1).1, (lws_ok q.2).1⟩, (srtP_perm ps).nodup_iff.mpr nd, by rw [(srtP_perm ps).length_eq]; exact l1, by rw [(srtP_perm ps).length_eq]; exact l2, srtP_congr (srtP_perm ps)⟩
theorem eqv_P (p q : Str × Str) : PyData.eqv (encD (dtP p)) (encD (dtP q)) = decide (p = q) := by
  rw [Bool.eq_iff_iff, eqv_D _ _ (nd_P p) (nd_P q), decide_eq_true_eq]
  exact ⟨dtP_inj p q, fun e => by rw [e]⟩
theorem pick_pairs {c : Bool} {σ : L2.St} {H : Hp} {Q : VK} {x2 x3 : Str} (h7 : σ[7]? = some (some (.str x2))) (h8 : σ[8]? = some (some (.str x3)))
    (k : ∀ (y : Str) (t pr : Addr) (H' : Hp), (y = x2 ∨ y = x3) → Same H H' → H' t = some (.tup [.str x2, .str y]) → H' pr = some (.lst [.ref t]) → H pr = none → Q (.ref pr) H') :
    if c = true then tLst (tCons (tTup (tCons (tVar 7) (tCons (tVar 7) tNil))) tNil) σ H Q else tLst (tCons (tTup (tCons (tVar 7) (tCons (tVar 8) tNil))) tNil) σ H Q := by
  cases c with
  | true =>
    refine iteT ⟨_, h7, _, h7, by show 2 ≤ sizeLine; decide, fun t ht => ⟨by show 1 ≤ sizeLine; decide, fun pr hpr => ?_⟩⟩
    have s1 : Same H (upd H t (.tup [.str x2, .str x2])) := Same.fresh (Same.refl _) ht
    have ne : t ≠ pr := fun z => by rw [← z, upd_same] at hpr; cases hpr
    exact k x2 t pr _ (.inl rfl) (Same.fresh s1 hpr) (by rw [upd_ne ne, upd_same]) upd_same (Same.no s1 hpr)
  | false =>
    refine iteF ⟨_, h7, _, h8, by show 2 ≤ sizeLine; decide, fun t ht => ⟨by show 1 ≤ sizeLine; decide, fun pr hpr => ?_⟩⟩
    have s1 : Same H (upd H t (.tup [.str x2, .str x3])) := Same.fresh (Same.refl _) ht
    have ne : t ≠ pr := fun z => by rw [← z, upd_same] at hpr; cases hpr
    exact k x3 t pr _ (.inr rfl) (Same.fresh s1 hpr) (by rw [upd_ne ne, upd_same]) upd_same (Same.no s1 hpr)
theorem inV_strs (x : Str) : ∀ l : List Str, inV (.str x) (l.map V.str) = decide (x ∈ l)
  | [] => rfl
  | y :: l => by
    show (eqV (.str y) (.str x) || inV (.str x) (l.map V.str)) = _
    rw [inV_strs x l]
    have e : eqV (.str y) (.str x) = decide (y = x) := by
      show (y == x) = _
      rw [Bool.eq_iff_iff, beq_iff_eq, decide_eq_true_eq]
    rw [e, Bool.eq_iff_iff, Bool.or_eq_true, decide_eq_true_eq, decide_eq_true_eq, decide_eq_true_eq, List.mem_cons]
    exact ⟨fun z => z.elim (fun e => .inl e.symm) .inr, fun z => z.elim (fun e => .inl e.symm) .inr⟩
theorem flat_strs : ∀ l : List Str, (l.map V.str).all flatV = true
  | [] => rfl
  | _ :: l => flat_strs l
theorem knd_len (b : Bool) : (knd b).length ≤ 1000 := by cases b <;> decide
theorem pick_knd {c : Bool} {σ : L2.St} {H : Hp} {Q : VK} (h : Q (.str (knd c)) H) : if c = true then tC (.str "fetch") σ H Q else tC (.str "hand") σ H Q := by
  cases c with
  | true => exact iteT h
  | false => exact iteF h
section
variable {P : Program} {w : World} {K : PySem.W.Frag} {mg : Str → Option Value} {base : Heap} {f fX fP : Addr} {fd fdX fdP : FuncData}
abbrev nLR : List Str := ["draw", "most", "words", "found", "turn", "kind", "one", "two", "three", "pairs", "rule"]
theorem scLR : FnScope nLR ["draw", "most"] (defScope sLRules) := ⟨rfl, rfl, rfl, by decide +kernel, rfl, by decide +kernel, by decide +kernel⟩
theorem ok_lrules (F : Fun K "_law_rules" "_law_rules" sLRules f fd) (T : TxtLR K mg fX fP) (GX : FnOk P w K mg base CX0 3 fX fdX ["draw", "bound"] (spNext K)) (bX : Binds K fdX ["draw", "bound"] [])
    (GP : FnOk P w K mg base CX0 4 fP fdP ["draw", "things"] (spPick K)) (bP : Binds K fdP ["draw", "things"] []) : FnOk P w K mg base CX0 5 f fd ["draw", "most"] (spLR K) := by
  refine F.ok scLR (fun vs H Q E h => ?_) (fun cdv A outer s H vs Q E hr h => ?_)
  · obtain ⟨d, m, rfl, _⟩ := h
    rfl
  · obtain ⟨d, m, rfl, D, hm, q0⟩ := h
    have hr3 : Room 3 _ := hr.mono (by decide)
    refine ⟨_, pss_cons (ps_par rfl scLR.nd (i := 2) (j := 3) rfl rfl (by decide) rfl rfl (pa_cons (pe_lst (pa_cons pe_str (pa_cons pe_str (pa_cons pe_str (pa_cons pe_str pa_nil))))) (pa_cons (pe_lst pa_nil) pa_nil)) rfl)
      (pss_cons (ps_for PassesOwn.never rfl (pi_range1 (by rfl) T.g.range (pa_cons (pe_call GX hr3 (by rfl) T.gX T.kX bX .nil pass0 (pa_cons (pv 0) (pa_cons (pe_op op_add (pv 1) pe_int) pa_nil))) pa_nil)) (pg_name (i := 4) scLR.nd rfl (Or.inl rfl))
        (pss_cons (ps_asg (pe_tup (pa_cons (pe_call GX hr3 (by rfl) T.gX T.kX bX .nil pass0 (pa_cons (pv 0) (pa_cons pe_int pa_nil))) (pa_cons (pe_call GP hr (by rfl) T.gP T.kP bP .nil pass0 (pa_cons (pv 0) (pa_cons (pv 2) pa_nil))) (pa_cons (pe_call GP hr (by rfl) T.gP T.kP bP .nil pass0 (pa_cons (pv 0) (pa_cons (pv 2) pa_nil))) (pa_cons (pe_call GP hr (by rfl) T.gP T.kP bP .nil pass0 (pa_cons (pv 0) (pa_cons (pv 2) pa_nil))) pa_nil)))))
            (pg_tup rfl (pgs_cons (pg_name (i := 5) scLR.nd rfl (Or.inl rfl)) (pgs_cons (pg_name (i := 6) scLR.nd rfl (Or.inl rfl)) (pgs_cons (pg_name (i := 7) scLR.nd rfl (Or.inl rfl)) (pgs_cons (pg_name (i := 8) scLR.nd rfl (Or.inl rfl)) pgs_nil))))))
        (pss_one (ps_if (pt_cmpR op_lt (pv 5) pe_int (nomark _))
          (pss_cons (ps_set (i := 9) scLR.nd rfl (Or.inl rfl) (pe_ifExp (pt_cmpR op_eq (pe_call GX hr3 (by rfl) T.gX T.kX bX .nil pass0 (pa_cons (pv 0) (pa_cons pe_int pa_nil))) pe_int (nomark _)) (pe_lst (pa_cons (pe_tup (pa_cons (pv 7) (pa_cons (pv 7) pa_nil))) pa_nil)) (pe_lst (pa_cons (pe_tup (pa_cons (pv 7) (pa_cons (pv 8) pa_nil))) pa_nil))))
          (pss_cons (ps_if (PW.pt (pw_and (pt_cmpR op_eq (pe_call GX hr3 (by rfl) T.gX T.kX bX .nil pass0 (pa_cons (pv 0) (pa_cons pe_int pa_nil))) pe_int (nomark _)) (pw_and1 (pt_cmpR (op_notInD hr.units) (pe_tup (pa_cons (pv 6) (pa_cons (pv 6) pa_nil))) (pv 9) rfl))))
              (pss_one (ps_expr (pe_bm PySem.F.plainAttrs_list PySem.F.slot_list_append PySem.F.type_list_append mt_append (pv 9) (pa_cons (pe_tup (pa_cons (pv 6) (pa_cons (pv 6) pa_nil))) pa_nil)))) pss_nil)
          (pss_one (ps_expr (pe_bm PySem.F.plainAttrs_list PySem.F.slot_list_append PySem.F.type_list_append mt_append (pv 3) (pa_cons (pe_tup (pa_cons (pe_ifExp (pt_cmpR op_lt (pv 5) pe_int (nomark _)) pe_str pe_str) (pa_cons (pv 6) (pa_cons (pe_callTy call_tuple_of (by rfl) T.g.f.tuple (by decide +kernel) (pa_cons (pe_callB (cr_sortR hr.units) (by rfl) T.g.f.sorted (by decide +kernel) (pa_cons (pv 9) pa_nil)) pa_nil)) pa_nil)))) pa_nil))))))
          (pss_one (ps_if (pt_cmpR op_eq (pv 5) pe_int (nomark _))
            (pss_one (ps_expr (pe_bm PySem.F.plainAttrs_list PySem.F.slot_list_append PySem.F.type_list_append mt_append (pv 3) (pa_cons (pe_tup (pa_cons pe_str (pa_cons (pv 6) (pa_cons (pv 7) pa_nil)))) pa_nil))))
            (pss_one (ps_if (pt_cmpR op_eq (pv 5) pe_int (nomark _))
              (pss_one (ps_expr (pe_bm PySem.F.plainAttrs_list PySem.F.slot_list_append PySem.F.type_list_append mt_append (pv 3) (pa_cons (pe_tup (pa_cons pe_str (pa_cons (pv 6) (pa_cons (pv 7) (pa_cons (pv 8) pa_nil))))) pa_nil))))
              (pss_one (ps_if (pt_cmpR op_notIn_seq pe_str (pe_lc (own := [("rule", 10)]) (g := gName 10) (tt := tYes) (te := tOp (rIxT K) (tVar 10) (tC (.int 0))) rfl scLR.nd (pi_seq (pv 3)) (blkOk_by (N := nLR) (sc := defScope sLRules) (by decide +kernel))
                    (fun _ _ _ _ _ => pg_name (i := 10) scLR.nd rfl (Or.inl rfl)) (fun _ _ _ _ _ => pts_nil) (fun _ _ _ _ _ => pe_ix ix_tup (pv 10) pe_int (fun _ _ => rfl))) rfl)
                (pss_one (ps_expr (pe_bm PySem.F.plainAttrs_list PySem.F.slot_list_append PySem.F.type_list_append mt_append (pv 3) (pa_cons (pe_tup (pa_cons pe_str (pa_cons (pe_callTy call_tuple_of (by rfl) T.g.f.tuple (by decide +kernel) (pa_cons (pe_callB (cr_sortS rfl hr.units) (by rfl) T.g.f.sorted (by decide +kernel) (pa_cons (pe_callTy (cr_setS rfl hr.units) (by rfl) T.g.f.set (by decide +kernel) (pa_cons (pe_lst (pa_cons (pv 6) (pa_cons (pv 7) pa_nil))) pa_nil)) pa_nil)) pa_nil)) pa_nil))) pa_nil)))) pss_nil))))))))))
      (pss_one (ps_ret (pv 3)))), ?_⟩
    obtain ⟨hdd, hdo⟩ : ∃ o, H d = some o := let ⟨_, _, _, h, _⟩ := D; ⟨_, h⟩
    refine ⟨by show 4 ≤ sizeLine; decide, fun w0 hw0 => ⟨by show 0 ≤ sizeLine; exact Nat.zero_le _, fun p hp => ⟨_, _, rfl, ?_⟩⟩⟩
    have s0 : Same H (upd H w0 (.lst (lws.map V.str))) := Same.fresh (Same.refl _) hw0
    have s1 : Same H (upd (upd H w0 (.lst (lws.map V.str))) p (.lst [])) := Same.fresh s0 hp
    have wd : w0 ≠ d := ne_of_none' hw0 hdo
    have pw : p ≠ w0 := fun z => by rw [z, upd_same] at hp; cases hp
    have hpH : H p = none := Same.no s0 hp
    have pd : p ≠ d := ne_of_none' hpH hdo
    have L0 : LI K H d p w0 (upd (upd H w0 (.lst (lws.map V.str))) p (.lst [])) 0 [] := ⟨But.of s1, Go.rfl'.same fun o e => s1 _ _ e, ⟨[], upd_same, .nil⟩, by rw [upd_ne pw.symm, upd_same], ⟨fun r h => (List.not_mem_nil h).elim, Nat.le_refl _, Nat.zero_le _⟩⟩
    have Ds1 := D.same s1
    refine ⟨_, rfl, _, rfl, _, _, rfl, rfl, d, _, rfl, Ds1, by omega, fun k0 H2 h0 h9 b2 D2 g2 => ⟨k0, rfl, by omega, by omega, ?_⟩⟩
    have L2 := L0.go b2 g2 pd wd
    refine for_range (lo := 0) (n := k0.toNat) (fun i σ H' => ∃ (v4 v5 v6 v7 v8 v9 v10 : Option V) (rs : List Rl), σ = [some (.ref d), some (.int m), some (.ref w0), some (.ref p), v4, v5, v6, v7, v8, v9, v10] ∧ LI K H d p w0 H' i rs)
      ⟨none, none, none, none, none, none, none, [], rfl, L2⟩ ?_ ?_
    · rintro i σ H3 hi ⟨v4, v5, v6, v7, v8, v9, v10, rs, rfl, L3⟩
      have D3 := D.go L3.b L3.g
      have hwX : ∀ {Hx : Hp}, LI K H d p w0 Hx i rs → SqL K Hx w0 (lws.map V.str) := fun L => SqL.of L.wd
      have nes : lws.map V.str ≠ [] := by unfold lws; simp
      refine ⟨_, rfl, d, 10, rfl, D3, by decide, fun kk H4 k0n k0m b4 D4 g4 => ?_⟩
      have L4 := L3.go b4 g4 pd wd
      refine ⟨_, rfl, _, rfl, d, w0, _, rfl, D4, wd, .inl (hwX L4), nes, fun x1v H5 m1 b5 D5 g5 => ?_⟩
      have L5 := L4.go b5 g5 pd wd
      refine ⟨_, rfl, _, rfl, d, w0, _, rfl, D5, wd, .inl (hwX L5), nes, fun x2v H6 m2 b6 D6 g6 => ?_⟩
      have L6 := L5.go b6 g6 pd wd
      refine ⟨_, rfl, _, rfl, d, w0, _, rfl, D6, wd, .inl (hwX L6), nes, fun x3v H7 m3 b7 D7 g7 => ?_⟩
      have L7 := L6.go b7 g7 pd wd
      obtain ⟨x1, hx1, rfl⟩ := List.mem_map.mp m1
      obtain ⟨x2, hx2, rfl⟩ := List.mem_map.mp m2
      obtain ⟨x3, hx3, rfl⟩ := List.mem_map.mp m3
      clear m1 m2 m3
      refine ⟨by show 4 ≤ sizeLine; decide, fun t ht => ⟨t, _, rfl, .inl (.inl upd_same), rfl, _, _, rfl, _, _, rfl, _, _, rfl, _, _, rfl, rfl, ?_⟩⟩
      have sT : Same H7 (upd H7 t (.tup [.int kk, .str x1, .str x2, .str x3])) := Same.fresh (Same.refl _) ht
      have L8 := L7.fresh sT D
      have D8 := D7.same sT
      generalize upd H7 t (.tup [.int kk, .str x1, .str x2, .str x3]) = H8 at L8 D8
      clear sT ht L7 D7 L6 D6 L5 D5 L4 D4 b4 b5 b6 b7 g4 g5 g6 g7 L3 D3
      refine ⟨_, rfl, _, _, rfl, rfl, _, rfl, ?_⟩
      by_cases c6 : kk < 6
      · rw [decide_eq_true c6]
        refine iteT ?_
        refine ⟨_, rfl, d, 2, rfl, D8, by decide, fun k2 H9 _ _ b9 D9 g9 => ⟨rfl, _, rfl, ?_⟩⟩
        have L9 := L8.go b9 g9 pd wd
        refine pick_pairs (x2 := x2) (x3 := x3) rfl rfl fun y t9 pr HA hy sA ht9 hpr9 npr => ?_
        have hyl : y ∈ lws := by rcases hy with rfl | rfl <;> assumption
        have LA := L9.fresh sA D
        have DA := D9.same sA
        refine ⟨_, rfl, d, 3, rfl, DA, by decide, fun k3 HB _ _ bB DB gB => ⟨rfl, _, rfl, ?_⟩⟩
        have LB := LA.go bB gB pd wd
        have prd : pr ≠ d := ne_of_none' npr D9.choose_spec.choose_spec.choose_spec.1
        have prp : pr ≠ p := by
          obtain ⟨_, e, _⟩ := L9.ex
          exact ne_of_none' npr e
        have hpr := bB _ _ prd hpr9
        have td : t9 ≠ d := fun z => by
          obtain ⟨_, _, _, e, _⟩ := DA
          rw [z, e] at ht9
          cases ht9
        have ht := bB _ _ td ht9
        have dp1 : ∀ {Hx : Hp}, Hx t9 = some (.tup [.str x2, .str y]) → DaAll K Hx [.ref t9] ([(x2, y)].map dtP) := fun e => .cons (.tup e (.cons (.str _ (lws_ok hx2).2) (.cons (.str _ (lws_ok hyl).2) .nil))) .nil
        by_cases c3 : V.int k3 = V.int 0
        · rw [decide_eq_true c3]
          refine iteT ?_
          refine ⟨_, rfl, _, rfl, by show 2 ≤ sizeLine; decide, fun tq htq => ?_⟩
          have sq := Same.fresh (o := .tup [.str x1, .str x1]) (Same.refl HB) htq
          have hqq : upd HB tq (.tup [.str x1, .str x1]) tq = some (.tup [.str x1, .str x1]) := upd_same
          generalize upd HB tq (.tup [.str x1, .str x1]) = HC at sq hqq
          have LC := LB.fresh sq D
          have DC := DB.same sq
          refine ⟨_, rfl, pr, _, [encD (dtP (x2, y))], encD (dtP (x1, x1)), rfl, SqL.of (sq _ _ hpr), .cons (.tup (.inl (.inl (sq _ _ ht))) (.cons (.str _) (.cons (.str _) .nil))) .nil, .tup (.inl (.inl hqq)) (.cons (.str _) (.cons (.str _) .nil)), rfl, rfl, by show 1 ≤ 60; decide, _, rfl, ?_⟩
          rw [if_pos rfl, List.any_cons, List.any_nil, Bool.or_false, eqv_P]
          cases cp : decide ((x2, y) = (x1, x1)) with
          | true =>
            refine iteF ?_
            obtain ⟨xs, hpx, _⟩ := LC.ex
            refine ⟨_, rfl, .inl ⟨rfl, _, SqL.of hpx⟩, ?_⟩
            refine ⟨_, rfl, _, _, rfl, rfl, _, rfl, ?_⟩
            refine pick_knd ?_
            refine ⟨_, rfl, _, rfl, ?_⟩
            dsimp only [tNil]
            refine sortP_read (.inl (SqL.of (sq _ _ hpr))) (dp1 (sq _ _ ht)) fun q ys hq dys => ?_
            refine ⟨q, ys, rfl, .inl ⟨.inl (.inl upd_same), fun t1 ht1 => ⟨by show 3 ≤ sizeLine; decide, fun t2 ht2 => ?_⟩⟩⟩
            have z1 : Same HC (upd HC q (.lst ys)) := Same.fresh (Same.refl _) hq
            have z2 := Same.fresh (o := .tup ys) (Same.refl (upd HC q (.lst ys))) ht1
            have z3 := Same.fresh (o := .tup [.str (knd (decide (kk < 3))), .str x1, .ref t1]) (Same.refl (upd (upd HC q (.lst ys)) t1 (.tup ys))) ht2
            have z123 := z1.trans (z2.trans z3)
            have daN : Da K _ (.ref t2) (dtL (.ft (decide (kk < 3)) x1 (srtP [(x2, y)]))) := .tup upd_same (.cons (.str _ (knd_len _)) (.cons (.str _ (lws_ok hx1).2) (.cons (.tup (z3 _ _ upd_same) (dys.same (z2.trans z3))) .nil)))
            have LZ := LC.fresh z123 D
            refine ⟨p, xs, .ref t2, rfl, rfl, z123 _ _ hpx, LC.small hpx (by omega), ?_⟩
            exact ⟨_, _, _, _, _, _, _, _, rfl, LZ.push hpH pd pw (z123 _ _ hpx) (less2 daN (DC.same z123) (z123 _ _ hpx) pd) (wok_ft hx1 (fun p hp => by rw [List.mem_singleton] at hp; subst hp; exact ⟨hx2, hyl⟩) (by simp) (by simp) (by simp)) (fun e => by cases e)⟩
          | false =>
            refine iteT ?_
            have hprC := sq _ _ hpr
            refine ⟨_, rfl, .inl ⟨rfl, _, SqL.of hprC⟩, ?_⟩
            refine ⟨_, rfl, _, rfl, by show 2 ≤ sizeLine; decide, fun ta hta => ?_⟩
            have sa := Same.fresh (o := .tup [.str x1, .str x1]) (Same.refl HC) hta
            have hta2 : upd HC ta (.tup [.str x1, .str x1]) ta = some (.tup [.str x1, .str x1]) := upd_same
            have nta : ta ≠ pr := fun z => by rw [z, hprC] at hta; cases hta
            generalize upd HC ta (.tup [.str x1, .str x1]) = HD at sa hta2
            refine ⟨pr, [.ref t9], .ref ta, rfl, rfl, sa _ _ hprC, by show 1 < sizeLine; decide, ?_⟩
            have t9pr : t9 ≠ pr := fun z => by rw [z, hpr] at ht; cases ht
            have b9D : But d H9 HD := (((But.of sA).trans bB).trans (But.of sq)).trans (But.of sa)
            have g9D : Go H9 HD d := (((Go.rfl'.same fun o e => sA _ _ e).trans gB).same fun o e => sq _ _ e).same fun o e => sa _ _ e
            have LE := L9.go (H4 := upd HD pr (.lst ([.ref t9] ++ [.ref ta]))) (But.put b9D npr) (g9D.same fun o e => by rw [upd_ne prd.symm]; exact e) pd wd
            have hprE : upd HD pr (.lst ([.ref t9] ++ [.ref ta])) pr = some (.lst [.ref t9, .ref ta]) := upd_same
            have h9E : upd HD pr (.lst ([.ref t9] ++ [.ref ta])) t9 = some (.tup [.str x2, .str y]) := by rw [upd_ne t9pr]; exact sa _ _ (sq _ _ ht)
            have haE : upd HD pr (.lst ([.ref t9] ++ [.ref ta])) ta = some (.tup [.str x1, .str x1]) := by rw [upd_ne nta]; exact hta2
            generalize upd HD pr (.lst ([.ref t9] ++ [.ref ta])) = HE at LE hprE h9E haE
            have DE := D.go LE.b LE.g
            have dp2 : DaAll K HE [.ref t9, .ref ta] ([(x2, y), (x1, x1)].map dtP) := .cons (.tup h9E (.cons (.str _ (lws_ok hx2).2) (.cons (.str _ (lws_ok hyl).2) .nil))) (.cons (.tup haE (.cons (.str _ (lws_ok hx1).2) (.cons (.str _ (lws_ok hx1).2) .nil))) .nil)
            obtain ⟨xs, hpx, _⟩ := LE.ex
            refine ⟨_, rfl, .inl ⟨rfl, _, SqL.of hpx⟩, ?_⟩
            refine ⟨_, rfl, _, _, rfl, rfl, _, rfl, ?_⟩
            refine pick_knd ?_
            refine ⟨_, rfl, _, rfl, ?_⟩
            dsimp only [tNil]
            refine sortP_read (.inl (SqL.of hprE)) dp2 fun q ys hq dys => ?_
            refine ⟨q, ys, rfl, .inl ⟨.inl (.inl upd_same), fun t1 ht1 => ⟨by show 3 ≤ sizeLine; decide, fun t2 ht2 => ?_⟩⟩⟩
            have z1 : Same HE (upd HE q (.lst ys)) := Same.fresh (Same.refl _) hq
            have z2 := Same.fresh (o := .tup ys) (Same.refl (upd HE q (.lst ys))) ht1
            have z3 := Same.fresh (o := .tup [.str (knd (decide (kk < 3))), .str x1, .ref t1]) (Same.refl (upd (upd HE q (.lst ys)) t1 (.tup ys))) ht2
            have z123 := z1.trans (z2.trans z3)
            have daN : Da K _ (.ref t2) (dtL (.ft (decide (kk < 3)) x1 (srtP [(x2, y), (x1, x1)]))) := .tup upd_same (.cons (.str _ (knd_len _)) (.cons (.str _ (lws_ok hx1).2) (.cons (.tup (z3 _ _ upd_same) (dys.same (z2.trans z3))) .nil)))
            have LZ := LE.fresh z123 D
            refine ⟨p, xs, .ref t2, rfl, rfl, z123 _ _ hpx, LE.small hpx (by omega), ?_⟩
            exact ⟨_, _, _, _, _, _, _, _, rfl, LZ.push hpH pd pw (z123 _ _ hpx) (less2 daN (DE.same z123) (z123 _ _ hpx) pd) (wok_ft hx1 (fun p hp => by rcases List.mem_cons.mp hp with rfl | hp; exact ⟨hx2, hyl⟩; rw [List.mem_singleton] at hp; subst hp; exact ⟨hx1, hx1⟩) (List.nodup_cons.mpr ⟨fun z => (by rw [List.mem_singleton] at z; rw [decide_eq_true z] at cp; cases cp), by simp⟩) (by simp) (by simp)) (fun e => by cases e)⟩
        · rw [decide_eq_false c3]
          refine iteF (iteF ?_)
          obtain ⟨xs, hpx, _⟩ := LB.ex
          refine ⟨_, rfl, .inl ⟨rfl, _, SqL.of hpx⟩, ?_⟩
          refine ⟨_, rfl, _, _, rfl, rfl, _, rfl, ?_⟩
          refine pick_knd ?_
          refine ⟨_, rfl, _, rfl, ?_⟩
          dsimp only [tNil]
          refine sortP_read (.inl (SqL.of hpr)) (dp1 ht) fun q ys hq dys => ?_
          refine ⟨q, ys, rfl, .inl ⟨.inl (.inl upd_same), fun t1 ht1 => ⟨by show 3 ≤ sizeLine; decide, fun t2 ht2 => ?_⟩⟩⟩
          have z1 : Same HB (upd HB q (.lst ys)) := Same.fresh (Same.refl _) hq
          have z2 := Same.fresh (o := .tup ys) (Same.refl (upd HB q (.lst ys))) ht1
          have z3 := Same.fresh (o := .tup [.str (knd (decide (kk < 3))), .str x1, .ref t1]) (Same.refl (upd (upd HB q (.lst ys)) t1 (.tup ys))) ht2
          have z123 := z1.trans (z2.trans z3)
          have daN : Da K _ (.ref t2) (dtL (.ft (decide (kk < 3)) x1 (srtP [(x2, y)]))) := .tup upd_same (.cons (.str _ (knd_len _)) (.cons (.str _ (lws_ok hx1).2) (.cons (.tup (z3 _ _ upd_same) (dys.same (z2.trans z3))) .nil)))
          have LZ := LB.fresh z123 D
          refine ⟨p, xs, .ref t2, rfl, rfl, z123 _ _ hpx, LB.small hpx (by omega), ?_⟩
          exact ⟨_, _, _, _, _, _, _, _, rfl, LZ.push hpH pd pw (z123 _ _ hpx) (less2 daN (DB.same z123) (z123 _ _ hpx) pd) (wok_ft hx1 (fun p hp => by rw [List.mem_singleton] at hp; subst hp; exact ⟨hx2, hyl⟩) (by simp) (by simp) (by simp)) (fun e => by cases e)⟩
      · rw [decide_eq_false c6]
        refine iteF ?_
        refine ⟨_, rfl, rfl, _, rfl, ?_⟩
        by_cases e6 : V.int kk = V.int 6
        · rw [decide_eq_true e6]
          refine iteT ?_
          obtain ⟨xs, hpx, _⟩ := L8.ex
          refine ⟨_, rfl, .inl ⟨rfl, _, SqL.of hpx⟩, ?_⟩
          refine ⟨_, rfl, _, rfl,  by show 3 ≤ sizeLine; decide, fun t2 ht2 => ?_⟩
          have z1 := Same.fresh (o := .tup [.str "raise", .str x1, .str x2]) (Same.refl H8) ht2
          have daN : Da K (upd H8 t2 (.tup [.str "raise", .str x1, .str x2])) (.ref t2) (dtL (.rs x1 x2)) := .tup upd_same (.cons (.str _ (by decide)) (.cons (.str _ (lws_ok hx1).2) (.cons (.str _ (lws_ok hx2).2) (.nil))))
          have LZ := L8.fresh z1 D
          refine ⟨p, xs, .ref t2, rfl, rfl, z1 _ _ hpx, L8.small hpx (by omega), ?_⟩
          exact ⟨_, _, _, _, _, _, _, _, rfl, LZ.push hpH pd pw (z1 _ _ hpx) (less2 daN (D8.same z1) (z1 _ _ hpx) pd) ⟨(lws_ok hx1).1, (lws_ok hx2).1⟩ (fun e => by cases e)⟩

        · rw [decide_eq_false e6]
          refine iteF ?_
          refine ⟨_, rfl, rfl, _, rfl, ?_⟩
          by_cases e7 : V.int kk = V.int 7
          · rw [decide_eq_true e7]
            refine iteT ?_
            obtain ⟨xs, hpx, _⟩ := L8.ex
            refine ⟨_, rfl, .inl ⟨rfl, _, SqL.of hpx⟩, ?_⟩
            refine ⟨_, rfl, _, rfl, _, rfl,  by show 4 ≤ sizeLine; decide, fun t2 ht2 => ?_⟩
            have z1 := Same.fresh (o := .tup [.str "meet", .str x1, .str x2, .str x3]) (Same.refl H8) ht2
            have daN : Da K (upd H8 t2 (.tup [.str "meet", .str x1, .str x2, .str x3])) (.ref t2) (dtL (.mt x1 x2 x3)) := .tup upd_same (.cons (.str _ (by decide)) (.cons (.str _ (lws_ok hx1).2) (.cons (.str _ (lws_ok hx2).2) (.cons (.str _ (lws_ok hx3).2) (.nil)))))
            have LZ := L8.fresh z1 D
            refine ⟨p, xs, .ref t2, rfl, rfl, z1 _ _ hpx, L8.small hpx (by omega), ?_⟩
            exact ⟨_, _, _, _, _, _, _, _, rfl, LZ.push hpH pd pw (z1 _ _ hpx) (less2 daN (D8.same z1) (z1 _ _ hpx) pd) ⟨(lws_ok hx1).1, (lws_ok hx2).1, (lws_ok hx3).1⟩ (fun e => by cases e)⟩

          · rw [decide_eq_false e7]
            refine iteF ?_
            obtain ⟨xs, hpx, dax⟩ := L8.ex
            have lxs : xs.length = rs.length := by rw [dax.len, List.length_map]
            refine ⟨_, rfl, true, p, xs, rfl, SqX.list (SqL.of hpx), fun J wk C hC => lcX wk hC (fun i acc H => acc = ((rs.take i).map headS).map V.str) (L8.small hpx (by omega)) (fun _ _ _ _ r _ => r) rfl (fun H9 s9 => SqX.list (SqL.of (s9 _ _ hpx))) ?_ ?_⟩
            · intro j x H9 acc hj ex s9 e9 r9 Nx yes no
              obtain ⟨r, ra, ys, er, rfl, hra, _, _⟩ := rules_at dax ex
              refine ⟨rfl, tYes_ok ⟨_, rfl, ra, _, _, _, rfl, rfl, .inl (.inl (s9 _ _ (less_same _ _ (less_same _ _ hra)))), atI_nat (j := 0) rfl, yes _ _ (Same.refl _) ?_⟩⟩
              rw [r9, take_up er]
              simp
            · intro H9 acc s9 e9 r9
              rw [lxs, List.take_length] at r9
              rw [r9] at e9
              have L9 := L8.fresh s9 D
              refine ⟨C, _, rfl, .inl (SqL.of e9), rfl, flat_strs _, _, rfl, ?_⟩
              rw [if_pos rfl, inV_strs]
              cases hm9 : decide (("make" : Str) ∈ rs.map headS) with
              | true => exact iteF ⟨_, _, _, _, _, _, _, _, rfl, L9.keep⟩
              | false =>
                refine iteT ?_
                have hpx9 := s9 _ _ hpx
                refine ⟨_, rfl, .inl ⟨rfl, _, SqL.of hpx9⟩, ?_⟩
                refine ⟨_, rfl, _, rfl, by show 2 ≤ sizeLine; decide, fun l1 hl1 => ?_⟩
                have z1 := Same.fresh (o := .lst [.str x1, .str x2]) (Same.refl H9) hl1
                refine ⟨l1, [x1, x2], rfl, .inl (SqL.of upd_same), by show 2 < 4000; decide, fun S l hS nd hml => ?_⟩
                have z2 := Same.fresh (o := SetSO P w S l) z1 hS
                have ll : l.length ≤ 2 := nd.length_le_of_subset (l₂ := [x1, x2]) fun y hy => (hml y).mp hy
                have l1' : 1 ≤ l.length := by
                  have : x1 ∈ l := (hml x1).mpr (by simp)
                  exact List.length_pos_of_mem this
                refine ⟨S, l, rfl, upd_same, by omega, fun q hq => ?_⟩
                have z3 := Same.fresh (o := .lst ((l.mergeSort leT).map V.str)) z2 hq
                refine ⟨q, _, rfl, .inl ⟨.inl (.inl upd_same), fun t1 ht1 => ⟨by show 2 ≤ sizeLine; decide, fun t2 ht2 => ?_⟩⟩⟩
                have z4 := Same.fresh (o := .tup ((l.mergeSort leT).map V.str)) z3 ht1
                have z5 := Same.fresh (o := .tup [.str "make", .ref t1]) (Same.refl (upd (upd (upd (upd H9 l1 (.lst [.str x1, .str x2])) S (SetSO P w S l)) q (.lst ((l.mergeSort leT).map V.str))) t1 (.tup ((l.mergeSort leT).map V.str)))) ht2
                have inl : ∀ x ∈ l.mergeSort leT, x ∈ lws := fun x hx => by
                  have := (hml x).mp ((sortT_perm l).mem_iff.mp hx)
                  simp only [List.mem_cons, List.not_mem_nil, or_false] at this
                  rcases this with rfl | rfl <;> assumption
                have daN : Da K _ (.ref t2) (dtL (.mk (l.mergeSort leT))) := .tup upd_same (.cons (.str _ (by decide)) (.cons (.tup (z5 _ _ upd_same) (DaAll.ofStrs fun x hx => (lws_ok (inl x hx)).2)) .nil))
                have LZ := L9.fresh (z4.trans z5) D
                refine ⟨p, xs, .ref t2, rfl, rfl, (z4.trans z5) _ _ hpx9, L9.small hpx9 (by omega), ?_⟩
                refine ⟨_, _, _, _, _, _, _, _, rfl, LZ.push hpH pd pw ((z4.trans z5) _ _ hpx9) (less2 daN ((D8.same s9).same (z4.trans z5)) ((z4.trans z5) _ _ hpx9) pd) ⟨fun x hx => (lws_ok (inl x hx)).1, (sortT_perm l).nodup_iff.mpr nd, by rw [(sortT_perm l).length_eq]; exact l1', by rw [(sortT_perm l).length_eq]; omega, sortT_self l⟩ (fun _ => ?_)⟩
                refine List.length_eq_zero_iff.mpr (List.filter_eq_nil_iff.mpr fun r hr e => ?_)
                rw [← head_make, decide_eq_true_eq] at e
                have : ("make" : Str) ∈ rs.map headS := List.mem_map.mpr ⟨r, hr, e⟩
                rw [decide_eq_true this] at hm9
                cases hm9
    · rintro σ H3 ⟨v4, v5, v6, v7, v8, v9, v10, rs, rfl, L3⟩
      have D3 := D.go L3.b L3.g
      obtain ⟨xs, e1, e2⟩ := L3.ex
      refine ⟨_, rfl, q0 _ p xs rs L3.b D3 hpH pd e1 e2 ⟨L3.ok.all, ?_, L3.ok.one⟩⟩
      have := L3.ok.few
      omega
end
end K
set_option Elab.async false
set_option linter.all false
set_option maxRecDepth 100000
set_option maxHeartbeats 4000000
/-! sum(lists, []). -/
namespace Hk
open PySem PySem.Spec PyProof.Rows L2
def lsOb (vs : List Value) (n : Nat) : Obj := { cls := .type "list", data := .seq vs.toArray n }
section
variable {prog : Program} {w : World} {A : Around} {R : Result → Shared → Prop} {I S l : Addr} {items : Array Value}
theorem sumL_loop (hh : A.handled = none) (hl : l ≠ I) (nS : S ≠ I) (lS : S ≠ l) {h0 : Heap} (h0I : h0.get? I = none) (h0S : h0.get? S = none) (vss : List (List Value)) (hlen : vss.length = items.size)
    (inner : ∀ (i : Nat) (v : Value), items[i]? = some v → ∃ (b : Addr) (us : List Value) (n : Nat), v = Value.ref b ∧ vss[i]? = some us ∧ h0.get? b = some (lsOb us n)) (big : vss.flatten.length ≤ sizeLine) :
    ∀ (k i : Nat) (s : Shared) (c : Addr) (n m : Nat), vss.length - i = k → i ≤ vss.length → (s.heap.IsListIter I l i ∧ s.heap.IsList l items) → (∀ b o, h0.get? b = some o → s.heap.get? b = some o) →
      s.heap.get? S = some (lsOb [.ref c] m) → s.heap.get? c = some (lsOb (vss.take i).flatten n) → c ≠ S → c ≠ I → True →
      (∀ (s' : Shared) (c' : Addr) (n' : Nat), (∀ b o, h0.get? b = some o → s'.heap.get? b = some o) → s'.gens = s.gens → s'.os = s.os → s'.heap.get? c' = some (lsOb vss.flatten n') → (i = vss.length → c' = c) → (i < vss.length → I < c') → R (.ok (.ret (.ref c'))) s') →
      codeAny (model prog w) A (.builtin "sum.loop" ⟨[.ref I, .ref S, rawInt 2, rawInt 0], []⟩) R s := by
  have W := (Walks.list (prog := prog) (w := w) (A := A.in1) hh I l hl items).toS
  intro k
  induction k with
  | zero =>
    intro i s c n m ek hi st kp eS ec nc1 nc2 _ fin
    have ei : i = items.size := by omega
    subst ei
    refine codeAny_builtin F.entry_sum_loop ?_
    rw [Around.under_plainId F.plain_sum_loop _]
    show wpAny _ A.in1 (seqItems? (.ref S) >>= fun _ => _) _ _ s
    refine wpAny_bind (wpAny_seqItems eS rfl ?_)
    show wpAny _ A.in1 (tryCatch (pyNext (.ref I)) _ >>= fun _ => _) _ _ s
    refine wpAny_bind (wpAny_tryCatch (W.done s _ _ st fun s' hm => wpAny_pure (fin s' c n (fun b o e => hm.heap b o (fun q => ?_) (kp b o e)) hm.gens hm.os ?_ (fun _ => rfl) (fun z => by omega))))
    · rw [List.mem_singleton.mp q, h0I] at e
      cases e
    · have z := hm.heap c _ (by simp [nc2]) ec
      rw [← hlen, List.take_length] at z
      exact z
  | succ k ih =>
    intro i s c n m ek hi st kp eS ec nc1 nc2 _ fin
    have lt : i < items.size := by omega
    refine codeAny_builtin F.entry_sum_loop ?_
    rw [Around.under_plainId F.plain_sum_loop _]
    show wpAny _ A.in1 (seqItems? (.ref S) >>= fun _ => _) _ _ s
    refine wpAny_bind (wpAny_seqItems eS rfl ?_)
    show wpAny _ A.in1 (tryCatch (pyNext (.ref I)) _ >>= fun _ => _) _ _ s
    refine wpAny_bind (wpAny_tryCatch (W.item i s _ _ lt st fun v s1 pv st1 hm => ?_))
    obtain ⟨b, us, nb, rfl, evs, eb⟩ := inner i v pv
    have kp1 : ∀ b o, h0.get? b = some o → s1.heap.get? b = some o := fun b o e => hm.heap b o (fun q => by rw [List.mem_singleton.mp q, h0I] at e; cases e) (kp b o e)
    have eS1 := hm.heap S _ (by simp [nS]) eS
    have ec1 := hm.heap c _ (by simp [nc2]) ec
    have eb1 := kp1 _ _ eb
    have up := take_up evs
    have sz : (vss.take i).flatten.length + us.length ≤ sizeLine := by
      have z : ((vss.take (i + 1)).flatten).length ≤ vss.flatten.length := by
        have q := congrArg (fun l => (List.flatten l).length) (List.take_append_drop (i + 1) vss)
        simp only [List.flatten_append, List.length_append] at q
        omega
      rw [up, List.flatten_append, List.length_append, List.flatten_singleton] at z
      omega
    show wpAny _ A.in1 ((holding [Value.ref b] (binaryOp .Add (.ref c) (.ref b))).attempt >>= fun _ => _) _ _ _
    refine wpAny_bind (wpAny_attempt (wpAny_holding (PySem.P.add_list ec1 eb1 ?_ (by rw [List.size_toArray, List.size_toArray]; exact sz))))
    have ea : (vss.take i).flatten.toArray ++ us.toArray = (vss.take (i + 1)).flatten.toArray := by
      rw [up, List.flatten_append, List.flatten_singleton]
      simp
    rw [ea]
    have ltS : S < s1.heap.objs.size := Heap.lt_size eS1
    have ltI : I < s1.heap.objs.size := let ⟨_, q, _⟩ := st1.1; Heap.lt_size q
    generalize hh2 : s1.heap.push { cls := .type "list", data := .seq (vss.take (i + 1)).flatten.toArray } = h2
    have k12 : ∀ b o, s1.heap.get? b = some o → h2.get? b = some o := fun b o e => by rw [← hh2]; exact Heap.get?_push_of_some _ e
    have ec2 : h2.get? s1.heap.objs.size = some (lsOb (vss.take (i + 1)).flatten 0) := by rw [← hh2]; exact Heap.get?_push_size _ rfl
    generalize s1.heap.objs.size = c2 at ltS ltI ec2
    have eS2 := k12 _ _ eS1
    show wpAny _ A.in1 (updateSeq S (fun _ => #[Value.ref c2]) >>= fun _ => _) _ _ _
    refine wpAny_bind (wpAny_updateSeq (s := { s1 with heap := h2 }) eS2 rfl ?_)
    have eS3 := Heap.get?_update_self (Obj.mapSeq fun _ => #[Value.ref c2]) eS2 rfl
    refine wpAny_bind (wpAny_letGo ?_)
    have nSc2 : c2 ≠ S := Nat.ne_of_gt ltS
    have k3 : ∀ b o, b ≠ S → h2.get? b = some o → ((h2.update S (Obj.mapSeq fun _ => #[Value.ref c2])).update S (Obj.mapSeq fun _ => #[Value.ref c2])).get? b = some o := fun b o hb e =>
      (Heap.get?_update_other _ _ (Ne.symm hb)).trans ((Heap.get?_update_other _ _ (Ne.symm hb)).trans e)
    refine wpAny_bind (wpAny_updateSeq eS3 rfl (wpAny_pure ⟨plainId_quiet F.plain_sum_loop _, ih (i + 1) _ c2 0 _ (by omega) (by omega) (W.frame _ s1 _ _ st1 (Nat.le_refl _) fun b hb o e => k3 b o (fun q => ?_) (k12 _ _ e)) (fun b o e => k3 b o (fun q => by rw [q, h0S] at e; cases e) (k12 _ _ (kp1 b o e)))
      (Heap.get?_update_self (Obj.mapSeq fun _ => #[Value.ref c2]) eS3 rfl) (k3 _ _ nSc2 ec2) nSc2 (Nat.ne_of_gt ltI) trivial fun s' c' n' kp' g' o' ec' z1 z2 => fin s' c' n' kp' (g'.trans hm.gens) (o'.trans hm.os) ec' (fun z => by omega) fun _ => ?_⟩))
    · rcases (show b = I ∨ b = l by simpa using hb) with z | z
      · exact nS (q.symm.trans z)
      · exact lS (q.symm.trans z)
    · by_cases z : i + 1 < vss.length
      · exact z2 z
      · rw [z1 (by omega)]
        exact ltI
end
theorem inv_laidA {X : Cx} {pins : List (Addr × Obj)} {σ : L2.St} {H : Hp} {s z : Shared} {o : HO} {a : Addr} (I : L2.Inv X pins σ H s) (k : ∀ b o, s.heap.get? b = some o → z.heap.get? b = some o) (g : z.gens = s.gens) (os : z.os = s.os) (ha : s.heap.objs.size ≤ a)
    (new : ObjOk X.prog X.w (upd H a o) z.heap a o) : L2.Inv X pins σ (upd H a o) z := by
  have J : L2.Inv X pins σ (upd H a o) { s with heap := z.heap, gens := z.gens, drawn := z.drawn, toks := z.toks } := I.call (ch := []) (Un.laid k ha (I.hok.fresh ha)) (I.hok.laid k ha new) (by rw [g]; exact I.bare) (fun _ y => nomatch y)
  have e : z = { s with heap := z.heap, gens := z.gens, drawn := z.drawn, toks := z.toks } := by
    cases z; cases s; cases os; rfl
  rw [e]
  exact J
section
variable {X : Cx}
theorem args_sum2 (a b : Value) : argsOk "sum" ⟨[a, b], []⟩ := by unfold argsOk; kernel_rfl
/-- sum(lists, []): a new list of all, or the start where there is nothing to add -/
def rSumL (K : PySem.W.Frag) : List V → Hp → VK → Prop := fun xs H Q => ∃ (a b : Addr) (bs : List Addr) (yss : List (List V)), xs = [.ref a, .ref b] ∧ H a = some (.lst (bs.map V.ref)) ∧ H b = some (.lst []) ∧ Paired (fun c ys => H c = some (.lst ys)) bs yss ∧ yss.flatten.length ≤ sizeLine ∧
  (yss = [] → Q (.ref b) H) ∧ ∀ p, H p = none → Q (.ref p) (upd H p (.lst yss.flatten))
theorem call_sumL (hc : X.calm = true) : CallR X (.builtin "sum") (rSumL X.K) := by
  intro pins s σ H xs us Q I r h
  obtain ⟨a, b, bs, yss, rfl, ha, hb, hp, big, q0, q1⟩ := h
  obtain rfl : us = [.ref a, .ref b] := by
    cases r with
    | cons r1 r =>
      cases r with
      | cons r2 r =>
        cases r
        cases r1
        cases r2
        rfl
  have hh := I.ok.hd hc
  obtain ⟨za, its, na, rva, hla, ea⟩ := I.lstM ha
  obtain ⟨zb, itb, nb, rvb, hlb, eb⟩ := I.lstM hb
  cases rvb
  have inr : ∃ vss : List (List Value), Paired (fun ys us => Vals ys us) yss vss ∧ Paired (fun c us => ∃ n, s.heap.get? c = some (lsOb us n)) bs vss := by
    clear q0 q1 big ha rva hla ea za
    induction hp with
    | nil => exact ⟨[], .nil, .nil⟩
    | @cons c ys bs' yss' h1 h2 ih =>
      obtain ⟨vss, w1, w2⟩ := ih
      obtain ⟨z, it, n, rv, hl, e⟩ := I.lstM h1
      exact ⟨it :: vss, .cons rv w1, .cons ⟨n, e⟩ w2⟩
  obtain ⟨vss, p1, p2⟩ := inr
  have refs : its = bs.map Value.ref := refs_at rva
  have rv : Vals yss.flatten vss.flatten := by
    clear q0 q1 big p2 hp
    induction p1 with
    | nil => exact .nil
    | cons h _ ih => exact h.append ih
  have lv : vss.length = its.toArray.size := by rw [List.size_toArray, refs, List.length_map, ← p2.length]
  have big2 : vss.flatten.length ≤ sizeLine := by rw [← rv.length]; exact big
  have inner : ∀ (i : Nat) (v : Value), its.toArray[i]? = some v → ∃ (b : Addr) (us : List Value) (n : Nat), v = Value.ref b ∧ vss[i]? = some us ∧ s.heap.get? b = some (lsOb us n) := by
    intro i v e
    have e2 : (bs.map Value.ref)[i]? = some v := by rw [← refs]; simpa using e
    rw [List.getElem?_map] at e2
    obtain ⟨c, ec, rfl⟩ := Option.map_eq_some_iff.mp e2
    clear q0 q1 hp p1 rv big big2 lv refs e e2 ha za rva hla ea
    induction p2 generalizing i with
    | nil => simp at ec
    | @cons c0 u0 bs' vss' h _ ih =>
      cases i with
      | zero =>
        simp at ec
        subst ec
        obtain ⟨n, e⟩ := h
        exact ⟨_, u0, n, rfl, rfl, e⟩
      | succ i =>
        obtain ⟨b, us, n, e1, e2, e3⟩ := ih i (by simpa using ec)
        exact ⟨b, us, n, e1, by simpa using e2, e3⟩
  refine call_function_tree F.kind_sum F.plain_sum F.entry_sum (args_sum2 _ _) ?_
  unfold Builtin.«sum»
  simp only [List.length_cons, List.length_nil]
  rw [if_neg (by decide)]
  refine wpAny_bind (wpAny_of_eq (show Builtin.Builtins.bindParams "sum" ["start"] 0 ⟨[.ref b], []⟩ = pure [some (.ref b)] from rfl) ?_)
  refine wpAny_bind (wpAny_pyIter_list ⟨_, ea, rfl, na, rfl⟩ (wpAny_bind (wpAny_pure ?_)))
  have k1 : ∀ c o, s.heap.get? c = some o → (s.heap.push { cls := .type "list_iterator", data := .fields #[.ref a, .int 0 0] }).get? c = some o := fun c o e => Heap.get?_push_of_some _ e
  have tb : Shared.TypeIs { s with heap := s.heap.push { cls := .type "list_iterator", data := .fields #[.ref a, .int 0 0] } } (.ref b) "list" := ⟨_, k1 _ _ eb, rfl⟩
  simp only [List.forIn_cons, List.forIn_nil]
  refine wpAny_bind (wpAny_bind (wpAny_bind (wpAny_isInstance (b := false) tb F.sub_list_str ?_))); simp only [Bool.false_eq_true, if_false]
  refine wpAny_pure (wpAny_bind (wpAny_bind (wpAny_isInstance (b := false) tb F.sub_list_bytes ?_))); simp only [Bool.false_eq_true, if_false]
  refine wpAny_pure (wpAny_bind (wpAny_bind (wpAny_isInstance (b := false) tb F.sub_list_bytearray ?_))); simp only [Bool.false_eq_true, if_false]
  refine wpAny_pure (wpAny_pure (wpAny_bind (wpAny_newObj_type ?_)))
  have z1 : (s.heap.push { cls := .type "list_iterator", data := .fields #[.ref a, .int 0 0] }).objs.size = s.heap.objs.size + 1 := Heap.size_push ..
  have la : a < s.heap.objs.size := Heap.lt_size ea
  have lb : b < s.heap.objs.size := Heap.lt_size eb
  have frI : s.heap.get? s.heap.objs.size = none := get_end (Nat.le_refl _)
  have frS : s.heap.get? (s.heap.objs.size + 1) = none := get_end (Nat.le_succ _)
  have goal : ∀ (h2 : Heap), (∀ c o, s.heap.get? c = some o → h2.get? c = some o) → h2.IsListIter s.heap.objs.size a 0 → h2.get? (s.heap.objs.size + 1) = some (lsOb [.ref b] 0) →
      codeAny (model X.prog X.w) X.A (.builtin "sum.loop" ⟨[.ref s.heap.objs.size, .ref (s.heap.objs.size + 1), rawInt 2, rawInt 0], []⟩) (wants (fun v s' => ∃ x H', L2.Inv X pins σ H' s' ∧ L2.RelV x v ∧ Q x H') X.xe) { s with heap := h2 } := by
    intro h2 k2 it2 eS2
    refine sumL_loop (A := X.A) (I := s.heap.objs.size) (S := s.heap.objs.size + 1) (l := a) (items := its.toArray) (h0 := s.heap) hh (Nat.ne_of_lt la) (Nat.succ_ne_self _) (Nat.ne_of_gt (Nat.lt_succ_of_lt la)) frI frS vss lv inner big2 vss.length 0 { s with heap := h2 } b nb 0 (by omega) (Nat.zero_le _)
      ⟨it2, ⟨_, k2 _ _ ea, rfl, na, rfl⟩⟩ k2 eS2 (by rw [List.take_zero]; exact k2 _ _ eb) (Nat.ne_of_lt (Nat.lt_succ_of_lt lb)) (Nat.ne_of_lt lb) trivial fun s' c' n' kp g' o' ec w1 w2 => ?_
    by_cases z : vss.length = 0
    · have ey : yss = [] := List.eq_nil_of_length_eq_zero (by rw [p1.length]; exact z)
      rw [w1 z.symm]
      exact ⟨.ref b, H, inv_kept I kp g' o', rfl, q0 ey⟩
    · have fresh := w2 (by omega)
      have hn : H c' = none := I.hok.fresh (Nat.le_of_lt fresh)
      exact ⟨.ref c', _, inv_laidA I kp g' o' (Nat.le_of_lt fresh) (o := .lst yss.flatten) ⟨big, vss.flatten, n', rv, ec⟩, rfl, q1 c' hn⟩
  have k2 : ∀ c o, s.heap.get? c = some o → ((s.heap.push { cls := .type "list_iterator", data := .fields #[.ref a, .int 0 0] }).push (lsOb [.ref b] 0)).get? c = some o := fun c o e => Heap.get?_push_of_some _ (k1 c o e)
  have g2 := goal _ k2 ⟨_, Heap.get?_push_of_some _ (Heap.get?_push_size _ rfl), rfl, rfl⟩ (by have z := Heap.get?_push_size (s.heap.push { cls := .type "list_iterator", data := .fields #[.ref a, .int 0 0] }) (o := lsOb [.ref b] 0) rfl; rw [z1] at z; exact z)
  dsimp only
  rw [z1]
  exact wpAny_pure ⟨plainId_quiet F.plain_sum_loop _, g2⟩
end
end Hk
set_option Elab.async false
set_option linter.all false
set_option maxRecDepth 100000
set_option maxHeartbeats 4000000
/-! The law's _law_made, _law_words. -/
namespace K
open PySem L2 Hk PyProof.Rows
def spLMade (K : PySem.W.Frag) : Sp := fun vs H Q _ => ∃ (a : Addr) (xs : List V) (rs : List Rl), vs = [.ref a] ∧ SqL K H a xs ∧ DaAll K H xs (rs.map dtL) ∧ rs.length < 1000 ∧
  (made rs = none → ∀ H', Same H H' → Q .non H') ∧ ∀ ws, made rs = some ws → ∀ H' v, Same H H' → Da K H' v (.tup (ws.map Dt.str)) → Q v H'
def rLs (K : PySem.W.Frag) : List V → Hp → VK → Prop := fun xs H Q => ∃ p ys, xs = [.ref p] ∧ (SqL K H p ys ∨ SqT K H p ys) ∧ ∀ l, H l = none → Q (.ref l) (upd H l (.lst ys))
def mkT (r : Rl) : Dt := .tup ((mkWs r).map Dt.str)
theorem nd_T (r : Rl) : ndD (mkT r) = true := by
  show ndA ((mkWs r).map Dt.str) = true
  exact ndA_map (fun _ => rfl) _
theorem nl_T (r : Rl) : nlD (mkT r) = true := by
  show nlA ((mkWs r).map Dt.str) = true
  exact nlA_map (fun _ => rfl) _
section
variable {P : Program} {w : World} {K : PySem.W.Frag} {mg : Str → Option Value} {base : Heap} {f : Addr} {fd : FuncData}
abbrev nLM : List Str := ["rules", "rows", "rule"]
theorem scLM : FnScope nLM ["rules"] (defScope sLMade) := ⟨rfl, rfl, rfl, by decide +kernel, rfl, by decide +kernel, by decide +kernel⟩
theorem ok_lmade (F : Fun K "_law_made" "_law_made" sLMade f fd) (T : TxtG mg) : FnOk P w K mg base CX0 1 f fd ["rules"] (spLMade K) := by
  refine F.ok scLM (fun vs H Q E h => ?_) (fun cdv A outer s H vs Q E hr h => ?_)
  · obtain ⟨a, xs, rs, rfl, _⟩ := h
    rfl
  · obtain ⟨a, xs, rs, rfl, hx, da, few, q0, q1⟩ := h
    refine ⟨_, pss_cons (ps_setLc (i := 1) (own := [("rule", 2)]) (g := gName 2) (tt := tTest (tOp rEq (tOp (rIxT K) (tVar 2) (tC (.int 0))) (tC (.str "make")))) (te := tOp (rIxT K) (tVar 2) (tC (.int 1))) rfl scLM.nd rfl rfl (sw_true rfl rfl rfl (by decide +kernel)) (pi_seq (pv 0)) (blkOk_by (N := nLM) (sc := defScope sLMade) (by decide +kernel))
          (fun _ _ _ _ _ => pg_name (i := 2) scLM.nd rfl (Or.inl rfl)) (fun _ _ _ _ _ => pts_one (pt_cmpR op_eq (pe_ix ix_tup (pv 2) pe_int (fun _ _ => rfl)) pe_str (nomark _))) (fun _ _ _ _ _ => pe_ix ix_tup (pv 2) pe_int (fun _ _ => rfl)))
      (pss_one (ps_ret (pe_ifExp (pt_cmpR (op_neP hr.units) (pv 1) (pe_lst pa_nil) (nomark _)) (pe_ix ix_list (pv 1) pe_int (fun _ _ => rfl)) pe_non))), ?_⟩
    have lx : xs.length = rs.length := by rw [da.len, List.length_map]
    refine ⟨_, rfl, true, a, xs, rfl, hx, fun J wk D hD => lcX wk hD (fun i acc H => DaAll K (less D H) acc (((rs.take i).filter isMk).map mkT)) (by rw [sizeLine_eq]; omega) (fun _ _ _ _ r b => DaAll.same (less_but b) r) .nil (fun H2 s2 => SqX.same (SqX.list hx) s2) ?_ ?_⟩
    · intro i x H2 acc hi ex s2 e r Nx yes no
      obtain ⟨r0, ra, ys, er, rfl, hra, hys, dr⟩ := rules_at (da.same s2) ex
      have up : rs.take (i + 1) = rs.take i ++ [r0] := take_up er
      refine ⟨rfl, _, rfl, ra, _, _, _, rfl, rfl, .inl (.inl hra), atI_nat (j := 0) rfl, rfl, _, rfl, ?_⟩
      rw [show decide (V.str (headS r0) = V.str "make") = isMk r0 by rw [← head_make, Bool.eq_iff_iff, decide_eq_true_eq, decide_eq_true_eq, V.str.injEq]]
      cases em : isMk r0 with
      | false =>
        refine iteF (no _ (Same.refl _) ?_)
        rw [up, List.filter_append]
        simpa [List.filter_cons, em] using r
      | true =>
        cases r0 with
        | mk ws =>
          have hys' : DaAll K H2 ys [.tup (ws.map Dt.str)] := hys
          cases hys' with
          | cons hw ht =>
          cases ht
          refine iteT ⟨_, rfl, ra, _, _, _, rfl, rfl, .inl (.inl hra), atI_nat (j := 1) rfl, yes _ _ (Same.refl _) ?_⟩
          rw [up, List.filter_append, List.map_append]
          refine DaAll.app r ?_
          simp only [List.filter_cons, em]
          exact .cons (Da.lessN e hw (nl_T (.mk ws))) .nil
        | _ => cases em
    · intro H2 acc s2 e r
      rw [lx, List.take_length] at r
      have r2 := DaAll.same less_same r
      refine ⟨_, rfl, by show 0 ≤ sizeLine; exact Nat.zero_le _, fun p hp => ?_⟩
      have s3 : Same H2 (upd H2 p (.lst [])) := Same.fresh (Same.refl _) hp
      refine ⟨.list (encA ((rs.filter isMk).map mkT)), .list [], .lst (SqL.of (s3 _ _ e)) (dp_A (r2.same s3) (ndA_map nd_T _)), .lst (SqL.of upd_same) .nil, lay_A _, rfl, ?_, _, rfl, ?_⟩
      · have : PyData.depthAll (encA ((rs.filter isMk).map mkT)) ≤ 1 := by
          rw [encA_map]
          refine depA_le fun d hd => ?_
          obtain ⟨r0, _, rfl⟩ := List.mem_map.mp hd
          have h2 : PyData.depthAll (encA ((mkWs r0).map Dt.str)) ≤ 0 := by
            rw [encA_map]
            refine depA_le fun d hd => ?_
            obtain ⟨p, _, rfl⟩ := List.mem_map.mp hd
            exact Nat.le_refl 0
          show (PyData.tuple (encA ((mkWs r0).map Dt.str))).depth ≤ 1
          simp only [PyData.depth]
          omega
        simp only [PyData.depth]
        omega
      · rw [if_pos rfl]
        have mf : made rs = ((rs.filter isMk).head?).map mkWs := by
          unfold made
          rw [List.head?_filter]
        cases hf : rs.filter isMk with
        | nil =>
          refine iteF (q0 ?_ _ (s2.trans s3))
          rw [mf, hf]
          rfl
        | cons r0 l =>
          rw [hf] at r2
          cases r2 with
          | @cons v vs _ _ hv ht =>
          refine iteT ⟨_, rfl, D, _, _, _, rfl, rfl, SqL.of (s3 _ _ e), atI_nat (j := 0) rfl, ?_⟩
          exact q1 (mkWs r0) (by rw [mf, hf]; rfl) _ _ (s2.trans s3) (hv.same s3)
abbrev nLW : List Str := ["rule", "pair"]
theorem scLW : FnScope nLW ["rule"] (defScope sLWords) := ⟨rfl, rfl, rfl, by decide +kernel, rfl, by decide +kernel, by decide +kernel⟩
theorem ok_lwords (F : Fun K "_law_words" "_law_words" sLWords f fd) (T : TxtG mg) : FnOk P w K mg base CX0 1 f fd ["rule"] (spWordsOf K) := by
  refine F.ok scLW (fun vs H Q E h => ?_) (fun cdv A outer s H vs Q E hr h => ?_)
  · obtain ⟨v, r, rfl, _⟩ := h
    rfl
  · obtain ⟨v, r, rfl, da, few, q⟩ := h
    refine ⟨_, pss_cons (ps_if (pt_cmpR op_eq (pe_ix ix_tup (pv 0) pe_int (fun _ _ => rfl)) pe_str (nomark _)) (pss_one (ps_ret (pe_callTy call_list_of (by rfl) T.f.list (by decide +kernel) (pa_cons (pe_ix ix_tup (pv 0) pe_int (fun _ _ => rfl)) pa_nil)))) pss_nil)
      (pss_one (ps_ret (pe_ifExp (pt_cmpR (op_inDT hr.units) (pe_ix ix_tup (pv 0) pe_int (fun _ _ => rfl)) (pe_tup (pa_cons pe_str (pa_cons pe_str pa_nil))) rfl)
        (pe_op op_cat (pe_lst (pa_cons (pe_ix ix_tup (pv 0) pe_int (fun _ _ => rfl)) pa_nil)) (pe_callB (call_sumL rfl) (by rfl) T.sum (by decide +kernel) (pa_cons
          (pe_lc (own := [("pair", 1)]) (g := gName 1) (tt := tYes) (te := tCB (rLs K) (tCons (tVar 1) tNil)) rfl scLW.nd (pi_seq (pe_ix ix_tup (pv 0) pe_int (fun _ _ => rfl))) (blkOk_by (N := nLW) (sc := defScope sLWords) (by decide +kernel))
            (fun _ _ _ _ _ => pg_name (i := 1) scLW.nd rfl (Or.inl rfl)) (fun _ _ _ _ _ => pts_nil) (fun _ _ _ _ _ => pe_callTy call_list_of (by rfl) T.f.list (by decide +kernel) (pa_cons (pv 1) pa_nil))) (pa_cons (pe_lst pa_nil) pa_nil))))
        (pe_callTy call_list_of (by rfl) T.f.list (by decide +kernel) (pa_cons (pe_slice sl_tupA (pv 0) (po_some pe_int) po_none) pa_nil))))), ?_⟩
    obtain ⟨ra, ys, rfl, hra, hys⟩ := rule_at da
    refine ⟨_, rfl, ra, _, _, _, rfl, rfl, .inl (.inl hra), atI_nat (j := 0) rfl, rfl, _, rfl, ?_⟩
    rw [show decide (V.str (headS r) = V.str "make") = isMk r by rw [← head_make, Bool.eq_iff_iff, decide_eq_true_eq, decide_eq_true_eq, V.str.injEq]]
    cases em : isMk r with
    | true =>
      cases r with
      | mk ws =>
        refine iteT ?_
        cases hys with
        | cons hw _ =>
          obtain ⟨b, zs, rfl, hb, hz⟩ := hw.tupI
          refine ⟨_, rfl, ra, _, _, _, rfl, rfl, .inl (.inl hra), atI_nat (j := 1) rfl, ?_⟩
          refine ⟨b, _, rfl, .inr hb, fun p hp => q p _ hp (Same.fresh (Same.refl _) hp) ?_⟩
          rw [upd_same, hz.strs]
          rfl
      | _ => cases em
    | false =>
      refine iteF ⟨_, rfl, ra, _, _, _, rfl, rfl, .inl (.inl hra), atI_nat (j := 0) rfl, by rw [sizeLine_eq]; decide, fun p hp => ?_⟩
      have s1 : Same H (upd H p (.tup [.str "fetch", .str "hand"])) := Same.fresh (Same.refl _) hp
      refine ⟨p, [.str "fetch", .str "hand"], [.str "fetch", .str "hand"], .str (headS r), rfl, .inl (.inl upd_same), .cons (.str _) (.cons (.str _) .nil), .str _, rfl, rfl, by show (0 : Nat) ≤ 60; omega, ?_⟩
      rw [show ((if false = true then !(List.any [PyData.str "fetch", PyData.str "hand"] fun e => PyData.eqv e (.str (headS r))) else List.any [PyData.str "fetch", PyData.str "hand"] fun e => PyData.eqv e (.str (headS r))) : Bool) = isFt r from head_ft r]
      have hra1 := s1 _ _ hra
      have hys1 := hys.same s1
      generalize upd H p (.tup [.str "fetch", .str "hand"]) = H1 at s1 hra1 hys1
      clear hp
      cases r with
      | mk ws => cases em
      | ft k a ps =>
        refine ⟨_, rfl, iteT ?_⟩
        cases hys1 with
        | cons ha h =>
        cases h with
        | cons hps h =>
        cases h
        cases ha with
        | str _ la =>
        obtain ⟨b, zs, rfl, hb, hz⟩ := hps.tupI
        have lz : zs.length = ps.length := by rw [hz.len, List.length_map]
        have flat : ∀ l : List (Str × Str), (l.map fun p => [p.1, p.2]).flatten.length = 2 * l.length := by
          intro l
          induction l with
          | nil => rfl
          | cons x l ih =>
            rw [List.map_cons, List.flatten_cons, List.length_append, ih, List.length_cons]
            simp only [List.length_cons, List.length_nil]
            omega
        have few2 : 2 * ps.length + 1 < 1000 := by
          have := flat ps
          have q2 : (wordsOf (.ft k a ps)).length = (ps.map fun p => [p.1, p.2]).flatten.length + 1 := rfl
          omega
        refine ⟨_, rfl, ra, _, _, _, rfl, rfl, .inl (.inl hra1), atI_nat (j := 1) rfl, by rw [sizeLine_eq]; exact show (1 : Nat) ≤ 16777216 by omega, fun pl hpl => ?_⟩
        have s2 : Same H1 (upd H1 pl (.lst [.str a])) := Same.fresh (Same.refl _) hpl
        have hz2 := hz.same s2
        have hb2 := seqT_same s2 hb
        refine ⟨_, rfl, ra, _, _, _, rfl, rfl, .inl (.inl (s2 _ _ hra1)), atI_nat (j := 2) rfl, false, b, zs, rfl, hb2, fun J wk D hD => ?_⟩
        refine lcX wk hD (fun i acc H => ∃ bs : List Addr, acc = bs.map V.ref ∧ Paired (fun c ys => less D H c = some (.lst ys)) bs ((ps.take i).map fun (p : Str × Str) => [V.str p.1, V.str p.2])) (by rw [lz, sizeLine_eq]; omega) (by rintro _ _ _ _ ⟨bs, e, r⟩ bb; exact ⟨bs, e, r.mono fun c ys h => less_but bb c _ h⟩) ⟨[], rfl, .nil⟩ (fun H3 s3 => seqT_same s3 hb2) ?_ ?_
        · rintro i x H3 acc hi ex s3 e3 ⟨bs, rfl, r3⟩ Nx yes no
          obtain ⟨d, ed, dax⟩ := hz2.at ex
          rw [List.getElem?_map] at ed
          obtain ⟨⟨p1, p2⟩, ep, rfl⟩ := Option.map_eq_some_iff.mp ed
          have up : ps.take (i + 1) = ps.take i ++ [(p1, p2)] := take_up ep
          obtain ⟨c, us, rfl, hc, hu⟩ := (dax.same s3).tupI
          have eu : us = [V.str p1, V.str p2] := (DaAll.strs (ss := [p1, p2]) hu)
          subst eu
          refine ⟨rfl, tYes_ok ⟨_, rfl, c, _, rfl, .inr hc, fun l hl => ?_⟩⟩
          have nl : l ≠ D := fun z => by rw [z, e3] at hl; cases hl
          have sl := Same.fresh (o := .lst [V.str p1, V.str p2]) (Same.refl H3) hl
          refine yes _ _ sl ⟨bs ++ [l], by rw [List.map_append]; rfl, ?_⟩
          rw [up, List.map_append]
          exact (r3.mono fun c ys h => less_mono sl c _ h).snoc (by rw [less_ne nl, upd_same])
        · rintro H3 acc s3 e3 ⟨bs, rfl, r3⟩
          rw [lz, List.take_length] at r3
          refine ⟨by show 0 ≤ sizeLine; exact Nat.zero_le _, fun b0 hb0 => ?_⟩
          have s4 := Same.fresh (o := .lst []) (Same.refl H3) hb0
          have ef : (ps.map fun p => [V.str p.1, V.str p.2]).flatten = ((ps.map fun p => [p.1, p.2]).flatten).map V.str := by
            rw [List.map_flatten, List.map_map]
            rfl
          have lf : ((ps.map fun p => [V.str p.1, V.str p.2]).flatten).length < 1000 := by
            rw [ef, List.length_map, flat]
            omega
          have e3' : upd H3 b0 (.lst []) D = some (.lst (bs.map V.ref)) := s4 _ _ e3
          have fin : ∀ (p : Addr) (HZ : Hp), Same (upd H3 b0 (.lst [])) HZ → HZ p = some (.lst ((ps.map fun p => [V.str p.1, V.str p.2]).flatten)) → rCat (.ref pl) (.ref p) HZ Q := fun p HZ sz ez => by
            have sL := (s3.trans s4).trans sz
            refine ⟨pl, p, [.str a], _, rfl, rfl, sL _ _ upd_same, ez, ?_, fun p hp => q p _ (none_back (s1.trans (s2.trans sL)) hp) ((s1.trans s2).trans (sL.trans (Same.fresh (Same.refl _) hp))) ?_⟩
            · rw [sizeLine_eq]
              simp only [List.length_cons, List.length_nil]
              omega
            · rw [upd_same, ef]
              rfl
          refine ⟨D, b0, bs, _, rfl, e3', upd_same, r3.mono fun c ys h => s4 _ _ (less_same _ _ h), by rw [sizeLine_eq]; omega, fun e => ?_, fun p hp => ?_⟩
          · exact fin b0 _ (Same.refl _) (by rw [upd_same, e]; rfl)
          · exact fin p _ (Same.fresh (Same.refl _) hp) upd_same
      | rs a b => exact ⟨_, rfl, iteF ⟨_, rfl, _, rfl, tailG (r := .rs a b) (ws := [a, b]) hra1 hys1 rfl rfl fun p H' n s2 e => q p H' (none_back s1 n) (s1.trans s2) e⟩⟩
      | mt a b c => exact ⟨_, rfl, iteF ⟨_, rfl, _, rfl, tailG (r := .mt a b c) (ws := [a, b, c]) hra1 hys1 rfl rfl fun p H' n s2 e => q p H' (none_back s1 n) (s1.trans s2) e⟩⟩
end
end K
set_option Elab.async false
set_option linter.all false
set_option maxRecDepth 100000
set_option maxHeartbeats 4000000
/-! A lambda handed to a def that calls it in a try whose suite reads the def's own names (the wish of an exception leans on the names' values). -/
namespace Hk
open PySem PySem.Spec PyProof.Rows L2 LamX
/-- the wish may be weakened -/
theorem cx_mono {P : Program} {w : World} {outer : List Env} {H : Hp} {s : Shared} {E E' : XK} {u : Value} {s' : Shared} (h : L2.CX P w outer H s E u s') (m : ∀ cls d H', E cls d H' → E' cls d H') : L2.CX P w outer H s E' u s' := by
  obtain ⟨a, B, H', cls, d, h1, h2, h3, h4, h5, h6, h7, h8⟩ := h
  exact ⟨a, B, H', cls, d, h1, h2, h3, h4, h5, h6, h7, m _ _ _ h8⟩
section
variable {X : Cx} {pins : List (Addr × Obj)} {σ : L2.St} {H : Hp} {s : Shared}
/-- the reading of a() where a holds the lambda at f -/
def tAct (i : Nat) (f c' : Addr) (q : Str) (W : WX) (tl : XK → Hp → VK → Prop) : TE := fun σZ HZ Q => ∃ E : XK, (∀ cls d H', E cls d H' → W cls d σZ H') ∧ σZ[i]? = some (some (.ref f)) ∧ HZ c' = some (CodeO c' q) ∧ tl E HZ Q
theorem pe_actS {CXg : CXT} {Eg : XK} {Ng : List Str} {qg : Str} {sg : Scope} {g f c' : Addr} {cdg pm ctv : Value} {params : Arguments} {body : Expr} {scope : Scope} {k i : Nat} {a : Str} {pn : List (Addr × Obj)} {xe : Value → Shared → Prop} {W : WX} {tb : XK → TE} {p1 p2 : Pos}
    (I : L2.Inv X pins σ H s) (L : LamS X.env.scope scope) (hf : s.heap.get? f = some (PySem.W.kla_obj "<lambda>" (X.env.qual ++ "<lambda>") params body scope (cloFrom X.env.cells scope.names []) pm c' ctv)) (hfn : H f = none) (hfr : f ∉ frs X.stack)
    (hbind : bindArgs (PySem.W.kla_fn "<lambda>" (X.env.qual ++ "<lambda>") params body scope (cloFrom X.env.cells scope.names []) pm (.ref c') ctv) ⟨[], []⟩ = pure [])
    (tk : Takes ((cxOf CXg X.prog X.w X.K X.mg X.base Ng qg sg g cdg X.A X.stack s H Eg).tr pn xe) W) (hr : Room (k + 1) (X.A.deeper (envOfC qg sg s.heap.objs.size g cdg)))
    (hbody : ∀ (E : XK) (A : Around) (outer : List Env) (s : Shared) (H : Hp), Room k (A.deeper (lamEnv X scope s.heap.objs.size f c')) → PE (lamCx X A outer s H E scope f c') body (tb E))
    (hN : Ng[i]? = some a) (hv : Vis sg a) (hd : (a == ("__debug__" : Str)) = false := by decide) (hcd : (a == ("__classdict__" : Str)) = false := by decide) :
    PE ((cxOf CXg X.prog X.w X.K X.mg X.base Ng qg sg g cdg X.A X.stack s H Eg).tr pn xe) (.Call (.Name a p1) [] [] p2) (tAct i f c' (X.env.qual ++ "<lambda>") W fun E H' Q' => tb E σ H' Q') := by
  refine ⟨fun pinsZ sZ σZ HZ Q IZ h => ?_⟩
  obtain ⟨E, hW, hs, hc, ht⟩ := h
  -- a trivial exception wish, to have the call's own end: the library's rule under a wish that tells the state
  refine wpAny_Call_Name_kw (thn ((pe_var (pos := p1) (i := i) hN hv hd hcd).run pinsZ sZ σZ HZ (fun v H1 => v = .ref f ∧ H1 = HZ) IZ ⟨.ref f, hs, rfl, rfl⟩) fun u s1 ⟨v, H1, I1, r1, q1⟩ => ?_)
  obtain ⟨rfl, rfl⟩ := q1
  obtain rfl : u = Value.ref f := r1
  have of1 := I1.base.keep f _ hf hfn hfr (fun z => nomatch (show f ∈ ([] : List Addr) from z))
  obtain ⟨⟨oc, vs, t, hoc, hdc, hvc⟩, _, _⟩ := I1.hok c' _ hc
  refine PySem.W.callWith_F0 ⟨_, _, _, _, of1⟩ (wpAny_call (codeAny_mono (R := CR (L2.CX X.prog X.w) (envOfC qg sg s.heap.objs.size g cdg :: X.stack) X.prog X.w H1 s1 Q E) ?_ fun r s' hq => ?_))
  · refine PySem.W.kla_callFunE hr.depth of1 rfl L.co L.gen rfl ⟨c', oc, vs, t, rfl, hoc, hdc, hvc⟩ ?_
    refine wpAny_of_eq (show bindArgs (PySem.W.kla_fn "<lambda>" (X.env.qual ++ "<lambda>") params body scope (cloFrom X.env.cells scope.names []) pm (.ref c') ctv) ⟨[] ++ [], []⟩ = pure [] from hbind) (wpAny_newFunctionEnv (fun y hy => (L.own y hy).2) (fun y hy => absurd hy (by simp)) (fun h₁ hns hsb => ⟨I1.nolimit.fresh _ hsb, ?_⟩) L.kind)
    have J := lam_start2 (E := E) (f := f) (c' := c') (tk := s1.toks + ([] : List (Str × Value)).length) I L I1.env0 hr.hd (I1.base : Un (frs X.stack) [] H H1 s.heap s1.heap) hns fun b o e => hsb.extBut b o (Nat.ne_of_lt (Heap.lt_size e)) (Heap.get?_push_of_some _ e)
    show codeAny _ _ (.expr body (lamEnv X scope s1.heap.objs.size f c')) _ _
    refine PySem.W.kla_codeExpr (wpAny_mono ((hbody E _ _ s1 H1 (hr.deeper _)).run [] _ _ H1 Q J ht) (fun v s' hq => ?_) fun e s' hq => hq)
    obtain ⟨w', H', J', rv, q⟩ := hq
    exact ⟨w', H', J'.os, J'.bare, J'.base, J'.hok, rv, q⟩
  · cases r with
    | error e => exact passAt tk σZ pinsZ H1 s1 e s' I1 (cx_mono hq hW)
    | ok fl =>
      cases fl with
      | ret u => exact I1.after hq
      | next => exact False.elim hq
      | brk => exact False.elim hq
      | cont => exact False.elim hq
/-- what the def makes of the lambda's reading: TT -/
def GivesS (X : Cx) (Ng : List Str) (x : Str) (sg : Scope) (g : Addr) (cdg : Value) (bg : List Stmt) (a q : Str) (j : Nat) (TT : (XK → Hp → VK → Prop) → Hp → VK → Prop) : Prop :=
  ∀ (f c' : Addr) (s : Shared) (H : Hp) (Q : VK) (tl : XK → Hp → VK → Prop), Room j (X.A.deeper (envOfC x sg s.heap.objs.size g cdg)) →
    (∀ (W : WX) (pn : List (Addr × Obj)) (xe : Value → Shared → Prop) (p1 p2 : Pos), Takes ((cxOf C8.CX0 X.prog X.w X.K X.mg X.base Ng x sg g cdg X.A X.stack s H C8.E0).tr pn xe) W →
      PE ((cxOf C8.CX0 X.prog X.w X.K X.mg X.base Ng x sg g cdg X.A X.stack s H C8.E0).tr pn xe) (.Call (.Name a p1) [] [] p2) (tAct 0 f c' q W tl)) →
    H c' = some (CodeO c' q) → TT tl H Q →
    ∃ t, PSs (cxOf C8.CX0 X.prog X.w X.K X.mg X.base Ng x sg g cdg X.A X.stack s H C8.E0).nox bg t ∧ t { nx := fun _ H' => Q .non H', rt := Q } (L2.start Ng [.ref f]) H
end
section
variable {X : Cx}
/-- x(lambda: body) -/
theorem pe_lamS {T : List (Addr × Str)} {TT : (XK → Hp → VK → Prop) → Hp → VK → Prop} {x a : Str} {g c P : Addr} {k : Nat} {pg : Arguments} {bg : List Stmt} {sg : Scope} {dV kV doc pm cdv ct oc : Value} {an od : Option Addr} {osl : Array (Option Value)} {Ng : List Str}
    {params : Arguments} {body : Expr} {scope : Scope} {t : XK → TE} {p lpos pos : Pos} (hg : Gl X x) (hm : X.mg x = some (.ref g)) (hk : PySem.W.keepIn X.K (.ref g) = true)
    (lk : X.K.lookup g = some ⟨oc, od, .func (PySem.W.fnOf x x pg bg sg dV kV doc pm an cdv ct), osl⟩) (hcg : PySem.W.codeIn X.K cdv x = true) (hb : L2.Binds X.K (PySem.W.fnOf x x pg bg sg dV kV doc pm an cdv ct) [a] []) (Sg : FnScope Ng [a] sg) (hNg : Ng[0]? = some a) (hva : Vis sg a)
    (hG : GivesS X Ng x sg g cdv bg a (X.env.qual ++ "<lambda>") (k + 1) TT)
    (TB : TabB X.base X.mg c P) (hcode : X.env.code = .ref c) (hmT : (P, X.env.qual ++ "<lambda>") ∈ T) (hu : ∀ p ∈ T, p.1 = P → p.2 = X.env.qual ++ "<lambda>") (hr : Room (k + 2) X.A) (L : LamS X.env.scope scope) (hdef : defaultsOf params X.env = ([], []))
    (hbind : ∀ (q : Str) (cl : List (Str × Addr)) (pm cv ctv : Value), bindArgs (PySem.W.kla_fn "<lambda>" q params body scope cl pm cv ctv) ⟨[], []⟩ = pure [])
    (hbody : ∀ (A : Around) (outer : List Env) (s : Shared) (H : Hp) (E : XK) (f c' : Addr), Room k (A.deeper (lamEnv X scope s.heap.objs.size f c')) → PE (lamCx X A outer s H E scope f c') body (t E))
    (hdb : (x == ("__debug__" : Str)) = false := by decide) (hd : (a == ("__debug__" : Str)) = false := by decide) (hcd : (a == ("__classdict__" : Str)) = false := by decide) :
    PE X (.Call (.Name x p) [.Lambda params body scope lpos] [] pos) (tLam T TT t) := by
  refine ⟨fun pins s σ H Q I ⟨hT, h⟩ => ?_⟩
  refine wpAny_Call_Name_kw (ld_glob I hg hm (PySem.W.callWith_K (h₀ := X.base) I.ok.mod.kin hk ?_ (by rfl) (by rfl)) hdb)
  show wpAny _ _ (spliced ((false, eval (.Lambda params body scope lpos) X.env) :: backTo pos (starEach [] X.env))) _ _ s
  refine Calls.spliced_cons (lam_make2 I TB hcode hmT hu hT hdef (L.has I.ok) fun f c' pm' ctv H1 s' I1 eN T1 hf hfn hfr hco => Calls.spliced_nil ⟨I1.kIn, wpAny_call (codeAny_mono (R := CR C8.CX0 X.stack X.prog X.w H1 s' Q C8.E0) ?_ fun r s2 hq => ?_)⟩)
  · refine run_ofS (N := Ng) (ps := [a]) (us := [.ref f]) (vs := [.ref f]) lk hcg Sg hr I1.env0 (hb s' [.ref f] I1.kIn rfl) (.cons rfl .nil) rfl fun hr' => ?_
    obtain ⟨t', ht', hq'⟩ := hG f c' s' H1 Q (fun E H' Q' => t E σ H' Q') hr' (fun W pn xe p1 p2 tk => pe_actS (i := 0) I1 L hf hfn hfr (hbind _ _ _ _ _) tk hr' (fun E A outer s H hr2 => hbody A outer s H E f c' hr2) hNg hva hd hcd) hco (h H1 eN T1)
    exact ⟨t', ht'.nox, hq'⟩
  · cases r with
    | error e => exact (show False from hq).elim
    | ok fl =>
      cases fl with
      | ret u => exact I1.after hq
      | next => exact False.elim hq
      | brk => exact False.elim hq
      | cont => exact False.elim hq
end
end Hk
set_option Elab.async false
set_option linter.all false
set_option maxRecDepth 100000
set_option maxHeartbeats 4000000
/-! The law's _law_error. -/
namespace K
open PySem L2 Hk LamX
abbrev nEr : List Str := ["call", "found", "e"]
theorem scError : FnScope nEr ["call"] (defScope sError) := ⟨rfl, rfl, rfl, by decide +kernel, rfl, by decide +kernel, by decide +kernel⟩
/-- what the written part says of the errors -/
structure TxtE (K : PySem.W.Frag) (mg : Str → Option Value) (CR CB : Addr) : Prop where
  isi : mg "isinstance" = none
  gR : mg "RightError" = some (.ref CR)
  gB : mg "BadPolicy" = some (.ref CB)
  eB : PySem.W.exmOne K (.ref CB) (.ref CR) = some true
  xB : XfC K CB
  nB : PySem.W.findIn K (.ref CB) "number" = some none
  cB : ExcC K CB
/-- what _law_error makes of a lambda: refused, or not -/
def TErr (CB : Addr) : (XK → Hp → VK → Prop) → Hp → VK → Prop := fun tl H Q => ∀ p, H p = none → ∀ Q' : VK, (∀ v H', H' p = some (.lst []) → Q (.ref p) H' → Q' v H') →
  tl (fun cls d H' => ∃ (dd : Addr) (v : V), d = some dd ∧ H' p = some (.lst []) ∧ cls = .ref CB ∧ ErrAt H' dd "number" v ∧ ∀ H2, But p H' H2 → H2 p = some (.lst [v]) → Q (.ref p) H2)
    (upd H p (.lst [])) Q'
section
variable {X : Cx} {g CR CB : Addr} {cdg : Value} {q : Str} {j : Nat}
/-- the suite's if -/
def tApp (K : PySem.W.Frag) (CB : Addr) (a : Addr) (cls : Value) (d : Option Addr) : TS :=
  tIfS (tB (tCB (rIsD K cls a d) (tCons (tVar 2) (tCons (tC (.ref CB)) tNil)))) (tDrop (tBM K "list" rAppend (tVar 1) (tCons (tXf a cls d CB "number" (tVar 2)) tNil))) tNext
theorem error_gives (T : TxtE X.K X.mg CR CB) : GivesS X nEr "_law_error" (defScope sError) g cdg (defBody sError) "call" q j (TErr CB) := by
  intro f c' s H Q tl hr act hc h
  refine ⟨_, pss_cons (ps_set (i := 1) scError.nd rfl (Or.inl rfl) (pe_lst pa_nil))
    (pss_cons (ps_try_as (i := 2) (c := .ref CR) (ts := tApp X.K CB) (Wout := fun _ _ _ _ => False) rfl rfl scError.nd rfl rfl ⟨by rfl, by decide, .inl T.gR⟩ L2.takes0
      (fun W pn xe tk _ => pss_one (ps_expr (act W pn xe _ _ tk)))
      (fun a oe cls d pn hz hf => pss_one (ps_if (pt_val (pe_callB (call_isD hz hf) (by rfl) T.isi (by decide +kernel) (pa_cons (pv 2) (pa_cons (pe_glob (v := .ref CB) (by rfl) T.gB rfl) pa_nil))))
          (pss_one (ps_expr (pe_bm PySem.F.plainAttrs_list PySem.F.slot_list_append PySem.F.type_list_append mt_append (pv 1) (pa_cons (pe_xf T.xB T.nB hz hf (pv 2)) pa_nil)))) pss_nil)))
    (pss_one (ps_ret (pv 1)))), ?_⟩
  refine ⟨by show 0 ≤ sizeLine; exact Nat.zero_le _, fun p hp => ?_⟩
  have np : p ≠ c' := ne_of_none' hp hc
  refine ⟨_, fun cls d H' hE => ?_, rfl, (by rw [upd_ne np.symm]; exact hc), h p hp _ fun v H' e q => ⟨_, rfl, q⟩⟩
  obtain ⟨dd, v, rfl, hp', rfl, he, q⟩ := hE
  have lk : ∀ (f : Str) (v : V), List.lookup f [(f, v)] = some v := fun f v => by simp [List.lookup]
  refine ⟨true, T.eB, fun _ a0 n0 => ?_, fun z => by cases z⟩
  refine ⟨_, rfl, CB, dd, _, .ref CB, .ref CB, true, rfl, T.cB, rfl, he, rfl, fun u r => r, kit_self CB, _, rfl, iteT ?_⟩
  refine ⟨_, rfl, .inl ⟨rfl, _, SqL.of hp'⟩, _, rfl, rfl, rfl, dd, _, _, rfl, he, lk _ _, ?_⟩
  refine ⟨p, [], v, rfl, rfl, hp', by rw [sizeLine_eq]; show 0 < _; decide, ?_⟩
  exact ⟨_, rfl, q _ But.rfl'.upd upd_same⟩
end
end K
set_option Elab.async false
set_option linter.all false
set_option maxRecDepth 100000
set_option maxHeartbeats 4000000
/-! One check of a refusal. -/
namespace K
open PySem L2 Hk LamX
section
variable {K : PySem.W.Frag} {H H' : Hp}
theorem SqT.ext {a : Addr} {xs : List V} (x : ExtN H H') (h : SqT K H a xs) : SqT K H' a xs := by
  rcases h with (h | ⟨o, h⟩) | h
  · exact .inl (.inl (x _ _ h (fun _ z => nomatch z)))
  · exact .inl (.inr ⟨o, x _ _ h (fun _ z => nomatch z)⟩)
  · exact .inr h
theorem SqL.ext {a : Addr} {xs : List V} (x : ExtN H H') (h : SqL K H a xs) : SqL K H' a xs := by
  rcases h with (h | ⟨o, h⟩) | h
  · exact .inl (.inl (x _ _ h (fun _ z => nomatch z)))
  · exact .inl (.inr ⟨o, x _ _ h (fun _ z => nomatch z)⟩)
  · exact .inr h
mutual
theorem Da.ext (x : ExtN H H') : ∀ {v : V} {t : Dt}, Da K H v t → Da K H' v t
  | _, _, .non => .non
  | _, _, .dct h => .dct (x _ _ h (fun _ z => nomatch z))
  | _, _, .int i => .int i
  | _, _, .str z l => .str z l
  | _, _, .lst h l => .lst (SqL.ext x h) (DaAll.ext x l)
  | _, _, .tup h l => .tup (x _ _ h (fun _ z => nomatch z)) (DaAll.ext x l)
  | _, _, .nul h => .nul (SqT.ext x h)
theorem DaAll.ext (x : ExtN H H') : ∀ {v : List V} {t : List Dt}, DaAll K H v t → DaAll K H' v t
  | _, _, .nil => .nil
  | _, _, .cons h t => .cons (Da.ext x h) (DaAll.ext x t)
end
theorem PoAt.ext {CP a : Addr} {rs : List Rl} (x : ExtN H H') (S : PoAt K CP H a rs) : PoAt K CP H' a rs := by
  obtain ⟨dx, t, xs, h1, h2, h3⟩ := S.ex
  exact ⟨dx, t, xs, x _ _ h1 (fun _ z => nomatch z), x _ _ h2 (fun _ z => nomatch z), DaAll.ext x h3⟩
theorem Dr.ext {d : Addr} (x : ExtN H H') (D : Dr K H d) : Dr K H' d := by
  obtain ⟨a, ns, k, h1, h2, h3, h4⟩ := D
  exact ⟨a, ns, k, x _ _ h1 (fun _ z => nomatch z), SqL.ext x h2, h3, h4⟩
theorem Tabs.same {T : List (Addr × Str)} (t : Tabs T H) (s : Same H H') : Tabs T H' := t.ext s
theorem ExtN.same {H H1 H2 : Hp} (x : ExtN H H1) (s : Same H1 H2) : ExtN H H2 := x.trans (ExtN.of s)
end
/-- a flat value and its data -/
inductive Fl : V → PyData → Prop
  | non : Fl .non .none
  | int (i : Int) : Fl (.int i) (.int i)
  | str (x : Str) : Fl (.str x) (.str x)
theorem Fl.dp {K : PySem.W.Frag} {H : Hp} {v : V} {d : PyData} (f : Fl v d) : Dp K H v d := by
  cases f with
  | non => exact .non
  | int i => exact .int i
  | str x => exact .str x
theorem Fl.fact {v : V} {d : PyData} (f : Fl v d) : d.plain = true ∧ d.depth = 0 ∧ PyData.eqv d d = true := by
  cases f with
  | non => exact ⟨rfl, rfl, rfl⟩
  | int i => exact ⟨rfl, rfl, by simp [PyData.eqv]⟩
  | str x => exact ⟨rfl, rfl, by simp [PyData.eqv]⟩
/-- the lambda's body is refused with the number v -/
def Refs (CB : Addr) (v : V) (t : XK → TE) (σ : L2.St) (H : Hp) : Prop :=
  ∀ H1, ExtN H H1 → ∀ E : XK, (∀ d H', Same H1 H' → H1 d = none → ErrAt H' d "number" v → E (.ref CB) (some d) H') → ∀ Q', t E σ H1 Q'
def chkR (T : List (Addr × Str)) (CB : Addr) (t : XK → TE) (tx : TE) : TS := fun D σ H => Tabs T H ∧ ∃ (v : V) (dv : PyData), Fl v dv ∧ Refs CB v t σ H ∧ (∀ H1 Q, ExtN H H1 → Q v H1 → tx σ H1 Q) ∧ ∀ H3, ExtN H H3 → Tabs T H3 → D.nx σ H3
/-- the heart: the lambda's call, then the comparison -/
theorem chk_read {T : List (Addr × Str)} {CB : Addr} {v : V} {dv : PyData} {t : XK → TE} {tx : TE} {K : PySem.W.Frag} {σ : L2.St} {H : Hp} {Q : VK} (hT : Tabs T H) (hv : Fl v dv) (hr : Refs CB v t σ H) (hx : ∀ H1 Q, ExtN H H1 → Q v H1 → tx σ H1 Q)
    (q : ∀ H3, ExtN H H3 → Tabs T H3 → Q (.bl false) H3) :
    tLam T (TErr CB) t σ H (fun x H1 => tLst (tCons tx tNil) σ H1 fun y H2 => rEqP K true x y H2 Q) := by
  refine ⟨hT, fun H1 x1 T1 p hp Q' _ => ?_⟩
  have s0 : Same H1 (upd H1 p (.lst [])) := Same.fresh (Same.refl _) hp
  refine hr _ (ExtN.same x1 s0) _ (fun d H' s1 hd he => ?_) Q'
  have hp' : H' p = some (.lst []) := s1 _ _ upd_same
  refine ⟨d, v, rfl, hp', rfl, he, fun H2 b2 hl => ?_⟩
  have s2 : Same H1 H2 := fun c o e => b2 c o (ne_of_none e hp) (s1 c o (s0 c o e))
  have x2 := ExtN.same x1 s2
  refine hx H2 _ x2 ⟨by show 1 ≤ sizeLine; decide, fun q2 hq2 => ?_⟩
  have s3 := Same.fresh (o := .lst [v]) (Same.refl H2) hq2
  obtain ⟨f1, f2, f3⟩ := hv.fact
  refine ⟨.list [dv], .list [dv], .lst (SqL.of (s3 _ _ hl)) (.cons hv.dp .nil), .lst (SqL.of upd_same) (.cons hv.dp .nil), ?_, ?_, ?_, ?_⟩
  · show PyData.plainAll [dv] = true
    rw [PyData.plainAll, f1]
    rfl
  · show PyData.plainAll [dv] = true
    rw [PyData.plainAll, f1]
    rfl
  · simp only [PyData.depth, PyData.depthAll]
    omega
  · rw [if_pos rfl]
    have e : PyData.eqv (.list [dv]) (.list [dv]) = true := by
      simp only [PyData.eqv, PyData.eqvAll, f3]
      rfl
    rw [e]
    exact q _ (ExtN.same x2 s3) (Tabs.same T1 (s2.trans s3))
section
variable {X : Cx} {T : List (Addr × Str)} {CB : Addr} {t : XK → TE} {tx : TE} {e x : Expr}
theorem ps_chk {j3 : Nat} {b4 b5 b6 b7 b8 : Pos} (hu : X.A.units + 64 < cLine) (L : PE X e (tLam T (TErr CB) t)) (hx : PE X x tx) (hn : behindInMarks .NotEq (.List [x] b4) = false) (hs : starEach [x] X.env = (false, eval x X.env) :: starEach [] X.env := by rfl) :
    PS X (.If (.Compare e [.NotEq] [.List [x] b4] b5) [.Return (some (.Constant (.bool false) j3 b6)) b7] [] b8) (chkR T CB t tx) := by
  have P0 := ps_if (pos := b8) (pt_cmpR (pos := b5) (op_neP hu) L (pe_lst (pos := b4) (pa_cons hx pa_nil hs)) hn) (pss_one (ps_ret (pos := b7) (pe_bl (X := X) (b := false) (j := j3) (pos := b6)))) pss_nil
  refine ⟨fun pins s σ H D I ⟨hT, v, dv, hv, hr, hx, q⟩ => P0.run pins s σ H D I ?_⟩
  exact chk_read hT hv hr hx fun H3 x3 T3 => ⟨_, rfl, iteF (q H3 x3 T3)⟩
end
/-- Policy(v) in a lambda is refused -/
theorem refs_make {K : PySem.W.Frag} {CP CB : Addr} {o : Option Nat} {d : Dt} {ta : TA} {σ : L2.St} {H : Hp} (he : PErr d o) (un : ∀ o', PErr d o' → o' = o) (ok : ∀ l, rowD d = some l → ¬ (l.length ≤ 12 ∧ wrongs (l.map plainD) = [])) (sm : smD d = true) (hd : ∀ x ∈ lD d, hdT x = true)
    (h : ∀ H1, ExtN H H1 → ∀ R : List V → Hp → Prop, (∀ H2 v, Same H1 H2 → Da K H2 v d → R [v] H2) → ta σ H1 R) :
    Refs CB (vNo o) (fun E' => tMake CP (spInit K CP CB) [] E' ta) σ H := by
  intro H1 x1 E hE Q'
  refine h H1 x1 _ fun H2 v s2 da x dx hx hdx ne => ?_
  have s1 : Same H2 (upd (upd H2 dx (.own x)) x (.ins CP dx [])) := fun b o e => by
    rw [upd_ne (ne_of_none e hx), upd_ne (ne_of_none e hdx)]
    exact e
  exact ⟨x, dx, v, d, rfl, upd_same, Da.same s1 da, sm, hd, fun o' ho' dd H' s hd er => by rw [un o' ho'] at er; exact hE dd H' ((s2.trans s1).trans s) (Same.no (s2.trans s1) hd) er, fun l el l12 wr => absurd ⟨l12, wr⟩ (ok l el)⟩
mutual
def teD : Dt → TE
  | .non => tC .non
  | .dct => tDNewK
  | .int i => tC (.int i)
  | .str x => tC (.str x)
  | .lst l => tLst (taD l)
  | .tup l => tTup (taD l)
def taD : List Dt → TA
  | [] => tNil
  | d :: l => tCons (teD d) (taD l)
end
mutual
def okD : Dt → Bool
  | .non => true
  | .dct => true
  | .int _ => true
  | .str x => decide (x.length ≤ 1000)
  | .lst l => okA l && decide (l.length ≤ 1000)
  | .tup l => okA l && decide (l.length ≤ 1000)
def okA : List Dt → Bool
  | [] => true
  | d :: l => okD d && okA l
end
section
variable {K : PySem.W.Frag} {d : Addr}
theorem less_fresh {H : Hp} {a : Addr} {o o2 : HO} (hd : H d = some o) (ha : H a = none) : less d (upd H a o2) a = some o2 := by
  have n : a ≠ d := fun z => by rw [z, hd] at ha; cases ha
  rw [less_ne n, upd_same]
mutual
/-- written data, made; d is none of it -/
theorem teD_read {σ : L2.St} : ∀ (t : Dt), okD t = true → ∀ {H : Hp} {o : HO} {R : VK}, H d = some o → (∀ v H', Same H H' → Da K (less d H') v t → R v H') → teD t σ H R
  | .non, _, H, _, _, _, q => q .non H (Same.refl _) .non
  | .dct, _, H, _, _, hd, q => fun a ha => q _ _ (Same.fresh (Same.refl _) ha) (.dct (less_fresh hd ha))
  | .int i, _, H, _, _, _, q => q _ H (Same.refl _) (.int i)
  | .str x, h, H, _, _, _, q => q _ H (Same.refl _) (.str x (of_decide_eq_true h))
  | .lst l, h, H, _, R, hd, q => by
    have h2 : (okA l && decide (l.length ≤ 1000)) = true := h
    rw [Bool.and_eq_true, decide_eq_true_eq] at h2
    refine taD_read (R := fun xs H1 => xs.length ≤ sizeLine ∧ ∀ p, H1 p = none → R (.ref p) (upd H1 p (.lst xs))) l h2.1 hd fun vs H1 s1 da => ⟨by rw [sizeLine_eq, da.len]; omega, fun p hp => ?_⟩
    have s2 : Same H1 (upd H1 p (.lst vs)) := Same.fresh (Same.refl _) hp
    exact q _ _ (s1.trans s2) (.lst (SqL.of (less_fresh (s1 _ _ hd) hp)) (DaAll.same (less_mono s2) da))
  | .tup l, h, H, _, R, hd, q => by
    have h2 : (okA l && decide (l.length ≤ 1000)) = true := h
    rw [Bool.and_eq_true, decide_eq_true_eq] at h2
    refine taD_read (R := fun xs H1 => xs.length ≤ sizeLine ∧ ∀ p, H1 p = none → R (.ref p) (upd H1 p (.tup xs))) l h2.1 hd fun vs H1 s1 da => ⟨by rw [sizeLine_eq, da.len]; omega, fun p hp => ?_⟩
    have s2 : Same H1 (upd H1 p (.tup vs)) := Same.fresh (Same.refl _) hp
    exact q _ _ (s1.trans s2) (.tup (less_fresh (s1 _ _ hd) hp) (DaAll.same (less_mono s2) da))
theorem taD_read {σ : L2.St} : ∀ (l : List Dt), okA l = true → ∀ {H : Hp} {o : HO} {R : List V → Hp → Prop}, H d = some o → (∀ vs H', Same H H' → DaAll K (less d H') vs l → R vs H') → taD l σ H R
  | [], _, H, _, _, _, q => q [] H (Same.refl _) .nil
  | t :: l, h, H, _, R, hd, q => by
    have h2 : (okD t && okA l) = true := h
    rw [Bool.and_eq_true] at h2
    refine teD_read (R := fun x H1 => taD l σ H1 fun xs H2 => R (x :: xs) H2) t h2.1 hd fun v H1 s1 da => ?_
    refine taD_read (R := fun xs H2 => R (v :: xs) H2) l h2.2 (s1 _ _ hd) fun vs H2 s2 das => q _ _ (s1.trans s2) (.cons (Da.same (less_mono s2) da) das)
end
theorem DaAll.mem {H : Hp} {v : V} : ∀ {xs : List V} {l : List Dt}, DaAll K H xs l → v ∈ xs → ∃ t ∈ l, Da K H v t
  | _, _, .nil, h => (List.not_mem_nil h).elim
  | _, _, .cons h t, m => by
    rcases List.mem_cons.mp m with rfl | m
    · exact ⟨_, List.mem_cons_self, h⟩
    · obtain ⟨t, ht, da⟩ := DaAll.mem t m
      exact ⟨t, List.mem_cons_of_mem _ ht, da⟩
/-- written data in a list of its own -/
theorem lstD_read {σ : L2.St} {l : List Dt} (h : okA l = true) (hz : l.length ≤ 1000) {H : Hp} {o : HO} {R : VK} (hd : H d = some o) (q : ∀ p vs H', Same H H' → p ≠ d → H' p = some (.lst vs) → DaAll K (less d H') vs l → R (.ref p) H') : tLst (taD l) σ H R := by
  refine taD_read (K := K) (R := fun xs H1 => xs.length ≤ sizeLine ∧ ∀ p, H1 p = none → R (.ref p) (upd H1 p (.lst xs))) l h hd fun vs H1 s1 da => ⟨by rw [sizeLine_eq, da.len]; omega, fun p hp => ?_⟩
  have s2 : Same H1 (upd H1 p (.lst vs)) := Same.fresh (Same.refl _) hp
  exact q p vs _ (s1.trans s2) (fun z => by have := s1 _ _ hd; rw [← z, hp] at this; cases this) upd_same (DaAll.same (less_mono s2) da)
end
end K
set_option Elab.async false
set_option linter.all false
set_option maxRecDepth 100000
set_option maxHeartbeats 8000000
/-! The law's end: what is refused. -/
namespace K
open PySem L2 Hk LamX PyProof.Rows
abbrev qLaw : Str := Str.ofString "law" ++ ".<locals>." ++ "<lambda>"
abbrev nLaw : List Str := ["script", "draw", "rules", "others", "policy", "other", "turned", "whole", "at", "to", "good", "odd", "wrong", "pairs", "rule", "number", "letter"]
theorem scLaw : FnScope nLaw ["script"] (defScope sLaw) := ⟨rfl, rfl, rfl, by decide +kernel, rfl, by decide +kernel, by decide +kernel⟩
structure TxtL (P : Program) (K : PySem.W.Frag) (mg : Str → Option Value) (CP CB CR fX fP fLR fLM fEr fLW fI fMd fWd fLn fIt fGt fEq fAd fWi : Addr) : Prop where
  g : TxtG mg
  gX : mg "_law_next" = some (.ref fX)
  kX : PySem.W.keepIn K (.ref fX) = true
  gP : mg "_law_pick" = some (.ref fP)
  kP : PySem.W.keepIn K (.ref fP) = true
  gLR : mg "_law_rules" = some (.ref fLR)
  kLR : PySem.W.keepIn K (.ref fLR) = true
  gLM : mg "_law_made" = some (.ref fLM)
  kLM : PySem.W.keepIn K (.ref fLM) = true
  gE : mg "_law_error" = some (.ref fEr)
  kE : PySem.W.keepIn K (.ref fEr) = true
  gLW : mg "_law_words" = some (.ref fLW)
  kLW : PySem.W.keepIn K (.ref fLW) = true
  e : TxtE K mg CR CB
  made : Mk K CP fI
  mM : Meth K CP "made" fMd
  mW : Meth K CP "words" fWd
  mWi : Meth K CP "without" fWi
  ne : PySem.W.findIn K (.ref CP) "__ne__" = some (some (.builtin "object.__ne__"))
  mro : PySem.W.mroIn K CP (.type "object") = some true
  eq : PySem.W.findIn K (.ref CP) "__eq__" = some (some (.ref fEq))
  eqF : PySem.W.isFn K (.ref fEq) = true
  ln : PySem.W.findIn K (.ref CP) "__len__" = some (some (.ref fLn))
  lnF : PySem.W.isFn K (.ref fLn) = true
  it : PySem.W.findIn K (.ref CP) "__iter__" = some (some (.ref fIt))
  itF : PySem.W.isFn K (.ref fIt) = true
  gt : PySem.W.findIn K (.ref CP) "__getitem__" = some (some (.ref fGt))
  gtI : PySem.W.fnIn K fGt = true
  gtF : PySem.W.isFn K (.ref fGt) = true
  ad : PySem.W.findIn K (.ref CP) (PySem.dunder (Operator.info .Add).2) = some (some (.ref fAd))
  adF : PySem.W.isFn K (.ref fAd) = true
  adS : PySem.W.selfFirst K CP = true
abbrev spWiX (K : PySem.W.Frag) (CP CB : Addr) : Sp := fun vs H Q E => ∃ ws rest, vs = ws ++ rest ∧ ws.length = 1 ∧ rest.length ≤ sizeLine ∧ ∀ p, H p = Option.none → spWi K CP CB (ws ++ [V.ref p]) (upd H p (.tup rest)) Q E
/-- the promises that the law rests on -/
structure GsL (P : Program) (w : World) (K : PySem.W.Frag) (mg : Str → Option Value) (base : Heap) (CP CB fX fP fLR fLM fEr fLW fI fMd fWd fLn fIt fGt fEq fAd fWi : Addr) (fdX fdP fdLR fdLM fdE fdLW fdI fdMd fdWd fdLn fdIt fdGt fdEq fdAd : FuncData) : Prop where
  X : FnOk P w K mg base CX0 3 fX fdX ["draw", "bound"] (spNext K)
  bX : Binds K fdX ["draw", "bound"] []
  Pk : FnOk P w K mg base CX0 4 fP fdP ["draw", "things"] (spPick K)
  bPk : Binds K fdP ["draw", "things"] []
  LR : FnOk P w K mg base CX0 5 fLR fdLR ["draw", "most"] (spLR K)
  bLR : Binds K fdLR ["draw", "most"] []
  LM : FnOk P w K mg base CX0 1 fLM fdLM ["rules"] (spLMade K)
  bLM : Binds K fdLM ["rules"] []
  LW : FnOk P w K mg base CX0 1 fLW fdLW ["rule"] (spWordsOf K)
  bLW : Binds K fdLW ["rule"] []
  FE : Fun K "_law_error" "_law_error" sError fEr fdE
  bE : Binds K fdE ["call"] []
  I : FnOk P w K mg base (L2.CX P w) 5 fI fdI ["self", "rules"] (spInit K CP CB)
  bI : Binds K fdI ["self", "rules"] []
  Md : FnOk P w K mg base CX0 3 fMd fdMd ["self"] (spMd K CP)
  bMd : Binds K fdMd ["self"] []
  Wd : FnOk P w K mg base CX0 3 fWd fdWd ["self"] (spWd K CP)
  bWd : Binds K fdWd ["self"] []
  Ln : FnOk P w K mg base CX0 1 fLn fdLn ["self"] (spLen K CP)
  bLn : Binds K fdLn ["self"] []
  It : FnOk P w K mg base CX0 1 fIt fdIt ["self"] (spIter CP)
  bIt : Binds K fdIt ["self"] []
  Gt : FnOk P w K mg base (L2.CX P w) 3 fGt fdGt ["self", "number"] (spGet K CP CB)
  bGt : Binds K fdGt ["self", "number"] []
  Eq : FnOk P w K mg base CX0 1 fEq fdEq ["self", "other"] (spEq K CP)
  bEq : Binds K fdEq ["self", "other"] []
  Ad : FnOk P w K mg base (L2.CX P w) 7 fAd fdAd ["self", "other"] (spAdd K CP)
  bAd : Binds K fdAd ["self", "other"] []
  Wi : FnR P w K mg base (L2.CX P w) 7 fWi (spWiX K CP CB)
def rLn (K : PySem.W.Frag) : List V → Hp → VK → Prop := fun xs H Q => ∃ p ys, xs = [.ref p] ∧ (SqL K H p ys ∨ SqT K H p ys) ∧ Q (.int ys.length) H
def odd1 : List Dt := [.non, .str "raise", .tup [.str "raise"], .tup [.str "raise", .str "a"], .tup [.str "raise", .str "a", .str "B"], .tup [.str "raise", .str "a", .str "b", .str "c"], .tup [.str "meet", .str "a", .str "b"]]
def odd2 : List Dt := [.tup [.str "fetch", .str "a", .tup []], .tup [.str "fetch", .str "a", .lst [.tup [.str "a", .str "b"], .tup [.str "a", .str "b"]]], .tup [.str "hand", .str "a", .lst [.tup [.str "a"]]], .tup [.str "hand", .str "a", .lst [.lst [.str "a", .str "b"]]]]
def odd3 : List Dt := [.tup [.str "hand", .int 7, .lst [.tup [.str "a", .str "b"]]], .tup [.str "make", .tup []], .tup [.str "make", .lst [.str "a", .str "a"]], .tup [.str "make", .str "a"], .tup [.str "take", .str "a", .str "b"], .lst [.str "raise", .str "a", .str "b"]]
def no4 : List Dt := [.int 7, .non, .str "", .dct]
theorem Tabs.but {K : PySem.W.Frag} {T : List (Addr × Str)} {H H' : Hp} {d : Addr} (D : Dr K H d) (t : Tabs T H) (b : But d H H') : Tabs T H' := fun p hp => by
  obtain ⟨_, _, _, hd, _⟩ := D
  obtain ⟨ps, h, ok, q⟩ := t p hp
  refine ⟨ps, b _ _ (fun z => by rw [z, hd] at h; cases h) h, ok, fun pos cv hc => ?_⟩
  obtain ⟨c, e, hc2⟩ := q pos cv hc
  exact ⟨c, e, b _ _ (fun z => by rw [z, hd] at hc2; unfold CodeO at hc2; cases hc2) hc2⟩
def abcJ : Str := "abcdefghij"
def ltD : List Dt := abcJ.cps.toList.map fun c => .tup [.str "a", .str (⟨#[c]⟩ : Str)]
theorem ltD_len : ltD.length = 10 := by decide +kernel
theorem abcJ_len : abcJ.cps.size = 10 := by decide +kernel
theorem lt_bad : wrongs ([Dt.tup [.str "fetch", .str "a", .lst ltD]].map plainD) = [0] := by decide +kernel
theorem lt_good : wrongs ([Dt.tup [.str "hand", .str "a", .lst (ltD.drop 1)]].map plainD) = [] := by decide +kernel
theorem lt_sm : smD (.lst [Dt.tup [.str "fetch", .str "a", .lst ltD]]) = true ∧ smD (.lst [Dt.tup [.str "hand", .str "a", .lst (ltD.drop 1)]]) = true := by decide +kernel
theorem mk_readX {K : PySem.W.Frag} {CP CB : Addr} {H1 : Hp} {v : V} {d : Dt} {rs : List Rl} {Q : Addr → Hp → Prop} {E : XK} (h : Da K H1 v d) (e : rowD d = some (rs.map dtL)) (ok : Pok rs)
    (qk : ∀ H' x, Same H1 H' → H1 x = none → PoAt K CP H' x rs → Q x H') :
    ∀ x dx, H1 x = none → H1 dx = none → dx ≠ x → spInit K CP CB (.ref x :: ([v] ++ [])) (upd (upd H1 dx (.own x)) x (.ins CP dx [])) (fun v H2 => v = .non ∧ Q x H2) E := by
  intro x dx hx hdx ne
  obtain ⟨a, b, v', d', ev, ea, da, sm, hd, he, hk⟩ := mk_read (CP := CP) (CB := CB) (E := E) (Q := fun v H2 => ∃ x, v = .ref x ∧ Q x H2) h e ok (fun H' x s n S => ⟨x, rfl, qk H' x s n S⟩) x dx hx hdx ne
  refine ⟨a, b, v', d', ev, ea, da, sm, hd, he, fun l el lf wr H' bt S => ?_⟩
  obtain ⟨h1, y, ey, qy⟩ := hk l el lf wr H' bt S
  cases ey
  exact ⟨h1, qy⟩
theorem seq_set {ts : TE} {i : Nat} {tb : TS} {D : Ends} {σ : L2.St} {H : Hp} (h : ts σ H fun x H1 => tb D (σ.set i (some x)) H1) : tSeq (tAsg ts (gName i)) tb D σ H := h
theorem lstD_readT {K : PySem.W.Frag} {d : Addr} {σ : L2.St} {l : List Dt} (h : okA l = true) (hz : l.length ≤ 1000) {H : Hp} {o : HO} {R : VK} (hd : H d = some o) (q : ∀ p vs H', Same H H' → p ≠ d → H' p = some (.lst vs) → DaAll K (less d H') vs l → R (.ref p) H') : teD (.lst l) σ H R := lstD_read h hz hd q
theorem cat_read {K : PySem.W.Frag} {d : Addr} {σ : L2.St} {l m : List Dt} (h : okA m = true) (hz : m.length ≤ 1000) (hl : l.length ≤ 1000) {H : Hp} {o : HO} {R : VK} {p : Addr} {vs : List V} (h11 : σ[11]? = some (some (.ref p))) (hp : H p = some (.lst vs)) (da : DaAll K (less d H) vs l) (hd : H d = some o)
    (q : ∀ p vs H', Same H H' → p ≠ d → H' p = some (.lst vs) → DaAll K (less d H') vs (l ++ m) → R (.ref p) H') : tOp rCat (tVar 11) (teD (.lst m)) σ H R := by
  refine ⟨_, h11, ?_⟩
  refine lstD_readT (K := K) (d := d) h hz hd fun p2 vs2 H2 s2 n2 hp2 da2 => ?_
  refine ⟨p, p2, vs, vs2, rfl, rfl, s2 _ _ hp, hp2, by have := da.len; have := da2.len; rw [sizeLine_eq]; omega, fun p3 hp3 => ?_⟩
  have s3 := Same.fresh (o := .lst (vs ++ vs2)) (Same.refl H2) hp3
  exact q p3 _ _ (s2.trans s3) (fun z => by rw [z, s2 _ _ hd] at hp3; cases hp3) upd_same (DaAll.app (DaAll.same (less_mono (s2.trans s3)) da) (DaAll.same (less_mono s3) da2))
theorem refs_get {K : PySem.W.Frag} {CP CB pa : Addr} {rs : List Rl} {σ : L2.St} {H : Hp} {v : V} {tx : TE} (h4 : σ[4]? = some (some (.ref pa))) (S : PoAt K CP H pa rs) (few : rs.length < 1000) (hv : (∃ i, v = .int i) ∨ ∃ x, v = .str x) (pl : plc v rs.length = false)
    (hx : ∀ H1 Q, ExtN H H1 → Q v H1 → tx σ H1 Q) : Refs CB v (fun E' => tOp (rOwnIx CP (spGet K CP CB) E') (tVar 4) tx) σ H := by
  intro H1 x1 E hE Q'
  refine ⟨_, h4, hx H1 _ x1 ?_⟩
  have S1 := S.ext x1
  obtain ⟨dx, t, xs, h1, _⟩ := S1.ex
  refine ⟨pa, dx, _, rfl, h1, pa, rs, v, rfl, S1, few, hv, fun _ dd H' s hd er => hE dd H' s hd er, fun n r e hr => ?_⟩
  subst e
  have ln : n < rs.length := (List.getElem?_eq_some_iff.mp hr).1
  rw [show plc (.int (n : Int)) rs.length = (decide (0 ≤ (n : Int)) && decide ((n : Int) < (rs.length : Int))) from rfl, decide_eq_true (by omega), decide_eq_true (by omega)] at pl
  cases pl
theorem perr_of {l : List Dt} {m : Nat} {ws : List Nat} (few : l.length ≤ 12) (hw : wrongs (l.map plainD) = m :: ws) (lo : ∀ y ∈ ws, m ≤ y) :
    PErr (.lst l) (some m) ∧ (∀ o', PErr (.lst l) o' → o' = some m) ∧ ∀ l', rowD (.lst l) = some l' → ¬ (l'.length ≤ 12 ∧ wrongs (l'.map plainD) = []) := by
  refine ⟨.inr ⟨l, rfl, .inr ⟨few, m, rfl, by rw [hw]; exact List.mem_cons_self, fun y hy => ?_⟩⟩, fun o' h => ?_, fun l' e h => ?_⟩
  · rw [hw] at hy
    rcases List.mem_cons.mp hy with rfl | hy
    · exact Nat.le_refl _
    · exact lo y hy
  · rcases h with ⟨_, h⟩ | ⟨l2, e, h⟩
    · cases h
    · cases e
      rcases h with ⟨_, h⟩ | ⟨_, m2, rfl, h1, h2⟩
      · omega
      · rw [hw] at h1 h2
        have a1 := h2 m List.mem_cons_self
        rcases List.mem_cons.mp h1 with rfl | h1
        · rfl
        · have := lo m2 h1
          rw [show m2 = m by omega]
  · cases e
    rw [hw] at h
    cases h.2
theorem perr_big {l : List Dt} (big : 12 < l.length) :
    PErr (.lst l) none ∧ (∀ o', PErr (.lst l) o' → o' = none) ∧ ∀ l', rowD (.lst l) = some l' → ¬ (l'.length ≤ 12 ∧ wrongs (l'.map plainD) = []) := by
  refine ⟨.inr ⟨l, rfl, .inl ⟨rfl, big⟩⟩, fun o' h => ?_, fun l' e h => ?_⟩
  · rcases h with ⟨h, _⟩ | ⟨l2, e, h⟩
    · exact h
    · cases e
      rcases h with ⟨h, _⟩ | ⟨h, _⟩
      · exact h
      · omega
  · cases e
    omega
theorem perr_no {d : Dt} (e : rowD d = none) : PErr d none ∧ (∀ o', PErr d o' → o' = none) ∧ ∀ l', rowD d = some l' → ¬ (l'.length ≤ 12 ∧ wrongs (l'.map plainD) = []) := by
  refine ⟨.inl ⟨rfl, by rw [e]; rfl⟩, fun o' h => ?_, fun l' e2 => by rw [e] at e2; cases e2⟩
  rcases h with ⟨h, _⟩ | ⟨l2, e2, _⟩
  · exact h
  · rw [e] at e2
    cases e2
def goodD : Dt := .tup [.str "raise", .str "a", .str "b"]
theorem odd_bad : ∀ t ∈ odd1 ++ odd2 ++ odd3, (plainD t).isNone = true ∧ smD t = true ∧ hdT t = true := by decide +kernel
theorem no_bad : ∀ t ∈ no4, (rowD t).isNone = true ∧ smD t = true := by decide +kernel
section
variable {P : Program} {w : World} {K : PySem.W.Frag} {mg : Str → Option Value} {base : Heap} {CP CB CR fX fP fLR fLM fEr fLW fI fMd fWd fLn fIt fGt fEq fAd fWi f cc PP fR fPR fB cB cdB : Addr} {fdX fdP fdLR fdLM fdE fdLW fdI fdMd fdWd fdLn fdIt fdGt fdEq fdAd fdB : FuncData}
/-- a lambda given to _law_error -/
theorem LAM (TL : TxtL P K mg CP CB CR fX fP fLR fLM fEr fLW fI fMd fWd fLn fIt fGt fEq fAd fWi) (G : GsL P w K mg base CP CB fX fP fLR fLM fEr fLW fI fMd fWd fLn fIt fGt fEq fAd fWi fdX fdP fdLR fdLM fdE fdLW fdI fdMd fdWd fdLn fdIt fdGt fdEq fdAd) (TB : TabB base mg cc PP)
    {A : Around} {outer : List Env} {s : Shared} {H : Hp} {E : XK} (hr : Room 9 (A.deeper (envOfC "law" (defScope sLaw) s.heap.objs.size f (.ref cc))))
    {params : Arguments} {body : Expr} {scope : Scope} {t : XK → TE} {p lpos pos : Pos} (L : lamSB (defScope sLaw) scope = true) (hd : defaultsOf params (cxOf CX0 P w K mg base nLaw "law" (defScope sLaw) f (.ref cc) A outer s H E).env = ([], []))
    (hb : ∀ (q : Str) (cl : List (Str × Addr)) (pm cv ctv : Value), bindArgs (PySem.W.kla_fn "<lambda>" q params body scope cl pm cv ctv) ⟨[], []⟩ = pure [])
    (hbody : ∀ (A' : Around) (outer' : List Env) (s' : Shared) (H' : Hp) (E' : XK) (f' c' : Addr), Room 7 (A'.deeper (lamEnv (cxOf CX0 P w K mg base nLaw "law" (defScope sLaw) f (.ref cc) A outer s H E) scope s'.heap.objs.size f' c')) →
      PE (lamCx (cxOf CX0 P w K mg base nLaw "law" (defScope sLaw) f (.ref cc) A outer s H E) A' outer' s' H' E' scope f' c') body (t E')) :
    PE (cxOf CX0 P w K mg base nLaw "law" (defScope sLaw) f (.ref cc) A outer s H E) (.Call (.Name "_law_error" p) [.Lambda params body scope lpos] [] pos) (tLam [(PP, qLaw)] (TErr CB) t) := by
  obtain ⟨oc2, od2, kV2, doc2, pm2, an2, cdv2, ct2, osl2, rfl, lk2, hcd2⟩ := G.FE.ex
  exact pe_lamS (by rfl) TL.gE TL.kE lk2 hcd2 G.bE scError rfl (Or.inl rfl) (error_gives TL.e) TB rfl (List.mem_singleton.mpr rfl) (fun p hp _ => by rw [List.mem_singleton.mp hp]; rfl) hr (lamS_by L) hd hb hbody
theorem tail_ok (T : TxtI P K mg fR fPR CP CB fB cB cdB fdB) (TL : TxtL P K mg CP CB CR fX fP fLR fLM fEr fLW fI fMd fWd fLn fIt fGt fEq fAd fWi) (G : GsL P w K mg base CP CB fX fP fLR fLM fEr fLW fI fMd fWd fLn fIt fGt fEq fAd fWi fdX fdP fdLR fdLM fdE fdLW fdI fdMd fdWd fdLn fdIt fdGt fdEq fdAd) (TB : TabB base mg cc PP)
    {A : Around} {outer : List Env} {s : Shared} {H : Hp} {E : XK} (hr : Room 9 (A.deeper (envOfC "law" (defScope sLaw) s.heap.objs.size f (.ref cc)))) :
    ∃ t : TS, PSs (cxOf CX0 P w K mg base nLaw "law" (defScope sLaw) f (.ref cc) A outer s H E) ((defBody sLaw).drop 13) t ∧
      ∀ (D : Ends) (H0 : Hp) (d l pa : Addr) (v0 v3 v5 v6 v7 v8 v9 : Option V) (xs : List V) (rs : List Rl), Dr K H0 d → PoAt K CP H0 pa rs → Pok rs → H0 l = some (.lst xs) → l ≠ d → xs.length = rs.length → Tabs [(PP, qLaw)] H0 → (∀ H', D.rt (.bl true) H') →
        t D [v0, some (.ref d), some (.ref l), v3, some (.ref pa), v5, v6, v7, v8, v9, none, none, none, none, none, none, none] H0 := by
  refine ⟨_, (pss_cons (ps_chk hr.units (LAM TL G TB hr (t := fun E' => tOp (rOwnIx CP (spGet K CP CB) E') (tVar 4) (tCB (rLn K) (tCons (tVar 2) tNil))) (by decide +kernel) rfl (fun _ _ _ _ _ => rfl) (fun A' outer' s' H' E' f' c' hr2 => pe_ownIx (E := E') TL.gt TL.gtI TL.gtF G.Gt (hr2.mono (by decide)) G.bGt (passes_call (takes_of rfl rfl rfl rfl) fun _ _ _ _ h => h) (pv 4) (pe_callB call_len_seq (by rfl) TL.g.f.len PySem.boot_len (pa_cons (pv 2) pa_nil)))) (pe_callB call_len_seq (by rfl) TL.g.f.len PySem.boot_len (pa_cons (pv 2) pa_nil)) (nomark _))
    (pss_cons (ps_chk hr.units (LAM TL G TB hr (t := fun E' => tOp (rOwnIx CP (spGet K CP CB) E') (tVar 4) (tUn (rU fun i => .int (-i)) (tC (.int 1)))) (by decide +kernel) rfl (fun _ _ _ _ _ => rfl) (fun A' outer' s' H' E' f' c' hr2 => pe_ownIx (E := E') TL.gt TL.gtI TL.gtF G.Gt (hr2.mono (by decide)) G.bGt (passes_call (takes_of rfl rfl rfl rfl) fun _ _ _ _ h => h) (pv 4) (pe_un un_neg pe_int))) (pe_un un_neg pe_int) (nomark _))
    (pss_cons (ps_chk hr.units (LAM TL G TB hr (t := fun E' => tMeth CP "without" (spWiX K CP CB) [] E' (tVar 4) (tCons (tCB (rLn K) (tCons (tVar 2) tNil)) tNil)) (by decide +kernel) rfl (fun _ _ _ _ _ => rfl) (fun A' outer' s' H' E' f' c' hr2 => Hk.pe_methR (E := E') (pv 4) T.cl TL.mWi G.Wi (hr2.mono (by decide)) (passes_call (takes_of rfl rfl rfl rfl) fun _ _ _ _ h => h) (pa_cons (pe_callB call_len_seq (by rfl) TL.g.f.len PySem.boot_len (pa_cons (pv 2) pa_nil)) pa_nil))) (pe_callB call_len_seq (by rfl) TL.g.f.len PySem.boot_len (pa_cons (pv 2) pa_nil)) (nomark _))
    (pss_cons (ps_chk hr.units (LAM TL G TB hr (t := fun E' => tOp (rOwnIx CP (spGet K CP CB) E') (tVar 4) (tC (.str "0"))) (by decide +kernel) rfl (fun _ _ _ _ _ => rfl) (fun A' outer' s' H' E' f' c' hr2 => pe_ownIx (E := E') TL.gt TL.gtI TL.gtF G.Gt (hr2.mono (by decide)) G.bGt (passes_call (takes_of rfl rfl rfl rfl) fun _ _ _ _ h => h) (pv 4) (pe_str))) pe_str (nomark _))
    (pss_cons (ps_set (i := 10) scLaw.nd rfl (Or.inr rfl) (pe_tup (pa_cons pe_str (pa_cons pe_str (pa_cons pe_str pa_nil)))))
    (pss_cons (ps_set (i := 11) scLaw.nd rfl (Or.inl rfl) (show PE _ _ (teD (.lst odd1)) from pe_lst (pa_cons (pe_non) (pa_cons (pe_str) (pa_cons (pe_tup (pa_cons (pe_str) pa_nil)) (pa_cons (pe_tup (pa_cons (pe_str) (pa_cons (pe_str) pa_nil))) (pa_cons (pe_tup (pa_cons (pe_str) (pa_cons (pe_str) (pa_cons (pe_str) pa_nil)))) (pa_cons (pe_tup (pa_cons (pe_str) (pa_cons (pe_str) (pa_cons (pe_str) (pa_cons (pe_str) pa_nil))))) (pa_cons (pe_tup (pa_cons (pe_str) (pa_cons (pe_str) (pa_cons (pe_str) pa_nil)))) pa_nil)))))))))
    (pss_cons (ps_set (i := 11) scLaw.nd rfl (Or.inl rfl) (pe_op op_cat (pv 11) (show PE _ _ (teD (.lst odd2)) from pe_lst (pa_cons (pe_tup (pa_cons (pe_str) (pa_cons (pe_str) (pa_cons (pe_tup (pa_nil)) pa_nil)))) (pa_cons (pe_tup (pa_cons (pe_str) (pa_cons (pe_str) (pa_cons (pe_lst (pa_cons (pe_tup (pa_cons (pe_str) (pa_cons (pe_str) pa_nil))) (pa_cons (pe_tup (pa_cons (pe_str) (pa_cons (pe_str) pa_nil))) pa_nil))) pa_nil)))) (pa_cons (pe_tup (pa_cons (pe_str) (pa_cons (pe_str) (pa_cons (pe_lst (pa_cons (pe_tup (pa_cons (pe_str) pa_nil)) pa_nil)) pa_nil)))) (pa_cons (pe_tup (pa_cons (pe_str) (pa_cons (pe_str) (pa_cons (pe_lst (pa_cons (pe_lst (pa_cons (pe_str) (pa_cons (pe_str) pa_nil))) pa_nil)) pa_nil)))) pa_nil)))))))
    (pss_cons (ps_set (i := 11) scLaw.nd rfl (Or.inl rfl) (pe_op op_cat (pv 11) (show PE _ _ (teD (.lst odd3)) from pe_lst (pa_cons (pe_tup (pa_cons (pe_str) (pa_cons (pe_int) (pa_cons (pe_lst (pa_cons (pe_tup (pa_cons (pe_str) (pa_cons (pe_str) pa_nil))) pa_nil)) pa_nil)))) (pa_cons (pe_tup (pa_cons (pe_str) (pa_cons (pe_tup (pa_nil)) pa_nil))) (pa_cons (pe_tup (pa_cons (pe_str) (pa_cons (pe_lst (pa_cons (pe_str) (pa_cons (pe_str) pa_nil))) pa_nil))) (pa_cons (pe_tup (pa_cons (pe_str) (pa_cons (pe_str) pa_nil))) (pa_cons (pe_tup (pa_cons (pe_str) (pa_cons (pe_str) (pa_cons (pe_str) pa_nil)))) (pa_cons (pe_lst (pa_cons (pe_str) (pa_cons (pe_str) (pa_cons (pe_str) pa_nil)))) pa_nil)))))))))
    (pss_cons (ps_set (i := 12) scLaw.nd rfl (Or.inr rfl) (pe_call G.Pk (hr.mono (by decide)) (by rfl) TL.gP TL.kP G.bPk .nil pass0 (pa_cons (pv 1) (pa_cons (pv 11) pa_nil))))
    (pss_cons (ps_chk hr.units (LAM TL G TB hr (t := fun E' => tMake CP (spInit K CP CB) [] E' (tCons (tLst (tCons (tVar 10) (tCons (tVar 12) (tCons (tC (.int 7)) tNil)))) tNil)) (by decide +kernel) rfl (fun _ _ _ _ _ => rfl) (fun A' outer' s' H' E' f' c' hr2 => pe_make (E := E') TL.made G.I (hr2.mono (by decide)) (by rfl) T.gP G.bI .nil (passes_call (takes_of rfl rfl rfl rfl) fun _ _ _ _ h => h) (pa_cons (pe_lst (pa_cons (pv 10) (pa_cons (pv 12) (pa_cons pe_int pa_nil)))) pa_nil))) pe_int (nomark _))
    (pss_cons (ps_chk hr.units (LAM TL G TB hr (t := fun E' => tMake CP (spInit K CP CB) [] E' (tCons (tLst (tCons (tTup (tCons (tC (.str "make")) (tCons (tLst (tCons (tC (.str "a")) tNil)) tNil))) (tCons (tVar 10) (tCons (tTup (tCons (tC (.str "make")) (tCons (tLst (tCons (tC (.str "b")) tNil)) tNil))) tNil)))) tNil)) (by decide +kernel) rfl (fun _ _ _ _ _ => rfl) (fun A' outer' s' H' E' f' c' hr2 => pe_make (E := E') TL.made G.I (hr2.mono (by decide)) (by rfl) T.gP G.bI .nil (passes_call (takes_of rfl rfl rfl rfl) fun _ _ _ _ h => h) (pa_cons (pe_lst (pa_cons (pe_tup (pa_cons pe_str (pa_cons (pe_lst (pa_cons pe_str pa_nil)) pa_nil))) (pa_cons (pv 10) (pa_cons (pe_tup (pa_cons pe_str (pa_cons (pe_lst (pa_cons pe_str pa_nil)) pa_nil))) pa_nil)))) pa_nil))) pe_int (nomark _))
    (pss_cons (ps_chk hr.units (LAM TL G TB hr (t := fun E' => tMake CP (spInit K CP CB) [] E' (tCons (tOp rRep (tLst (tCons (tVar 10) tNil)) (tC (.int 13))) tNil)) (by decide +kernel) rfl (fun _ _ _ _ _ => rfl) (fun A' outer' s' H' E' f' c' hr2 => pe_make (E := E') TL.made G.I (hr2.mono (by decide)) (by rfl) T.gP G.bI .nil (passes_call (takes_of rfl rfl rfl rfl) fun _ _ _ _ h => h) (pa_cons (pe_op op_rep (pe_lst (pa_cons (pv 10) pa_nil)) pe_int) pa_nil))) pe_non (nomark _))
    (pss_cons (ps_if (pt_cmpR (op_neP hr.units) (LAM TL G TB hr (t := fun E' => tMake CP (spInit K CP CB) [] E' (tCons (tCall (spPick K) [] E0 (tCons (tVar 1) (tCons (teD (.lst no4)) tNil))) tNil)) (by decide +kernel) rfl (fun _ _ _ _ _ => rfl) (fun A' outer' s' H' E' f' c' hr2 => pe_make (E := E') TL.made G.I (hr2.mono (by decide)) (by rfl) T.gP G.bI .nil (passes_call (takes_of rfl rfl rfl rfl) fun _ _ _ _ h => h) (pa_cons (pe_call G.Pk (hr2.mono (by decide)) (by rfl) TL.gP TL.kP G.bPk .nil pass0 (pa_cons (pv 1) (pa_cons (pe_lst (pa_cons (pe_int) (pa_cons (pe_non) (pa_cons (pe_str) (pa_cons (pe_dnewK) pa_nil))))) pa_nil))) pa_nil))) (pe_lst (pa_cons pe_non pa_nil)) (nomark _)) (pss_one (ps_ret pe_bl)) pss_nil)
    (pss_cons (ps_set (i := 13) scLaw.nd rfl (Or.inr rfl) (pe_lc (own := [("letter", 16)]) (g := gName 16) (tt := tYes) (te := tTup (tCons (tC (.str "a")) (tCons (tVar 16) tNil))) rfl scLaw.nd (pi_str pe_str) (blkOk_by (N := nLaw) (sc := defScope sLaw) (by decide +kernel)) (fun _ _ _ _ _ => pg_name (i := 16) scLaw.nd rfl (Or.inl rfl)) (fun _ _ _ _ _ => pts_nil) (fun _ _ _ _ _ => pe_tup (pa_cons pe_str (pa_cons (pv 16) pa_nil)))))
    (pss_cons (ps_chk hr.units (LAM TL G TB hr (t := fun E' => tMake CP (spInit K CP CB) [] E' (tCons (tLst (tCons (tTup (tCons (tC (.str "fetch")) (tCons (tC (.str "a")) (tCons (tVar 13) tNil)))) tNil)) tNil)) (by decide +kernel) rfl (fun _ _ _ _ _ => rfl) (fun A' outer' s' H' E' f' c' hr2 => pe_make (E := E') TL.made G.I (hr2.mono (by decide)) (by rfl) T.gP G.bI .nil (passes_call (takes_of rfl rfl rfl rfl) fun _ _ _ _ h => h) (pa_cons (pe_lst (pa_cons (pe_tup (pa_cons pe_str (pa_cons pe_str (pa_cons (pv 13) pa_nil)))) pa_nil)) pa_nil))) pe_int (nomark _))
    (pss_one (ps_ret (pe_and (pe_cmpR (op_eqP hr.units) (LAM TL G TB hr (t := fun E' => tMake CP (spInit K CP CB) [] E' (tCons (tLst (tCons (tTup (tCons (tC (.str "hand")) (tCons (tC (.str "a")) (tCons (tSl (rSlL K) (tVar 13) (tPart (tC (.int 1))) tNoPart) tNil)))) tNil)) tNil)) (by decide +kernel) rfl (fun _ _ _ _ _ => rfl) (fun A' outer' s' H' E' f' c' hr2 => pe_make (E := E') TL.made G.I (hr2.mono (by decide)) (by rfl) T.gP G.bI .nil (passes_call (takes_of rfl rfl rfl rfl) fun _ _ _ _ h => h) (pa_cons (pe_lst (pa_cons (pe_tup (pa_cons pe_str (pa_cons pe_str (pa_cons (pe_slice sl_list (pv 13) (po_some pe_int) po_none) pa_nil)))) pa_nil)) pa_nil))) (pe_lst pa_nil) (nomark _)) (pe_one (pe_cmpR op_eq (pe_callB (call_ownLen (E := E0) TL.ln TL.lnF G.Ln (hr.mono (by decide)) G.bLn pass0) (by rfl) TL.g.f.len (by decide +kernel) (pa_cons (pe_make (E := E0) TL.made G.I (hr.mono (by decide)) (by rfl) T.gP G.bI .nil passL (pa_cons (pe_op op_rep (pe_lst (pa_cons (pv 10) pa_nil)) pe_int) pa_nil)) pa_nil)) pe_int (nomark _))))))))))))))))))))), ?_⟩
  intro D H0 d l pa v0 v3 v5 v6 v7 v8 v9 xs rs D0 S0 ok0 hl0 nld lxs T0 q
  have few0 : rs.length < 1000 := by have := ok0.few; omega
  have nt : ∀ {o : HO} (h : ∀ ps, o ≠ .tbl ps), ∀ ps, o ≠ .tbl ps := fun h => h
  have plcN : plc (.int (rs.length : Int)) rs.length = false := by
    show (decide (0 ≤ (rs.length : Int)) && decide ((rs.length : Int) < (rs.length : Int))) = false
    rw [decide_eq_false (by omega : ¬ (rs.length : Int) < (rs.length : Int)), Bool.and_false]
  -- len(rules)
  have len : ∀ {Ha : Hp} (K' : PySem.W.Frag), K' = K → ∀ {σ : L2.St}, σ[2]? = some (some (.ref l)) → Ha l = some (.lst xs) → ∀ H1 (Q : VK), ExtN Ha H1 → Q (.int rs.length) H1 → tCB (rLn K') (tCons (tVar 2) tNil) σ H1 Q := fun {Ha} K' e {σ} h2 hl H1 Q x qq => by
    subst e
    refine ⟨_, h2, l, xs, rfl, .inl (SqL.of (x _ _ hl (fun _ z => nomatch z))), ?_⟩
    rw [lxs]
    exact qq
  refine ⟨T0, .int rs.length, .int rs.length, .int _, refs_get rfl S0 few0 (.inl ⟨_, rfl⟩) plcN (len K rfl rfl hl0), len _ rfl rfl hl0, fun H1 x1 T1 => ?_⟩
  have S1 := S0.ext x1
  have D1 := D0.ext x1
  have hl1 := x1 _ _ hl0 (fun _ z => nomatch z)
  refine ⟨T1, .int (-1), .int (-1), .int _, refs_get rfl S1 few0 (.inl ⟨_, rfl⟩) rfl (fun H2 Q x qq => ⟨_, rfl, qq⟩), (fun H2 Q x qq => ⟨_, rfl, qq⟩), fun H2 x2 T2 => ?_⟩
  have S2 := S1.ext x2
  have D2 := D1.ext x2
  have hl2 := x2 _ _ hl1 (fun _ z => nomatch z)
  refine ⟨T2, .int rs.length, .int rs.length, .int _, ?_, len _ rfl rfl hl2, fun H3 x3 T3 => ?_⟩
  · intro Ha xa Ea hE Q'
    have Sa := S2.ext xa
    obtain ⟨dx, tt, ys, h1, _⟩ := Sa.ex
    refine ⟨_, rfl, pa, dx, _, rfl, h1, flds_no _ (by decide +kernel), len K rfl rfl hl2 Ha _ xa ⟨[.ref pa], [.int rs.length], rfl, rfl, by show 1 ≤ sizeLine; decide, fun p hp => ?_⟩⟩
    have sp := Same.fresh (o := .tup [.int (rs.length : Int)]) (Same.refl Ha) hp
    refine ⟨pa, p, rs, [(rs.length : Int)], rfl, Sa.same sp, ok0, upd_same, by show 1 < 1000; decide, fun n hn _ dd H' s hd er => ?_, fun all => ?_⟩
    · rw [List.mem_singleton] at hn
      subst hn
      exact hE dd H' (sp.trans s) (Same.no sp hd) er
    · have := all _ (List.mem_singleton.mpr rfl)
      rw [plcN] at this
      cases this
  have S3 := S2.ext x3
  have D3 := D2.ext x3
  have hl3 := x3 _ _ hl2 (fun _ z => nomatch z)
  refine ⟨T3, .str "0", .str "0", .str _, refs_get rfl S3 few0 (.inr ⟨_, rfl⟩) rfl (fun H4 Q x qq => qq), (fun H4 Q x qq => qq), fun H4 x4 T4 => ?_⟩
  have D4 := D3.ext x4
  clear S0 S1 S2 S3 D0 D1 D2 D3 T0 T1 T2 T3 hl0 hl1 hl2 hl3 x1 x2 x3 x4 len
  -- good
  try dsimp only
  refine seq_set ?_
  refine ⟨by show 3 ≤ sizeLine; decide, fun g hg => ?_⟩
  have s5 := Same.fresh (o := .tup [.str "raise", .str "a", .str "b"]) (Same.refl H4) hg
  have hg5 : upd H4 g (.tup [.str "raise", .str "a", .str "b"]) g = some (.tup [.str "raise", .str "a", .str "b"]) := upd_same
  have D5 := D4.same s5
  have T5 := Tabs.same T4 s5
  generalize upd H4 g (.tup [.str "raise", .str "a", .str "b"]) = H5 at s5 hg5 D5 T5
  clear s5 hg D4 T4
  obtain ⟨hdd, hd5⟩ : ∃ o, H5 d = some o := let ⟨_, _, _, h, _⟩ := D5; ⟨_, h⟩
  have ng : g ≠ d := by
    obtain ⟨_, _, _, h, _⟩ := D5
    intro z
    rw [z, h] at hg5
    cases hg5
  -- odd
  try dsimp only
  refine seq_set ?_
  refine lstD_readT (K := K) (d := d) (l := odd1) (by decide +kernel) (by decide) hd5 fun p6 vs6 H6 s6 n6 hp6 da6 => ?_
  try dsimp only
  refine seq_set ?_
  refine cat_read (K := K) (d := d) (l := odd1) (m := odd2) (by decide +kernel) (by decide) (by decide) rfl hp6 da6 (s6 _ _ hd5) fun p7 vs7 H7 s7 n7 hp7 da7 => ?_
  try dsimp only
  refine seq_set ?_
  refine cat_read (K := K) (d := d) (l := odd1 ++ odd2) (m := odd3) (by decide +kernel) (by decide) (by decide) rfl hp7 da7 (s7 _ _ (s6 _ _ hd5)) fun p8 vs8 H8 s8 n8 hp8 da8 => ?_
  have s58 := s6.trans (s7.trans s8)
  have T8 := Tabs.same T5 s58
  have D8 := D5.same s58
  have hg8 := s58 _ _ hg5
  clear s58 s6 s7 s8 da6 da7 hp6 hp7 n6 n7 T5 D5 hg5 hd5 hdd
  try dsimp only
  refine seq_set ?_
  refine ⟨_, rfl, _, rfl, d, p8, vs8, rfl, D8, n8, .inl (SqL.of hp8), (fun z => by subst z; cases da8), fun ov H9 ho b9 D9 g9 => ?_⟩
  obtain ⟨to, hto, do0⟩ := da8.mem ho
  have do1 : Da K H9 ov to := Da.same ((less_but b9).trans less_same) do0
  obtain ⟨bad1, bad2, bad3⟩ := odd_bad to hto
  have hg9 := b9 _ _ ng hg8
  have T9 : Tabs [(PP, qLaw)] H9 := Tabs.but D8 T8 b9
  have daG : Da K H9 (.ref g) goodD := .tup hg9 (.cons (.str _ (by decide)) (.cons (.str _ (by decide)) (.cons (.str _ (by decide)) .nil)))
  have plG : plainD goodD = some (.rs "a" "b") := plain_rs (by decide +kernel) (by decide +kernel)
  have plO : plainD to = none := Option.isNone_iff_eq_none.mp bad1
  clear da8 ho do0 hp8 hg8 T8 D8 b9 g9 n8 hto
  obtain ⟨q1, q2, q3⟩ := perr_of (l := [goodD, to, .int 7]) (m := 1) (ws := [2]) (by show 3 ≤ 12; decide) (by rw [List.map_cons, List.map_cons, List.map_cons, plG, plO]; decide +kernel) (by decide)
  refine ⟨T9, .int 1, .int 1, .int _, refs_make (o := some 1) q1 q2 q3 ?_ ?_ (fun H1 x1 R hR => ⟨_, rfl, _, rfl, by show 3 ≤ sizeLine; decide, fun p hp => hR _ _ (Same.fresh (Same.refl _) hp) (.lst (SqL.of upd_same) (.cons ((daG.ext x1).same (Same.fresh (Same.refl _) hp)) (.cons ((do1.ext x1).same (Same.fresh (Same.refl _) hp)) (.cons (.int 7) .nil))))⟩), (fun H1 Q x qq => qq), fun H10 x10 T10 => ?_⟩
  · show (decide (3 < 60) && (smD goodD && (smD to && (true && true)))) = true
    rw [bad2]
    rfl
  · intro x hx
    rcases List.mem_cons.mp hx with rfl | hx
    · rfl
    rcases List.mem_cons.mp hx with rfl | hx
    · exact bad3
    rw [List.mem_singleton] at hx
    subst hx
    rfl
  have da10 := daG.ext x10
  have hg10 := x10 _ _ hg9 (fun _ z => nomatch z)
  have pm : ∀ x : Str, (x = "a" ∨ x = "b") → plainD (.tup [.str "make", .lst [.str x]]) = some (.mk ([x].mergeSort leT)) := fun x hx => plain_mk (ws := [x]) rfl (by intro y hy; rw [List.mem_singleton] at hy; subst hy; rcases hx with rfl | rfl <;> decide +kernel) (by simp) (by show 1 ≤ 1; decide) (by show 1 ≤ 9; decide)
  obtain ⟨q4, q5, q6⟩ := perr_of (l := [.tup [.str "make", .lst [.str "a"]], goodD, .tup [.str "make", .lst [.str "b"]]]) (m := 2) (ws := []) (by show 3 ≤ 12; decide) (by rw [List.map_cons, List.map_cons, List.map_cons, plG, pm _ (.inl rfl), pm _ (.inr rfl)]; decide +kernel) (fun y hy => nomatch hy)
  refine ⟨T10, .int 2, .int 2, .int _, refs_make (o := some 2) q4 q5 q6 (by decide +kernel) (by decide +kernel) (fun H1 x1 R hR => ?_), (fun H1 Q x qq => qq), fun H11 x11 T11 => ?_⟩
  · refine ⟨by show 1 ≤ sizeLine; decide, fun p1 hp1 => ⟨by show 2 ≤ sizeLine; decide, fun p2 hp2 => ⟨_, rfl, by show 1 ≤ sizeLine; decide, fun p3 hp3 => ⟨by show 2 ≤ sizeLine; decide, fun p4 hp4 => ⟨by show 3 ≤ sizeLine; decide, fun p5 hp5 => ?_⟩⟩⟩⟩⟩
    have z1 := Same.fresh (o := .lst [.str "a"]) (Same.refl H1) hp1
    have z2 := Same.fresh (o := .tup [.str "make", .ref p1]) (Same.refl (upd H1 p1 (.lst [.str "a"]))) hp2
    have z3 := Same.fresh (o := .lst [.str "b"]) (Same.refl (upd (upd H1 p1 (.lst [.str "a"])) p2 (.tup [.str "make", .ref p1]))) hp3
    have z4 := Same.fresh (o := .tup [.str "make", .ref p3]) (Same.refl (upd (upd (upd H1 p1 (.lst [.str "a"])) p2 (.tup [.str "make", .ref p1])) p3 (.lst [.str "b"]))) hp4
    have z5 := Same.fresh (o := .lst [.ref p2, .ref g, .ref p4]) (Same.refl (upd (upd (upd (upd H1 p1 (.lst [.str "a"])) p2 (.tup [.str "make", .ref p1])) p3 (.lst [.str "b"])) p4 (.tup [.str "make", .ref p3]))) hp5
    have z25 := z3.trans (z4.trans z5)
    refine hR _ _ (z1.trans (z2.trans z25)) (.lst (SqL.of upd_same) (.cons (.tup (z25 _ _ upd_same) (.cons (.str _ (by decide)) (.cons (.lst (SqL.of ((z2.trans z25) _ _ upd_same)) (.cons (.str _ (by decide)) .nil)) .nil))) (.cons ((da10.ext x1).same (z1.trans (z2.trans z25))) (.cons (.tup (z5 _ _ upd_same) (.cons (.str _ (by decide)) (.cons (.lst (SqL.of ((z4.trans z5) _ _ upd_same)) (.cons (.str _ (by decide)) .nil)) .nil))) .nil))))
  -- thirteen rules
  have da11 := da10.ext x11
  have hg11 := x11 _ _ hg10 (fun _ z => nomatch z)
  obtain ⟨q7, q8, q9⟩ := perr_big (l := List.replicate 13 goodD) (by decide)
  refine ⟨T11, .non, .none, .non, refs_make (o := none) q7 q8 q9 (by decide +kernel) (by decide +kernel) (fun H1 x1 R hR => ?_), (fun H1 Q x qq => qq), fun H12 x12 T12 => ?_⟩
  · refine ⟨_, rfl, by show 1 ≤ sizeLine; decide, fun p1 hp1 => ⟨p1, 13, [.ref g], rfl, rfl, upd_same, by decide, by decide, by rw [sizeLine_eq]; show 1 * 13 ≤ 16777216; decide, fun p2 hp2 => ?_⟩⟩
    have z1 := Same.fresh (o := .lst [.ref g]) (Same.refl H1) hp1
    have z2 := Same.fresh (o := .lst (List.replicate (13 : Int).toNat [V.ref g]).flatten) z1 hp2
    have dg := (da11.ext x1).same z2
    exact hR _ _ z2 (.lst (SqL.of upd_same) (.cons dg (.cons dg (.cons dg (.cons dg (.cons dg (.cons dg (.cons dg (.cons dg (.cons dg (.cons dg (.cons dg (.cons dg (.cons dg .nil))))))))))))))
  have da12 := da11.ext x12
  have hg12 := x12 _ _ hg11 (fun _ z => nomatch z)
  -- no list
  have D12 : Dr K H12 d := ((D9.ext x10).ext x11).ext x12
  try dsimp only
  have next : ∀ H13, But d H12 H13 ∨ (∃ Hm, ExtN H12 Hm ∧ But d Hm H13) → True := fun _ _ => trivial
  clear next
  refine ⟨T12, fun H1 x1 T1 p hp Q' _ => ?_⟩
  have s0 : Same H1 (upd H1 p (.lst [])) := Same.fresh (Same.refl _) hp
  have Da1 := (D12.ext x1)
  have Da1' := Da1.same s0
  obtain ⟨hd1o, hd1⟩ : ∃ o, H1 d = some o := let ⟨_, _, _, h, _⟩ := Da1; ⟨_, h⟩
  have pd : p ≠ d := ne_of_none' hp hd1
  have hg1 := x1 _ _ hg12 (fun _ z => nomatch z)
  refine ⟨_, rfl, lstD_readT (K := K) (d := d) (l := no4) (by decide +kernel) (by decide) (s0 _ _ hd1) fun p2 vs2 H2 s2 n2 hp2 da2 => ⟨d, p2, vs2, rfl, Da1'.same s2, n2, .inl (SqL.of hp2), (fun z => by subst z; cases da2), fun ov H3 ho b3 D3 g3 => ?_⟩⟩
  obtain ⟨to, hto, do0⟩ := da2.mem ho
  have do3 : Da K H3 ov to := Da.same ((less_but b3).trans less_same) do0
  obtain ⟨bad1, bad2⟩ := no_bad to hto
  have rno : rowD to = none := Option.isNone_iff_eq_none.mp bad1
  intro x dx hx hdx ne
  have sm : Same H3 (upd (upd H3 dx (.own x)) x (.ins CP dx [])) := fun b o e => by
    rw [upd_ne (ne_of_none e hx), upd_ne (ne_of_none e hdx)]
    exact e
  refine ⟨x, dx, ov, to, rfl, upd_same, Da.same sm do3, bad2, fun y hy => ?_, fun e he dd H' sH hdd er => ?_, fun l el => by rw [rno] at el; cases el⟩
  · unfold lD at hy
    rw [rno] at hy
    cases hy
  rw [(perr_no rno).2.1 e he] at er
  have hp' : H' p = some (.lst []) := sH _ _ (sm _ _ (b3 _ _ pd (s2 _ _ upd_same)))
  have b1' : But d H1 H' := ((But.of (s0.trans s2)).trans b3).trans (But.of (sm.trans sH))
  refine ⟨dd, .non, rfl, hp', rfl, er, fun H4 b4 hl4 => ⟨by show 1 ≤ sizeLine; decide, fun q2 hq2 => ?_⟩⟩
  have s5 := Same.fresh (o := .lst [.non]) (Same.refl H4) hq2
  have b15 : But d H1 (upd H4 q2 (.lst [.non])) := fun c o n e => s5 _ _ (b4 c o (ne_of_none e hp) (b1' c o n e))
  have T15 : Tabs [(PP, qLaw)] (upd H4 q2 (.lst [.non])) := Tabs.but Da1 T1 b15
  have hg15 := b15 _ _ ng hg1
  refine ⟨.list [.none], .list [.none], .lst (SqL.of (s5 _ _ hl4)) (.cons .non .nil), .lst (SqL.of upd_same) (.cons .non .nil), rfl, rfl, by show 1 ≤ 60; decide, false, rfl, iteF ?_⟩
  generalize upd H4 q2 (.lst [.non]) = H13 at T15 hg15
  clear b15 s5 b4 hl4 hq2 b1' hp' er he hdd sH sm ne hdx hx rno bad1 bad2 do3 do0 hto D3 g3 b3 ho hp2 n2 s2 da2 hg1 hd1 pd Da1' Da1 s0 hp T1 x1 T12 D12 hg12 da12
  -- pairs
  dsimp only [tNext]
  refine seq_set ?_
  refine ⟨_, rfl, fun D0 hD0 => lc_it (walk_str (z := abcJ)) (fun i H' => But D0 H13 H' ∧ ∃ acc, H' D0 = some (.lst acc) ∧ DaAll K (less D0 H') acc (ltD.take i)) ⟨But.upd But.rfl', [], upd_same, .nil⟩ (fun _ _ _ _ => True.intro) ?_ ?_⟩
  · rintro i x Ha Hb hi ⟨b, acc, e, da⟩ ⟨rfl, c, ec, rfl⟩
    refine ⟨rfl, ?_⟩
    dsimp only [tYes]
    rw [if_pos rfl]
    have el : ltD[i]? = some (.tup [.str "a", .str (⟨#[c]⟩ : Str)]) := by
      unfold ltD
      rw [List.getElem?_map, Array.getElem?_toList, ec]
      rfl
    have la : acc.length ≤ 10 := by
      have := da.len
      rw [List.length_take, ltD_len] at this
      omega
    refine ⟨_, rfl, by show 2 ≤ sizeLine; decide, fun t ht => ?_⟩
    have st := Same.fresh (o := .tup [.str "a", .str (⟨#[c]⟩ : Str)]) (Same.refl Hb) ht
    have nt : t ≠ D0 := fun z => by rw [z, e] at ht; cases ht
    refine ⟨acc, st _ _ e, by rw [sizeLine_eq]; omega, But.upd (b.trans (But.of st)), _, upd_same, ?_⟩
    rw [List.take_succ, el]
    have sl : Same (less D0 (upd Hb t (.tup [.str "a", .str (⟨#[c]⟩ : Str)]))) (less D0 (upd (upd Hb t (.tup [.str "a", .str (⟨#[c]⟩ : Str)])) D0 (.lst (acc ++ [.ref t])))) := less_but (But.upd But.rfl')
    refine DaAll.app (DaAll.same ((less_mono st).trans sl) da) (.cons (.tup (sl _ _ (by rw [less_ne nt, upd_same])) (.cons (.str _ (by decide)) (.cons (.str _ (by show 1 ≤ 1000; decide)) .nil))) .nil)
  rintro H14 ⟨b14, acc, e14, da14⟩
  have s14 : Same H13 H14 := fun c o e => b14 c o (ne_of_none e hD0) e
  rw [List.take_of_length_le (by rw [ltD_len, abcJ_len]; exact Nat.le_refl _)] at da14
  have da14' := DaAll.same less_same da14
  have T14 := Tabs.same T15 s14
  have hg14 := s14 _ _ hg15
  clear b14 da14 s14 T15 hg15 hD0
  obtain ⟨r1, r2, r3⟩ := perr_of (l := [.tup [.str "fetch", .str "a", .lst ltD]]) (m := 0) (ws := []) (by show 1 ≤ 12; decide) lt_bad (fun y hy => nomatch hy)
  refine ⟨T14, .int 0, .int 0, .int _, refs_make (o := some 0) r1 r2 r3 lt_sm.1 (fun x hx => ?_) (fun H1 x1 R hR => ?_), (fun H1 Q x qq => qq), fun H15 x15 T15 => ?_⟩
  · rw [show lD (.lst [Dt.tup [.str "fetch", .str "a", .lst ltD]]) = [Dt.tup [.str "fetch", .str "a", .lst ltD]] from rfl, List.mem_singleton] at hx
    subst hx
    rfl
  · refine ⟨_, rfl, by show 3 ≤ sizeLine; decide, fun p1 hp1 => ⟨by show 1 ≤ sizeLine; decide, fun p2 hp2 => ?_⟩⟩
    have z1 := Same.fresh (o := .tup [.str "fetch", .str "a", .ref D0]) (Same.refl H1) hp1
    have z2 := Same.fresh (o := .lst [.ref p1]) (Same.refl (upd H1 p1 (.tup [.str "fetch", .str "a", .ref D0]))) hp2
    exact hR _ _ (z1.trans z2) (.lst (SqL.of upd_same) (.cons (.tup (z2 _ _ upd_same) (.cons (.str _ (by decide)) (.cons (.str _ (by decide)) (.cons (.lst (SqL.of ((z1.trans z2) _ _ (x1 _ _ e14 (fun _ z => nomatch z)))) ((da14'.ext x1).same (z1.trans z2))) .nil)))) .nil))
  -- the end
  have e15 := x15 _ _ e14 (fun _ z => nomatch z)
  have da15 := da14'.ext x15
  have hg15 := x15 _ _ hg14 (fun _ z => nomatch z)
  clear da14' e14 hg14 T14
  try dsimp only
  refine ⟨T15, fun H1 x1 T1 p hp Q' hQ => ?_⟩
  have s0 : Same H1 (upd H1 p (.lst [])) := Same.fresh (Same.refl _) hp
  have z0 := fun (b : Addr) (o : HO) (e : H15 b = some o) (n : ∀ ps, o ≠ .tbl ps) => s0 _ _ (x1 _ _ e n)
  refine ⟨_, rfl, _, rfl, D0, acc, rfl, SqL.of (z0 _ _ e15 (fun _ z => nomatch z)), fun p2 hp2 => ?_⟩
  rw [cut1]
  refine ⟨by show 3 ≤ sizeLine; decide, fun p3 hp3 => ⟨by show 1 ≤ sizeLine; decide, fun p4 hp4 => ?_⟩⟩
  have z2 := Same.fresh (o := .lst (acc.drop 1)) (Same.refl (upd H1 p (.lst []))) hp2
  have z3 := Same.fresh (o := .tup [.str "hand", .str "a", .ref p2]) (Same.refl (upd (upd H1 p (.lst [])) p2 (.lst (acc.drop 1)))) hp3
  have z4 := Same.fresh (o := .lst [.ref p3]) (Same.refl (upd (upd (upd H1 p (.lst [])) p2 (.lst (acc.drop 1))) p3 (.tup [.str "hand", .str "a", .ref p2]))) hp4
  have dd : DaAll K H1 acc ltD := da15.ext x1
  have ddr : DaAll K H1 (acc.drop 1) (ltD.drop 1) := by
    cases dd with
    | cons _ t => exact t
  have daL : Da K _ (.ref p4) (.lst [Dt.tup [.str "hand", .str "a", .lst (ltD.drop 1)]]) := .lst (SqL.of upd_same) (.cons (.tup (z4 _ _ upd_same) (.cons (.str _ (by decide)) (.cons (.str _ (by decide)) (.cons (.lst (SqL.of ((z3.trans z4) _ _ upd_same)) (ddr.same (s0.trans (z2.trans (z3.trans z4))))) .nil)))) .nil)
  have z24 := z2.trans (z3.trans z4)
  intro x dx hx hdx ne
  have sm : ∀ b o, upd (upd (upd (upd H1 p (.lst [])) p2 (.lst (acc.drop 1))) p3 (.tup [.str "hand", .str "a", .ref p2])) p4 (.lst [.ref p3]) b = some o → upd (upd (upd (upd (upd (upd H1 p (.lst [])) p2 (.lst (acc.drop 1))) p3 (.tup [.str "hand", .str "a", .ref p2])) p4 (.lst [.ref p3])) dx (.own x)) x (.ins CP dx []) b = some o := fun b o e => by
    rw [upd_ne (ne_of_none e hx), upd_ne (ne_of_none e hdx)]
    exact e
  refine ⟨x, dx, .ref p4, _, rfl, upd_same, Da.same sm daL, lt_sm.2, fun y hy => ?_, fun o ho => absurd ho (noErr rfl (by show 1 ≤ 12; decide) lt_good o), fun l el lf wr H' b S => ⟨rfl, ?_⟩⟩
  · rw [show lD (.lst [Dt.tup [.str "hand", .str "a", .lst (ltD.drop 1)]]) = [Dt.tup [.str "hand", .str "a", .lst (ltD.drop 1)]] from rfl, List.mem_singleton] at hy
    subst hy
    rfl
  have sF : Same (upd H1 p (.lst [])) H' := fun c o e => b _ _ (ne_of_none (z24 _ _ e) hx) (sm _ _ (z24 _ _ e))
  have hp' : H' p = some (.lst []) := sF _ _ upd_same
  have hgF := sF _ _ (z0 _ _ hg15 (fun _ z => nomatch z))
  refine hQ _ _ hp' ⟨by show 0 ≤ sizeLine; decide, fun q2 hq2 => ?_⟩
  have s5 := Same.fresh (o := .lst []) (Same.refl H') hq2
  refine ⟨.list [], .list [], .lst (SqL.of (s5 _ _ hp')) .nil, .lst (SqL.of upd_same) .nil, rfl, rfl, by show 1 ≤ 60; decide, true, rfl, iteT ?_⟩
  have hgZ := s5 _ _ hgF
  generalize upd H' q2 (.lst []) = HZ at hgZ
  refine ⟨_, rfl, by show 1 ≤ sizeLine; decide, fun u1 hu1 => ⟨u1, 12, [.ref g], rfl, rfl, upd_same, by decide, by decide, by rw [sizeLine_eq]; show 1 * 12 ≤ 16777216; decide, fun u2 hu2 => ?_⟩⟩
  have y1 := Same.fresh (o := .lst [.ref g]) (Same.refl HZ) hu1
  have y2 := Same.fresh (o := .lst (List.replicate (12 : Int).toNat [V.ref g]).flatten) y1 hu2
  have hgY := y2 _ _ hgZ
  have rg : Rok (.rs "a" "b") := rok_rs (by decide +kernel) (by decide +kernel)
  have dg : Da K (upd (upd HZ u1 (.lst [.ref g])) u2 (.lst (List.replicate (12 : Int).toNat [V.ref g]).flatten)) (.ref g) (dtL (.rs "a" "b")) := .tup hgY (.cons (.str _ (by decide)) (.cons (.str _ (by decide)) (.cons (.str _ (by decide)) .nil)))
  have hL : Da K (upd (upd HZ u1 (.lst [.ref g])) u2 (.lst (List.replicate (12 : Int).toNat [V.ref g]).flatten)) (.ref u2) (.lst ((List.replicate 12 (Rl.rs "a" "b")).map dtL)) := .lst (SqL.of upd_same) (.cons dg (.cons dg (.cons dg (.cons dg (.cons dg (.cons dg (.cons dg (.cons dg (.cons dg (.cons dg (.cons dg (.cons dg .nil))))))))))))
  dsimp only [tNil]
  refine mk_readX (rs := List.replicate 12 (.rs "a" "b")) hL rfl ⟨fun r hr => by rw [List.eq_of_mem_replicate hr]; exact rg, by decide, by decide⟩ fun HW xw sw hxw SW => ?_
  have SW' := SW
  obtain ⟨dxw, tw, xsw, hw1, _⟩ := SW.ex
  refine ⟨xw, dxw, _, rfl, hw1, xw, _, rfl, SW', 12, rfl, by decide, rfl, ?_⟩
  exact q _
end
end K
set_option Elab.async false
set_option linter.all false
set_option maxRecDepth 100000
set_option maxHeartbeats 8000000
/-! The law's middle: what a policy holds, without, +. -/
namespace K
open PySem L2 Hk LamX PyProof.Rows
theorem list_read {K : PySem.W.Frag} {CP : Addr} {H : Hp} {a : Addr} {rs : List Rl} {E : XK} {Q : VK} (S : PoAt K CP H a rs) (few : rs.length < 1000) (q : ∀ l H' xs, Same H H' → H l = none → H' l = some (.lst xs) → DaAll K H' xs (rs.map dtL) → Q (.ref l) H') :
    rListT CP (spIter CP) (spLen K CP) E [.ref a] H Q := by
  have S0 := S
  obtain ⟨dx, t, xs, h1, h2, h3⟩ := S.ex
  have lx := h3.len
  rw [List.length_map] at lx
  exact ⟨a, dx, _, t, xs, rfl, h1, h2, by omega, fun H' s Q' k => ⟨a, dx, t, xs, rfl, s _ _ h1, s _ _ h2, k⟩, fun H' s Q' k => ⟨a, rs, rfl, S0.same s, by rw [← lx]; exact k⟩, fun l H' s n e => q l H' xs s n e (DaAll.same s h3)⟩
/-- two equal lists of rules do not differ -/
theorem ne_rules {K : PySem.W.Frag} {H : Hp} {p q : Addr} {xs ys : List V} {rs ss : List Rl} {Q : VK} (hp : SqL K H p xs) (da : DaAll K H xs (rs.map dtL)) (hq : SqL K H q ys) (db : DaAll K H ys (ss.map dtL)) (k : Q (.bl (!decide (rs = ss))) H) : rEqP K true (.ref p) (.ref q) H Q := by
  refine ⟨.list (encA (rs.map dtL)), .list (encA (ss.map dtL)), .lst hp (dp_A da (ndA_map nd_L _)), .lst hq (dp_A db (ndA_map nd_L _)), lay_A _, lay_A _, by have := dep_Ls rs; simp only [PyData.depth]; omega, ?_⟩
  rw [if_pos rfl, show PyData.eqv (.list (encA (rs.map dtL))) (.list (encA (ss.map dtL))) = decide (rs = ss) from eqv_Ls rs ss]
  exact k
theorem DaAll.butL {K : PySem.W.Frag} {H H' : Hp} {d : Addr} {xs : List V} {rs : List Rl} (h : DaAll K H xs (rs.map dtL)) (D : Dr K H d) (b : But d H H') : DaAll K H' xs (rs.map dtL) := by
  obtain ⟨_, _, _, e, _⟩ := D
  exact DaAll.same ((less_but b).trans less_same) (DaAll.lessN e h (nlA_map nl_L _))
theorem PoAt.but {K : PySem.W.Frag} {CP : Addr} {H H' : Hp} {d a : Addr} {rs : List Rl} (S : PoAt K CP H a rs) (D : Dr K H d) (b : But d H H') : PoAt K CP H' a rs := by
  obtain ⟨dx, t, xs, h1, h2, h3⟩ := S.ex
  have D' := D
  obtain ⟨_, _, _, e, _⟩ := D
  exact ⟨dx, t, xs, b _ _ (fun z => by rw [z, e] at h1; cases h1) h1, b _ _ (fun z => by rw [z, e] at h2; cases h2) h2, h3.butL D' b⟩
theorem dropR_take (rs : List Rl) (n : Nat) : ∀ i, i ≤ rs.length → dropR (rs.take i) [(n : Int)] = (rs.take i).take n ++ (rs.take i).drop (n + 1)
  | 0, _ => by simp [dropR]
  | i + 1, h => by
    have ih := dropR_take rs n i (by omega)
    have ei : rs[i]? = some rs[i] := List.getElem?_eq_getElem (by omega)
    have lt : (rs.take i).length = i := by rw [List.length_take]; omega
    rw [take_up ei, dropR_snoc, lt, ih]
    clear ih ei
    generalize rs[i] = r
    generalize rs.take i = q at lt ⊢
    by_cases c : i = n
    · rw [if_pos (by rw [decide_eq_true_eq, List.mem_singleton]; omega)]
      subst c
      rw [List.take_append_of_le_length (by omega), List.drop_eq_nil_of_le (by omega), List.drop_eq_nil_of_le (by rw [List.length_append, lt]; exact Nat.le_refl _)]
    · rw [if_neg (by rw [decide_eq_true_eq, List.mem_singleton]; omega)]
      by_cases c2 : i < n
      · rw [List.take_of_length_le (by omega), List.drop_eq_nil_of_le (by omega), List.append_nil, List.take_of_length_le (by rw [List.length_append, lt]; show i + 1 ≤ n; omega), List.drop_eq_nil_of_le (by rw [List.length_append, lt]; show i + 1 ≤ n + 1; omega), List.append_nil]
      · rw [List.take_append_of_le_length (by omega), List.drop_append_of_le_length (by omega), List.append_assoc]
theorem dropR_one (rs : List Rl) (n : Nat) : dropR rs [(n : Int)] = rs.take n ++ rs.drop (n + 1) := by
  have := dropR_take rs n rs.length (Nat.le_refl _)
  rwa [List.take_length] at this
theorem dropR_nil (rs : List Rl) : dropR rs [] = rs := by
  unfold dropR
  rw [List.filter_eq_self.mpr (fun x _ => by simp)]
  exact List.zipIdx_map_fst 0 rs
theorem cut_to (xs : List V) (n : Nat) : cutV xs none (some (n : Int)) = xs.take n := by
  unfold cutV
  rw [HT.sIx_none, HT.sIx_nat, List.drop_zero, Nat.sub_zero]
  rcases Nat.le_total n xs.length with h | h
  · rw [Nat.min_eq_left h]
  · rw [Nat.min_eq_right h, List.take_of_length_le (Nat.le_refl _), List.take_of_length_le h]
theorem cut_of (xs : List V) (n : Nat) : cutV xs (some ((n : Int) + 1)) none = xs.drop (n + 1) := by
  unfold cutV
  rw [HT.sIx_none, show ((n : Int) + 1) = ((n + 1 : Nat) : Int) by omega, HT.sIx_nat]
  rcases Nat.le_total (n + 1) xs.length with h | h
  · rw [Nat.min_eq_left h, List.take_of_length_le (by rw [List.length_drop]; exact Nat.le_refl _)]
  · rw [Nat.min_eq_right h, List.drop_eq_nil_of_le (Nat.le_refl _), List.drop_eq_nil_of_le h, List.take_nil]
theorem DaAll.take {K : PySem.W.Frag} {H : Hp} : ∀ {xs : List V} {l : List Dt} (n : Nat), DaAll K H xs l → DaAll K H (xs.take n) (l.take n)
  | _, _, 0, _ => .nil
  | _, _, n + 1, .nil => .nil
  | _, _, n + 1, .cons h t => .cons h (DaAll.take n t)
theorem DaAll.drop {K : PySem.W.Frag} {H : Hp} : ∀ {xs : List V} {l : List Dt} (n : Nat), DaAll K H xs l → DaAll K H (xs.drop n) (l.drop n)
  | _, _, 0, h => h
  | _, _, n + 1, .nil => .nil
  | _, _, n + 1, .cons h t => DaAll.drop n t
section
variable {P : Program} {w : World} {K : PySem.W.Frag} {mg : Str → Option Value} {base : Heap} {CP CB CR fX fP fLR fLM fEr fLW fI fMd fWd fLn fIt fGt fEq fAd fWi f cc PP fR fPR fB cB cdB : Addr} {fdX fdP fdLR fdLM fdE fdLW fdI fdMd fdWd fdLn fdIt fdGt fdEq fdAd fdB : FuncData}
theorem mid_ok (T : TxtI P K mg fR fPR CP CB fB cB cdB fdB) (TL : TxtL P K mg CP CB CR fX fP fLR fLM fEr fLW fI fMd fWd fLn fIt fGt fEq fAd fWi) (G : GsL P w K mg base CP CB fX fP fLR fLM fEr fLW fI fMd fWd fLn fIt fGt fEq fAd fWi fdX fdP fdLR fdLM fdE fdLW fdI fdMd fdWd fdLn fdIt fdGt fdEq fdAd) (TB : TabB base mg cc PP)
    {A : Around} {outer : List Env} {s : Shared} {H : Hp} {E : XK} (hr : Room 9 (A.deeper (envOfC "law" (defScope sLaw) s.heap.objs.size f (.ref cc)))) :
    ∃ t : TS, PSs (cxOf CX0 P w K mg base nLaw "law" (defScope sLaw) f (.ref cc) A outer s H E) ((defBody sLaw).drop 8) t ∧
      ∀ (D : Ends) (H0 : Hp) (d l ol pa pb : Addr) (v0 v6 : Option V) (xs ys : List V) (rs ss : List Rl), Dr K H0 d → PoAt K CP H0 pa rs → PoAt K CP H0 pb ss → Pok rs → Pok (addR rs ss) → ss.length ≤ 12 → H0 l = some (.lst xs) → DaAll K H0 xs (rs.map dtL) → l ≠ d → H0 ol = some (.lst ys) → DaAll K H0 ys (ss.map dtL) → ol ≠ d → Tabs [(PP, qLaw)] H0 → (∀ H', D.rt (.bl true) H') →
        t D [v0, some (.ref d), some (.ref l), some (.ref ol), some (.ref pa), some (.ref pb), v6, none, none, none, none, none, none, none, none, none, none] H0 := by
  have hr1 : Room 1 _ := hr.mono (by decide)
  have hr2 : Room 2 _ := hr.mono (by decide)
  have hr3 : Room 3 _ := hr.mono (by decide)
  have hr4 : Room 4 _ := hr.mono (by decide)
  have hr5 : Room 5 _ := hr.mono (by decide)
  have hr6 : Room 6 _ := hr.mono (by decide)
  have hr7 : Room 7 _ := hr.mono (by decide)
  obtain ⟨tt, ptail, rtail⟩ := tail_ok T TL G TB (outer := outer) (H := H) (E := E) hr
  refine ⟨_, pss_cons (ps_set (i := 7) scLaw.nd rfl (Or.inl rfl) (pe_op (op_own2 (E := E0) TL.adS TL.ad TL.adF G.Ad hr7 G.bAd passL) (pv 4) (pv 5)))
    (pss_cons (ps_if (pt_cmpR (op_neP hr.units) (pe_callTy (call_listT (E := E0) TL.it TL.itF TL.ln TL.lnF G.It G.bIt pass0 G.Ln G.bLn rfl hr5) (by rfl) TL.g.f.list (by decide +kernel) (pa_cons (pv 7) pa_nil)) (pe_op op_cat (pv 2) (pe_lc (own := [("rule", 14)]) (g := gName 14) (tt := tTest (tOp (rInD K true) (tVar 14) (tVar 2))) (te := tVar 14) rfl scLaw.nd (pi_seq (pv 3)) (blkOk_by (N := nLaw) (sc := defScope sLaw) (by decide +kernel)) (fun _ _ _ _ _ => pg_name (i := 14) scLaw.nd rfl (Or.inl rfl)) (fun _ _ _ _ _ => pts_one (pt_cmpR (op_notInD hr.units) (pv 14) (pv 2) rfl)) (fun _ _ _ _ _ => pv 14))) (nomark _)) (pss_one (ps_ret pe_bl)) pss_nil)
    (pss_cons (ps_if (PW.pt (pw_or (pt_cmpR (op_ownNe (E := E0) TL.ne TL.mro TL.eq TL.eqF G.Eq hr2 G.bEq pass0) (pe_op (op_own2 (E := E0) TL.adS TL.ad TL.adF G.Ad hr7 G.bAd passL) (pv 4) (pe_make (E := E0) TL.made G.I hr6 (by rfl) T.gP G.bI .nil passL (pa_cons (pe_lst pa_nil) pa_nil))) (pv 4) (nomark _)) (pw_or1 (pt_cmpR op_ne (pe_cmpR (op_ownEq (E := E0) TL.eq TL.eqF G.Eq hr1 G.bEq pass0) (pv 4) (pv 5) (nomark _)) (pe_cmpR (op_eqP hr.units) (pv 2) (pv 3) (nomark _)) (nomark _))))) (pss_one (ps_ret pe_bl)) pss_nil)
    (pss_cons (ps_if (pt_cmpR (op_neP hr.units) (pv 2) (pe_lst pa_nil) (nomark _))
      (pss_cons (ps_asg (pe_tup (pa_cons (pe_call G.X hr3 (by rfl) TL.gX TL.kX G.bX .nil pass0 (pa_cons (pv 1) (pa_cons (pe_callB call_len_seq (by rfl) TL.g.f.len PySem.boot_len (pa_cons (pv 2) pa_nil)) pa_nil))) (pa_cons (pe_call G.X hr3 (by rfl) TL.gX TL.kX G.bX .nil pass0 (pa_cons (pv 1) (pa_cons (pe_callB call_len_seq (by rfl) TL.g.f.len PySem.boot_len (pa_cons (pv 2) pa_nil)) pa_nil))) pa_nil))) (pg_tup rfl (pgs_cons (pg_name (i := 8) scLaw.nd rfl (Or.inr rfl)) (pgs_cons (pg_name (i := 9) scLaw.nd rfl (Or.inr rfl)) pgs_nil))))
      (pss_one (ps_if (PW.pt (pw_or (pt_cmpR (op_neP hr.units) (pe_callTy (call_listT (E := E0) TL.it TL.itF TL.ln TL.lnF G.It G.bIt pass0 G.Ln G.bLn rfl hr5) (by rfl) TL.g.f.list (by decide +kernel) (pa_cons (Hk.pe_methR (E := E0) (pv 4) T.cl TL.mWi G.Wi hr7 passL (pa_cons (pv 8) pa_nil)) pa_nil)) (pe_op op_cat (pe_slice sl_list (pv 2) po_none (po_some (pv 8))) (pe_slice sl_list (pv 2) (po_some (pe_op op_add (pv 8) pe_int)) po_none)) (nomark _))
          (pw_or1 (pt_cmpR (op_neP hr.units) (pe_callTy (call_listT (E := E0) TL.it TL.itF TL.ln TL.lnF G.It G.bIt pass0 G.Ln G.bLn rfl hr5) (by rfl) TL.g.f.list (by decide +kernel) (pa_cons (Hk.pe_methR (E := E0) (pv 4) T.cl TL.mWi G.Wi hr7 passL (pa_cons (pv 8) (pa_cons (pv 9) pa_nil))) pa_nil)) (pe_lc (own := [("number", 15), ("rule", 14)]) (g := gTup K 2 (gCons (gName 15) (gCons (gName 14) gNil))) (tt := tTest (tOp (rIn K true) (tVar 15) (tTup (tCons (tVar 8) (tCons (tVar 9) tNil))))) (te := tVar 14) rfl scLaw.nd (pi_enumX (by rfl) TL.g.enum (pa_cons (pv 2) pa_nil)) (blkOk_by (N := nLaw) (sc := defScope sLaw) (by decide +kernel))
              (fun _ _ _ _ _ => pg_tup rfl (pgs_cons (pg_name (i := 15) scLaw.nd rfl (Or.inl rfl)) (pgs_cons (pg_name (i := 14) scLaw.nd rfl (Or.inl rfl)) pgs_nil))) (fun _ _ _ _ _ => pts_one (pt_cmpR op_notIn_seq (pv 15) (pe_tup (pa_cons (pv 8) (pa_cons (pv 9) pa_nil))) rfl)) (fun _ _ _ _ _ => pv 14)) (nomark _))))) (pss_one (ps_ret pe_bl)) pss_nil))) pss_nil)
    (pss_cons (ps_if (pt_cmpR (op_ownNe (E := E0) TL.ne TL.mro TL.eq TL.eqF G.Eq hr2 G.bEq pass0) (Hk.pe_methR0 (E := E0) (pv 4) T.cl TL.mWi G.Wi hr7 passL) (pv 4) (nomark _)) (pss_one (ps_ret pe_bl)) pss_nil)
    ptail)))), ?_⟩
  intro D H0 d l ol pa pb v0 v6 xs ys rs ss D0 S0 B0 ok0 okA fs hl0 dl0 nld ho0 do0 nod T0 q
  have few0 : rs.length < 100 := by have := ok0.few; omega
  have lxs : xs.length = rs.length := by rw [dl0.len, List.length_map]
  have lys : ys.length = ss.length := by rw [do0.len, List.length_map]
  obtain ⟨dxa, ta, xa, ha0, _⟩ := S0.ex
  obtain ⟨dxb, tb, xb, hb0, _⟩ := B0.ex
  -- whole
  refine seq_set ?_
  refine ⟨_, rfl, _, rfl, pa, pb, dxa, dxb, _, _, rfl, rfl, ha0, hb0, pa, pb, rs, ss, rfl, S0, B0, few0, by omega, okA, fun H1 wh s1 nw W1 => ?_⟩
  try dsimp only
  -- list(whole)
  refine ⟨_, rfl, ?_⟩
  dsimp only [tNil]
  refine list_read W1 (by have := okA.few; omega) fun l2 H2 zs s2 nl2 hl2 dz2 => ?_
  have s12 := s1.trans s2
  refine ⟨_, rfl, _, rfl, true, ol, ys, rfl, SqX.list (SqL.of (s12 _ _ ho0)), fun J wk C hC => lcX wk hC (fun i acc H => DaAll K (less C H) acc (((ss.take i).filter fun r => !decide (r ∈ rs)).map dtL)) (by rw [sizeLine_eq]; omega) (fun _ _ _ _ r b => DaAll.same (less_but b) r) .nil (fun H3 s3 => SqX.list (SqL.of (s3 _ _ (s12 _ _ ho0)))) ?_ ?_⟩
  · intro i x H3 acc hi ex s3 e r Nx yes no
    have s13 := s12.trans s3
    obtain ⟨dd, ed, dax⟩ := (do0.same s13).at ex
    rw [List.getElem?_map] at ed
    obtain ⟨r0, er, rfl⟩ := Option.map_eq_some_iff.mp ed
    have up : ss.take (i + 1) = ss.take i ++ [r0] := take_up er
    refine ⟨rfl, ?_⟩
    refine ⟨_, rfl, _, rfl, l, xs, encA (rs.map dtL), encD (dtL r0), rfl, SqL.of (s13 _ _ hl0), dp_A (dl0.same s13) (ndA_map nd_L _), dp_D dax (nd_L _), lay_A _, lay_D _, by have := dep_L r0; omega, ?_⟩
    rw [any_L2]
    refine ⟨_, rfl, ?_⟩
    cases hm : decide (r0 ∈ rs) with
    | true =>
      refine iteF (no _ (Same.refl _) ?_)
      rw [up, List.filter_append]
      simp [List.filter_cons, hm]
      simpa using r
    | false =>
      refine iteT ⟨_, rfl, yes _ _ (Same.refl _) ?_⟩
      rw [up, List.filter_append, List.map_append]
      refine DaAll.app r ?_
      simp only [List.filter_cons, hm]
      exact .cons (Da.lessN e dax (nl_L _)) .nil
  intro H3 acc s3 e r
  rw [lys, List.take_length] at r
  have r2 := DaAll.same less_same r
  have la : acc.length ≤ ss.length := by
    rw [r2.len, List.length_map]
    exact List.length_filter_le _ _
  have s13 := s12.trans s3
  refine ⟨l, C, xs, acc, rfl, rfl, s13 _ _ hl0, e, by rw [sizeLine_eq]; omega, fun p hp => ?_⟩
  have s4 := Same.fresh (o := .lst (xs ++ acc)) (Same.refl H3) hp
  refine ne_rules (rs := addR rs ss) (ss := addR rs ss) (SqL.of ((s3.trans s4) _ _ hl2)) (dz2.same (s3.trans s4)) (SqL.of upd_same) ?_ ?_
  · unfold addR
    rw [List.map_append]
    exact DaAll.app (dl0.same (s13.trans s4)) (r2.same s4)
  rw [decide_eq_true rfl]
  refine ⟨false, rfl, iteF ?_⟩
  have s04 := s13.trans s4
  generalize upd H3 p (.lst (xs ++ acc)) = H4 at s04
  have hl4 := s04 _ _ hl0
  have dl4 := dl0.same s04
  have ho4 := s04 _ _ ho0
  have do4 := do0.same s04
  have S4 := S0.same s04
  have B4 := B0.same s04
  have T4 := Tabs.same T0 s04
  have D4 := D0.same s04
  clear s04 s4 s13 s12 s1 s2 s3 nl2 hl2 dz2 W1 e r r2 la hp nw ha0 hb0 hl0 dl0 ho0 do0 S0 B0 T0 D0
  have addN : addR rs [] = rs := by unfold addR; simp
  dsimp only [tNext]
  -- policy + Policy([])
  refine ⟨_, rfl, by show 0 ≤ sizeLine; decide, fun p hp => ?_⟩
  have z1 := Same.fresh (o := .lst []) (Same.refl H4) hp
  dsimp only [tNil]
  refine mk_readX (rs := []) (d := .lst []) (.lst (SqL.of upd_same) .nil) rfl ⟨fun r hr => (List.not_mem_nil hr).elim, by decide, by decide⟩ fun H5 x5 s5 n5 S5 => ?_
  have s45 := z1.trans s5
  have SA := S4.same s45
  obtain ⟨dx1, t1, y1, h1, _⟩ := SA.ex
  obtain ⟨dx2, t2, y2, h2, _⟩ := S5.ex
  refine ⟨pa, x5, dx1, dx2, _, _, rfl, rfl, h1, h2, pa, x5, rs, [], rfl, SA, S5, few0, by decide, by rw [addN]; exact ok0, fun H6 x6 s6 n6 S6 => ?_⟩
  rw [addN] at S6
  have SA6 := SA.same s6
  obtain ⟨dx3, t3, y3, h3, _⟩ := SA6.ex
  obtain ⟨dx4, t4, y4, h4, _⟩ := S6.ex
  refine ⟨_, rfl, x6, pa, dx4, dx3, _, _, rfl, rfl, h4, h3, x6, pa, rs, rs, rfl, S6, SA6, true, by rw [decide_eq_true rfl], false, rfl, iteF ?_⟩
  have s46 := s45.trans s6
  have B6 := B4.same s46
  obtain ⟨dx5, t5, y5, h5, _⟩ := B6.ex
  -- (policy == other) != (rules == others)
  refine ⟨_, rfl, _, rfl, pa, pb, dx3, dx5, _, _, rfl, rfl, h3, h5, pa, pb, rs, ss, rfl, SA6, B6, ?_⟩
  refine ⟨_, rfl, _, rfl, .list (encA (rs.map dtL)), .list (encA (ss.map dtL)), .lst (SqL.of (s46 _ _ hl4)) (dp_A (dl4.same s46) (ndA_map nd_L _)), .lst (SqL.of (s46 _ _ ho4)) (dp_A (do4.same s46) (ndA_map nd_L _)), lay_A _, lay_A _, by have := dep_Ls rs; simp only [PyData.depth]; omega, ?_⟩
  rw [if_neg Bool.false_ne_true, show PyData.eqv (.list (encA (rs.map dtL))) (.list (encA (ss.map dtL))) = decide (rs = ss) from eqv_Ls rs ss]
  refine ⟨rfl, false, ?_, iteF ?_⟩
  · rw [decide_eq_true rfl]
    rfl
  have hl6 := s46 _ _ hl4
  have dl6 := dl4.same s46
  have T6 := Tabs.same T4 s46
  have D6 := D4.same s46
  clear s46 s45 s6 s5 z1 h1 h2 h3 h4 h5 B6 S6 SA S5 B4 S4 T4 D4 hl4 dl4 ho4 do4 hp n5 n6
  dsimp only [tNext]
  -- without
  refine ⟨_, rfl, by show 0 ≤ sizeLine; decide, fun p hp => ?_⟩
  have z1 := Same.fresh (o := .lst []) (Same.refl H6) hp
  refine ne_rules (rs := rs) (ss := []) (SqL.of (z1 _ _ hl6)) (dl6.same z1) (SqL.of upd_same) .nil ?_
  refine ⟨_, rfl, ?_⟩
  have SZ := SA6.same z1
  have hlZ := z1 _ _ hl6
  have dlZ := dl6.same z1
  have TZ := Tabs.same T6 z1
  have DZ := D6.same z1
  generalize upd H6 p (.lst []) = HZ at SZ hlZ dlZ TZ DZ
  clear z1 hp SA6 hl6 dl6 T6 D6
  cases hrs : decide (rs = []) with
  | true =>
    refine iteF ?_
    have nAx : True := trivial
    obtain ⟨dxE, tE, yE, haE, _⟩ := SZ.ex
    dsimp only [tNext]
    refine ⟨_, rfl, pa, dxE, _, rfl, haE, flds_no _ (by decide +kernel), [.ref pa], [], rfl, rfl, by show 0 ≤ sizeLine; decide, fun pE hpE => ?_⟩
    have e1 := Same.fresh (o := .tup []) (Same.refl HZ) hpE
    refine ⟨pa, pE, rs, [], rfl, SZ.same e1, ok0, upd_same, by decide, fun n hn => (List.not_mem_nil hn).elim, fun _ HF xF sF nF SF => ?_⟩
    rw [dropR_nil] at SF
    have e2 := e1.trans sF
    have SG := SZ.same e2
    obtain ⟨dxF, tF, yF, haF, _⟩ := SF.ex
    refine ⟨_, rfl, xF, pa, dxF, dxE, _, _, rfl, rfl, haF, e2 _ _ haE, xF, pa, rs, rs, rfl, SF, SG, true, by rw [decide_eq_true rfl], false, rfl, iteF ?_⟩
    dsimp only [tNext]
    exact rtail D HF d l pa _ _ _ _ _ _ _ xs rs (DZ.same e2) SG ok0 (e2 _ _ hlZ) nld lxs (Tabs.same TZ e2) q
  | false =>
    refine iteT ?_
    have ne : rs ≠ [] := of_decide_eq_false hrs
    have pos : 0 < rs.length := List.length_pos_iff.mpr ne
    refine ⟨_, rfl, _, rfl, l, xs, rfl, .inl (SqL.of hlZ), d, _, rfl, DZ, by omega, fun k1 H7 k10 k11 b7 D7 g7 => ?_⟩
    have hl7 := b7 _ _ nld hlZ
    refine ⟨_, rfl, _, rfl, l, xs, rfl, .inl (SqL.of hl7), d, _, rfl, D7, by omega, fun k2 H8 k20 k21 b8 D8 g8 => ⟨by show 2 ≤ sizeLine; decide, fun t ht => ⟨t, _, rfl, .inl (.inl upd_same), rfl, _, _, rfl, _, _, rfl, rfl, ?_⟩⟩⟩
    have sT := Same.fresh (o := .tup [.int k1, .int k2]) (Same.refl H8) ht
    have S9 := ((SZ.but DZ b7).but D7 b8).same sT
    have hl9 := sT _ _ (b8 _ _ nld hl7)
    have dl9 := ((dlZ.butL DZ b7).butL D7 b8).same sT
    have T9 := Tabs.same (Tabs.but D7 (Tabs.but DZ TZ b7) b8) sT
    have D9 := D8.same sT
    generalize upd H8 t (.tup [.int k1, .int k2]) = H9 at S9 hl9 dl9 T9 D9
    clear sT ht b7 b8 g7 g8 D7 D8 hl7 SZ hlZ dlZ TZ DZ
    obtain ⟨n1, rfl⟩ := Int.eq_ofNat_of_zero_le k10
    obtain ⟨n2, rfl⟩ := Int.eq_ofNat_of_zero_le k20
    obtain ⟨dx9, t9, y9, ha9, _⟩ := S9.ex
    have pl1 : plc (.int (n1 : Int)) rs.length = true := by
      show (decide (0 ≤ (n1 : Int)) && decide ((n1 : Int) < (rs.length : Int))) = true
      rw [decide_eq_true (by omega), decide_eq_true (by omega)]
      rfl
    have pl2 : plc (.int (n2 : Int)) rs.length = true := by
      show (decide (0 ≤ (n2 : Int)) && decide ((n2 : Int) < (rs.length : Int))) = true
      rw [decide_eq_true (by omega), decide_eq_true (by omega)]
      rfl
    -- without(at)
    refine ⟨_, rfl, pa, dx9, _, rfl, ha9, flds_no _ (by decide +kernel), _, rfl, [.ref pa], [.int (n1 : Int)], rfl, rfl, by show 1 ≤ sizeLine; decide, fun p hp => ?_⟩
    have z1 := Same.fresh (o := .tup [.int (n1 : Int)]) (Same.refl H9) hp
    refine ⟨pa, p, rs, [(n1 : Int)], rfl, S9.same z1, ok0, upd_same, by show 1 < 1000; decide, fun n hn pl => (by rw [List.mem_singleton] at hn; subst hn; rw [pl1] at pl; cases pl), fun _ HA x sA nA SA => ?_⟩
    have s9A := z1.trans sA
    dsimp only [tNil]
    refine list_read SA (by have := (dropR_sub rs [(n1 : Int)]).length_le; omega) fun lB HB zB sB nB hB dB => ?_
    have s9B := s9A.trans sB
    refine ⟨_, rfl, _, rfl, _, rfl, l, xs, rfl, SqL.of (s9B _ _ hl9), fun p1 hp1 => ?_⟩
    rw [cut_to]
    have y1 := Same.fresh (o := .lst (xs.take n1)) (Same.refl HB) hp1
    refine ⟨_, rfl, _, rfl, _, _, rfl, rfl, _, rfl, l, xs, rfl, SqL.of (y1 _ _ (s9B _ _ hl9)), fun p2 hp2 => ?_⟩
    rw [cut_of]
    have y2 := Same.fresh (o := .lst (xs.drop (n1 + 1))) (Same.refl (upd HB p1 (.lst (xs.take n1)))) hp2
    have n12 : p1 ≠ p2 := fun z => by rw [← z, upd_same] at hp2; cases hp2
    refine ⟨p1, p2, _, _, rfl, rfl, by rw [upd_ne n12, upd_same], upd_same, by rw [List.length_take, List.length_drop, sizeLine_eq]; omega, fun p3 hp3 => ?_⟩
    have y3 := Same.fresh (o := .lst (xs.take n1 ++ xs.drop (n1 + 1))) (y1.trans y2) hp3
    have s9C := s9B.trans y3
    refine ne_rules (rs := dropR rs [(n1 : Int)]) (ss := dropR rs [(n1 : Int)]) (SqL.of (y3 _ _ hB)) (dB.same y3) (SqL.of upd_same) ?_ ?_
    · rw [dropR_one, List.map_append, List.map_take, List.map_drop]
      exact DaAll.app ((dl9.take n1).same s9C) ((dl9.drop (n1 + 1)).same s9C)
    rw [decide_eq_true rfl]
    refine ⟨false, rfl, iteF ?_⟩
    generalize upd (upd (upd HB p1 (.lst (xs.take n1))) p2 (.lst (xs.drop (n1 + 1)))) p3 (.lst (xs.take n1 ++ xs.drop (n1 + 1))) = HC at s9C
    have SC := S9.same s9C
    have hlC := s9C _ _ hl9
    have dlC := dl9.same s9C
    have TC := Tabs.same T9 s9C
    have DC := D9.same s9C
    clear s9C y3 y2 y1 hp1 hp2 hp3 n12 s9B hB dB nB zB sB s9A sA SA nA z1 hp S9 hl9 dl9 T9 D9 ha9
    obtain ⟨dx10, t10, y10, ha10, _⟩ := SC.ex
    -- without(at, to)
    refine ⟨_, rfl, pa, dx10, _, rfl, ha10, flds_no _ (by decide +kernel), _, rfl, _, rfl, [.ref pa], [.int (n1 : Int), .int (n2 : Int)], rfl, rfl, by show 2 ≤ sizeLine; decide, fun p hp => ?_⟩
    have z1 := Same.fresh (o := .tup [.int (n1 : Int), .int (n2 : Int)]) (Same.refl HC) hp
    refine ⟨pa, p, rs, [(n1 : Int), (n2 : Int)], rfl, SC.same z1, ok0, upd_same, by show 2 < 1000; decide, fun n hn pl => (by
      rcases List.mem_cons.mp hn with rfl | hn
      · rw [pl1] at pl
        cases pl
      rw [List.mem_singleton] at hn
      subst hn
      rw [pl2] at pl
      cases pl), fun _ HA x sA nA SA => ?_⟩
    have s9A := z1.trans sA
    dsimp only [tNil]
    refine list_read SA (by have := (dropR_sub rs [(n1 : Int), (n2 : Int)]).length_le; omega) fun lB HB zB sB nB hB dB => ?_
    have s9B := s9A.trans sB
    have hlB := s9B _ _ hlC
    refine ⟨_, rfl, true, l, xs, rfl, SqX.list (SqL.of hlB), fun J wk C hC => lcE wk hC (fun i acc H => DaAll K (less C H) acc ((dropR (rs.take i) [(n1 : Int), (n2 : Int)]).map dtL)) (by rw [sizeLine_eq]; omega) (fun _ _ _ _ r b => DaAll.same (less_but b) r) .nil (fun H2 s2 => SqX.list (SqL.of (s2 _ _ hlB))) ?_ ?_⟩
    · intro i x T1 H2 acc hi ex s2 hT e r Nx yes no
      obtain ⟨dd, ed, dax⟩ := (dlC.same (s9B.trans s2)).at ex
      rw [List.getElem?_map] at ed
      obtain ⟨r0, er, rfl⟩ := Option.map_eq_some_iff.mp ed
      have up : rs.take (i + 1) = rs.take i ++ [r0] := take_up er
      have sT : Same H2 (upd H2 T1 (.tup [.int (i : Nat), x])) := Same.fresh (Same.refl _) hT
      have lt : (rs.take i).length = i := by rw [List.length_take]; omega
      refine ⟨T1, _, rfl, .inl (.inl upd_same), rfl, _, _, rfl, _, _, rfl, rfl, rfl, ?_⟩
      refine ⟨_, rfl, _, rfl, _, rfl, by show 2 ≤ sizeLine; decide, fun pq hpq => ?_⟩
      have sQ := Same.fresh (o := .tup [.int (n1 : Int), .int (n2 : Int)]) (Same.refl (upd H2 T1 (.tup [.int (i : Nat), x]))) hpq
      have sTQ := sT.trans sQ
      refine ⟨pq, [V.int (n1 : Int), V.int (n2 : Int)], rfl, .inr (.inl (.inl upd_same)), rfl, rfl, _, rfl, ?_⟩
      rw [if_pos rfl, show inV (V.int ((i : Nat) : Int)) [V.int (n1 : Int), V.int (n2 : Int)] = decide (((i : Nat) : Int) ∈ [(n1 : Int), (n2 : Int)]) from inV_ints _ [(n1 : Int), (n2 : Int)]]
      cases hm : decide (((i : Nat) : Int) ∈ [(n1 : Int), (n2 : Int)]) with
      | true =>
        refine iteF (no _ sTQ ?_)
        rw [up, dropR_snoc, lt, if_pos hm]
        exact DaAll.same (less_mono sTQ) r
      | false =>
        refine iteT ⟨_, rfl, yes _ _ sTQ ?_⟩
        rw [up, dropR_snoc, lt, if_neg (by rw [hm]; decide), List.map_append]
        exact DaAll.app (DaAll.same (less_mono sTQ) r) (.cons (Da.lessN (sTQ _ _ e) (dax.same sTQ) (nl_L _)) .nil)
    intro H2 acc s2 e r
    rw [lxs, List.take_length] at r
    have r2 := DaAll.same less_same r
    refine ne_rules (rs := dropR rs [(n1 : Int), (n2 : Int)]) (ss := dropR rs [(n1 : Int), (n2 : Int)]) (SqL.of (s2 _ _ hB)) (dB.same s2) (SqL.of e) r2 ?_
    rw [decide_eq_true rfl]
    refine ⟨false, rfl, iteF ?_⟩
    have sC2 := s9B.trans s2
    have SE := SC.same sC2
    have hlE := sC2 _ _ hlC
    have TE := Tabs.same TC sC2
    have DE := DC.same sC2
    have nAx : True := trivial
    obtain ⟨dxE, tE, yE, haE, _⟩ := SE.ex
    dsimp only [tNext]
    refine ⟨_, rfl, pa, dxE, _, rfl, haE, flds_no _ (by decide +kernel), [.ref pa], [], rfl, rfl, by show 0 ≤ sizeLine; decide, fun pE hpE => ?_⟩
    have e1 := Same.fresh (o := .tup []) (Same.refl H2) hpE
    refine ⟨pa, pE, rs, [], rfl, SE.same e1, ok0, upd_same, by decide, fun n hn => (List.not_mem_nil hn).elim, fun _ HF xF sF nF SF => ?_⟩
    rw [dropR_nil] at SF
    have e2 := e1.trans sF
    have SG := SE.same e2
    obtain ⟨dxF, tF, yF, haF, _⟩ := SF.ex
    refine ⟨_, rfl, xF, pa, dxF, dxE, _, _, rfl, rfl, haF, e2 _ _ haE, xF, pa, rs, rs, rfl, SF, SG, true, by rw [decide_eq_true rfl], false, rfl, iteF ?_⟩
    dsimp only [tNext]
    exact rtail D HF d l pa _ _ _ _ _ _ _ xs rs (DE.same e2) SG ok0 (e2 _ _ hlE) nld lxs (Tabs.same TE e2) q
end
end K
set_option Elab.async false
set_option linter.all false
set_option maxRecDepth 100000
set_option maxHeartbeats 8000000
/-! The law's statements 5 to 7. -/
namespace K
open PySem L2 Hk LamX PyProof.Rows
/-- a policy of rules that are not in their normal form -/
theorem mk_readG {K : PySem.W.Frag} {CP CB : Addr} {H1 : Hp} {v : V} {d : Dt} {l : List Dt} {rs : List Rl} {Q : Addr → Hp → Prop} {E : XK} (h : Da K H1 v d) (e : rowD d = some l) (pl : l.map plainD = rs.map some) (sm : smD d = true) (hd : ∀ x ∈ l, hdT x = true) (ok : Pok rs)
    (qk : ∀ H' x, Same H1 H' → H1 x = none → PoAt K CP H' x rs → Q x H') :
    ∀ x dx, H1 x = none → H1 dx = none → dx ≠ x → spInit K CP CB (.ref x :: ([v] ++ [])) (upd (upd H1 dx (.own x)) x (.ins CP dx [])) (fun v H2 => v = .non ∧ Q x H2) E := by
  intro x dx hx hdx ne
  have s1 : Same H1 (upd (upd H1 dx (.own x)) x (.ins CP dx [])) := fun b o e => by
    rw [upd_ne (ne_of_none e hx), upd_ne (ne_of_none e hdx)]
    exact e
  have wr : wrongs (l.map plainD) = [] := by
    rw [pl, ← plains ok.all]
    exact wr_ok ok
  have few : l.length ≤ 12 := by
    have := congrArg List.length pl
    rw [List.length_map, List.length_map] at this
    rw [this]
    exact ok.few
  have ld : lD d = l := by unfold lD; rw [e]; rfl
  have er : rls d = rs := by
    unfold rls
    rw [ld]
    have z : (l.map plainD).filterMap id = rs := by
      rw [pl, List.filterMap_map]
      exact List.filterMap_some
    rw [List.filterMap_map] at z
    exact z
  refine ⟨x, dx, v, d, rfl, upd_same, Da.same s1 h, sm, by rw [ld]; exact hd, fun o ho => absurd ho (noErr e few wr o), fun l' el lf wr' H' b S => ⟨rfl, qk H' x (fun c o e => b c o (ne_of_none e hx) (s1 c o e)) hx ?_⟩⟩
  rw [er] at S
  exact S
/-- two equal tuples of rules do not differ -/
theorem ne_tups {K : PySem.W.Frag} {H : Hp} {p q : Addr} {xs ys : List V} {rs : List Rl} {Q : VK} (hp : SqT K H p xs) (da : DaAll K H xs (rs.map dtL)) (hq : SqT K H q ys) (db : DaAll K H ys (rs.map dtL)) (k : Q (.bl false) H) : rEqP K true (.ref p) (.ref q) H Q := by
  refine ⟨.tuple (encA (rs.map dtL)), .tuple (encA (rs.map dtL)), .tup hp (dp_A da (ndA_map nd_L _)), .tup hq (dp_A db (ndA_map nd_L _)), lay_A _, lay_A _, by have := dep_Ls rs; simp only [PyData.depth]; omega, ?_⟩
  rw [if_pos rfl, show PyData.eqv (.tuple (encA (rs.map dtL))) (.tuple (encA (rs.map dtL))) = decide (rs = rs) from eqv_Ls rs rs, decide_eq_true rfl]
  exact k
/-- the words of what is made, or None -/
def MadeV (K : PySem.W.Frag) (H : Hp) (v : V) : Option (List Str) → Prop
  | none => v = .non
  | some ws => Da K H v (.tup (ws.map Dt.str))
theorem md_read {K : PySem.W.Frag} {CP pa : Addr} {H : Hp} {rs : List Rl} {Q : VK} {E : XK} (S : PoAt K CP H pa rs) (few : rs.length < 1000) (k : ∀ v H', Same H H' → MadeV K H' v (made rs) → Q v H') : spMd K CP [.ref pa] H Q E :=
  ⟨pa, rs, rfl, S, few, fun e H' s => k _ _ s (by rw [e]; rfl), fun ws e H' v s d => k _ _ s (by rw [e]; exact d)⟩
theorem lm_read {K : PySem.W.Frag} {l : Addr} {xs : List V} {H : Hp} {rs : List Rl} {Q : VK} {E : XK} (hl : SqL K H l xs) (da : DaAll K H xs (rs.map dtL)) (few : rs.length < 1000) (k : ∀ v H', Same H H' → MadeV K H' v (made rs) → Q v H') : spLMade K [.ref l] H Q E :=
  ⟨l, xs, rs, rfl, hl, da, few, fun e H' s => k _ _ s (by rw [e]; rfl), fun ws e H' v s d => k _ _ s (by rw [e]; exact d)⟩
theorem MadeV.same {K : PySem.W.Frag} {H H' : Hp} {v : V} {o : Option (List Str)} (m : MadeV K H v o) (s : Same H H') : MadeV K H' v o := by
  cases o with
  | none => exact m
  | some ws => exact Da.same s m
theorem made_ne {K : PySem.W.Frag} {H : Hp} {v v' : V} {o : Option (List Str)} {Q : VK} (m : MadeV K H v o) (m' : MadeV K H v' o) (k : Q (.bl false) H) : rEqP K true v v' H Q := by
  cases o with
  | none =>
    cases m
    cases m'
    exact ⟨.none, .none, .non, .non, rfl, rfl, by decide, k⟩
  | some ws =>
    have nd : ndD (.tup (ws.map Dt.str)) = true := ndA_map (fun _ => rfl) ws
    refine ⟨_, _, dp_D m nd, dp_D m' nd, lay_D _, lay_D _, ?_, ?_⟩
    · have h2 : PyData.depthAll (encA (ws.map Dt.str)) ≤ 0 := by
        rw [encA_map]
        refine depA_le fun d hd => ?_
        obtain ⟨p, _, rfl⟩ := List.mem_map.mp hd
        exact Nat.le_refl 0
      show (PyData.tuple (encA (ws.map Dt.str))).depth ≤ 60
      simp only [PyData.depth]
      omega
    · rw [if_pos rfl, (eqv_D _ _ nd nd).mpr rfl]
      exact k
theorem wd_read {K : PySem.W.Frag} {CP pa : Addr} {H : Hp} {rs : List Rl} {Q : VK} {E : XK} (S : PoAt K CP H pa rs) (ok : Pok rs) (k : ∀ p H' (l : List Str), Same H H' → l.Nodup → (∀ y, y ∈ l ↔ ∃ r ∈ rs, y ∈ wordsOf r) → H' p = some (.lst ((l.mergeSort leT).map V.str)) → Q (.ref p) H') : spWd K CP [.ref pa] H Q E :=
  ⟨pa, rs, rfl, S, by have := ok.few; omega, fun r hr => (ok.all r hr).nw, k⟩
theorem sum_read {K : PySem.W.Frag} {H : Hp} {C b0 : Addr} {bs : List Addr} {yss : List (List V)} {Q : VK} (hC : H C = some (.lst (bs.map V.ref))) (hb : H b0 = some (.lst [])) (hp : Paired (fun c ys => H c = some (.lst ys)) bs yss) (big : yss.flatten.length ≤ sizeLine)
    (k : ∀ p H', Same H H' → H' p = some (.lst yss.flatten) → Q (.ref p) H') : rSumL K [.ref C, .ref b0] H Q :=
  ⟨C, b0, bs, yss, rfl, hC, hb, hp, big, fun e => k b0 H (Same.refl _) (by rw [hb, e]; rfl), fun p hp => k p _ (Same.fresh (Same.refl _) hp) upd_same⟩
theorem dp_strs {K : PySem.W.Frag} {H : Hp} : ∀ l : List Str, DpAll K H (l.map V.str) (encA (l.map Dt.str))
  | [] => .nil
  | x :: l => .cons (.str x) (dp_strs l)
theorem ne_strs {K : PySem.W.Frag} {H : Hp} {p q : Addr} {l : List Str} {Q : VK} (hp : SqL K H p (l.map V.str)) (hq : SqL K H q (l.map V.str)) (k : Q (.bl false) H) : rEqP K true (.ref p) (.ref q) H Q := by
  have nd : ndD (.lst (l.map Dt.str)) = true := ndA_map (fun _ => rfl) l
  refine ⟨encD (.lst (l.map Dt.str)), encD (.lst (l.map Dt.str)), .lst hp (dp_strs l), .lst hq (dp_strs l), lay_D _, lay_D _, ?_, ?_⟩
  · have h2 : PyData.depthAll (encA (l.map Dt.str)) ≤ 0 := by
      rw [encA_map]
      refine depA_le fun d hd => ?_
      obtain ⟨p, _, rfl⟩ := List.mem_map.mp hd
      exact Nat.le_refl 0
    show (PyData.list (encA (l.map Dt.str))).depth ≤ 60
    simp only [PyData.depth]
    omega
  · rw [if_pos rfl, (eqv_D _ _ nd nd).mpr rfl]
    exact k
theorem flat_len : ∀ l : List Rl, (∀ r ∈ l, (wordsOf r).length < 20) → ((l.map wordsOf).flatten).length ≤ 20 * l.length
  | [], _ => by simp
  | r :: l, h => by
    have h1 := h r List.mem_cons_self
    have h2 := flat_len l fun x hx => h x (List.mem_cons_of_mem _ hx)
    rw [List.map_cons, List.flatten_cons, List.length_append, List.length_cons]
    omega
section
variable {P : Program} {w : World} {K : PySem.W.Frag} {mg : Str → Option Value} {base : Heap} {CP CB CR fX fP fLR fLM fEr fLW fI fMd fWd fLn fIt fGt fEq fAd fWi f cc PP fR fPR fB cB cdB : Addr} {fdX fdP fdLR fdLM fdE fdLW fdI fdMd fdWd fdLn fdIt fdGt fdEq fdAd fdB : FuncData}
theorem three_ok (T : TxtI P K mg fR fPR CP CB fB cB cdB fdB) (TL : TxtL P K mg CP CB CR fX fP fLR fLM fEr fLW fI fMd fWd fLn fIt fGt fEq fAd fWi) (G : GsL P w K mg base CP CB fX fP fLR fLM fEr fLW fI fMd fWd fLn fIt fGt fEq fAd fWi fdX fdP fdLR fdLM fdE fdLW fdI fdMd fdWd fdLn fdIt fdGt fdEq fdAd) (TB : TabB base mg cc PP)
    {A : Around} {outer : List Env} {s : Shared} {H : Hp} {E : XK} (hr : Room 9 (A.deeper (envOfC "law" (defScope sLaw) s.heap.objs.size f (.ref cc)))) :
    ∃ t : TS, PSs (cxOf CX0 P w K mg base nLaw "law" (defScope sLaw) f (.ref cc) A outer s H E) ((defBody sLaw).drop 5) t ∧
      ∀ (D : Ends) (H0 : Hp) (d l ol pa pb tu : Addr) (v0 : Option V) (xs ys us : List V) (tl : List Dt) (rs ss : List Rl), Dr K H0 d → PoAt K CP H0 pa rs → PoAt K CP H0 pb ss → Pok rs → Pok (addR rs ss) → ss.length ≤ 12 → H0 l = some (.lst xs) → DaAll K H0 xs (rs.map dtL) → l ≠ d → H0 ol = some (.lst ys) → DaAll K H0 ys (ss.map dtL) → ol ≠ d → Tabs [(PP, qLaw)] H0 →
        H0 tu = some (.lst us) → DaAll K H0 us tl → tl.map plainD = rs.map some → smA tl = true → (∀ x ∈ tl, hdT x = true) → (∀ H', D.rt (.bl true) H') →
        t D [v0, some (.ref d), some (.ref l), some (.ref ol), some (.ref pa), some (.ref pb), some (.ref tu), none, none, none, none, none, none, none, none, none, none] H0 := by
  have hr1 : Room 1 _ := hr.mono (by decide)
  have hr2 : Room 2 _ := hr.mono (by decide)
  have hr3 : Room 3 _ := hr.mono (by decide)
  have hr4 : Room 4 _ := hr.mono (by decide)
  have hr5 : Room 5 _ := hr.mono (by decide)
  have hr6 : Room 6 _ := hr.mono (by decide)
  have hr7 : Room 7 _ := hr.mono (by decide)
  obtain ⟨tt, pmid, rmid⟩ := mid_ok T TL G TB (outer := outer) (H := H) (E := E) hr
  refine ⟨_, pss_cons (ps_if (PW.pt (pw_or (pt_cmpR (op_neP hr.units) (pe_fld (pv 4) rfl) (pe_callTy call_tuple_of (by rfl) TL.g.f.tuple (by decide +kernel) (pa_cons (pv 2) pa_nil)) (nomark _))
        (pw_or (pt_cmpR (op_neP hr.units) (pe_callTy (call_listT (E := E0) TL.it TL.itF TL.ln TL.lnF G.It G.bIt pass0 G.Ln G.bLn rfl hr5) (by rfl) TL.g.f.list (by decide +kernel) (pa_cons (pv 4) pa_nil)) (pv 2) (nomark _))
        (pw_or (pt_cmpR op_ne (pe_callB (call_ownLen (E := E0) TL.ln TL.lnF G.Ln hr2 G.bLn pass0) (by rfl) TL.g.f.len (by decide +kernel) (pa_cons (pv 4) pa_nil)) (pe_callB call_len_seq (by rfl) TL.g.f.len PySem.boot_len (pa_cons (pv 2) pa_nil)) (nomark _))
        (pw_or1 (pt_cmpR (op_ownNe (E := E0) TL.ne TL.mro TL.eq TL.eqF G.Eq hr2 G.bEq pass0) (pe_make (E := E0) TL.made G.I hr6 (by rfl) T.gP G.bI .nil passL (pa_cons (pv 6) pa_nil)) (pv 4) (nomark _))))))) (pss_one (ps_ret pe_bl)) pss_nil)
    (pss_cons (ps_if (PW.pt (pw_or (pt_cmpR (op_neP hr.units) (pe_lc (own := [("number", 15)]) (g := gName 15) (tt := tYes) (te := tOp (rOwnIx CP (spGet K CP CB) E0) (tVar 4) (tVar 15)) rfl scLaw.nd (pi_range1 (by rfl) TL.g.range (pa_cons (pe_callB call_len_seq (by rfl) TL.g.f.len PySem.boot_len (pa_cons (pv 2) pa_nil)) pa_nil)) (blkOk_by (N := nLaw) (sc := defScope sLaw) (by decide +kernel))
            (fun _ _ _ _ _ => pg_name (i := 15) scLaw.nd rfl (Or.inl rfl)) (fun _ _ _ _ _ => pts_nil) (fun _ _ _ _ _ => pe_ownIx (E := E0) TL.gt TL.gtI TL.gtF G.Gt hr4 G.bGt passL (pv 4) (pv 15))) (pv 2) (nomark _))
        (pw_or1 (pt_cmpR (op_neP hr.units) (pe_meth0 (pv 4) T.cl TL.mM G.Md hr3 G.bMd .nil pass0) (pe_call G.LM hr1 (by rfl) TL.gLM TL.kLM G.bLM .nil pass0 (pa_cons (pv 2) pa_nil)) (nomark _))))) (pss_one (ps_ret pe_bl)) pss_nil)
    (pss_cons (ps_if (pt_cmpR (op_neP hr.units) (pe_meth0 (pv 4) T.cl TL.mW G.Wd hr3 G.bWd .nil pass0) (pe_callB (cr_sortS rfl hr.units) (by rfl) TL.g.f.sorted (by decide +kernel) (pa_cons (pe_callTy (cr_setS rfl hr.units) (by rfl) TL.g.f.set (by decide +kernel) (pa_cons (pe_callB (call_sumL rfl) (by rfl) TL.g.sum (by decide +kernel) (pa_cons
          (pe_lc (own := [("rule", 14)]) (g := gName 14) (tt := tYes) (te := tCall (spWordsOf K) [] E0 (tCons (tVar 14) tNil)) rfl scLaw.nd (pi_seq (pv 2)) (blkOk_by (N := nLaw) (sc := defScope sLaw) (by decide +kernel)) (fun _ _ _ _ _ => pg_name (i := 14) scLaw.nd rfl (Or.inl rfl)) (fun _ _ _ _ _ => pts_nil)
            (fun _ _ _ _ _ => pe_call G.LW hr1 (by rfl) TL.gLW TL.kLW G.bLW .nil pass0 (pa_cons (pv 14) pa_nil))) (pa_cons (pe_lst pa_nil) pa_nil))) pa_nil)) pa_nil)) (nomark _)) (pss_one (ps_ret pe_bl)) pss_nil)
    pmid)), ?_⟩
  intro D H0 d l ol pa pb tu v0 xs ys us tl rs ss D0 S0 B0 ok0 okA fs hl0 dl0 nld ho0 do0 nod T0 htu dtu ptu stu hdtu q
  have few0 : rs.length < 100 := by have := ok0.few; omega
  have lxs : xs.length = rs.length := by rw [dl0.len, List.length_map]
  obtain ⟨dx, t, ts, h1, h2, h3⟩ := S0.ex
  -- policy.rules != tuple(rules)
  refine ⟨_, rfl, pa, CP, dx, _, _, rfl, h1, T.cl, T.nR, flds_r _, _, rfl, l, xs, rfl, .inl ⟨SqL.of hl0, fun p hp => ?_⟩⟩
  have z1 := Same.fresh (o := .tup xs) (Same.refl H0) hp
  refine ne_tups (rs := rs) (.inl (.inl (z1 _ _ h2))) (h3.same z1) (.inl (.inl upd_same)) (dl0.same z1) ⟨false, rfl, iteF ?_⟩
  generalize upd H0 p (.tup xs) = H1 at z1
  -- list(policy) != rules
  refine ⟨_, rfl, ?_⟩
  dsimp only [tNil]
  refine list_read (S0.same z1) (by omega) fun l2 H2 zs z2 nl2 hl2 dz2 => ?_
  have z12 := z1.trans z2
  refine ⟨_, rfl, ne_rules (rs := rs) (ss := rs) (SqL.of hl2) dz2 (SqL.of (z12 _ _ hl0)) (dl0.same z12) ?_⟩
  rw [decide_eq_true rfl]
  refine ⟨false, rfl, iteF ?_⟩
  -- len(policy) != len(rules)
  refine ⟨_, rfl, pa, dx, _, rfl, z12 _ _ h1, pa, rs, rfl, S0.same z12, rs.length, rfl, by omega, _, rfl, l, xs, rfl, .inl (SqL.of (z12 _ _ hl0)), rfl, false, by rw [lxs, decide_eq_true rfl]; rfl, iteF ?_⟩
  -- Policy(turned) != policy
  refine ⟨_, rfl, ?_⟩
  dsimp only [tNil]
  have ltu : us.length = tl.length := dtu.len
  refine mk_readG (l := tl) (d := .lst tl) (rs := rs) (.lst (SqL.of (z12 _ _ htu)) (dtu.same z12)) rfl ptu ?_ hdtu ok0 fun H4 x3 s3 n3 S3 => ?_
  · have := congrArg List.length ptu
    rw [List.length_map, List.length_map] at this
    show (decide (tl.length < 60) && smA tl) = true
    rw [stu, decide_eq_true (by have := ok0.few; omega)]
    rfl
  obtain ⟨dx3, t3, y3, h3x, _⟩ := S3.ex
  have z13 := z12.trans s3
  refine ⟨_, rfl, x3, pa, dx3, dx, _, _, rfl, rfl, h3x, z13 _ _ h1, x3, pa, rs, rs, rfl, S3, S0.same z13, true, by rw [decide_eq_true rfl], false, rfl, iteF ?_⟩
  dsimp only [tNext]
  have S4 := S0.same z13
  have B4 := B0.same z13
  have D4 := D0.same z13
  have T4 := Tabs.same T0 z13
  have hl4 := z13 _ _ hl0
  have dl4 := dl0.same z13
  have ho4 := z13 _ _ ho0
  have do4 := do0.same z13
  clear z13 s3 z12 z2 z1 S3 h3x n3 hl2 dz2 nl2 hp h1 h2 h3 htu dtu S0 B0 D0 T0 hl0 dl0 ho0 do0
  obtain ⟨dx4, t4, y4, h4, _⟩ := S4.ex
  -- [policy[number] for ..] != rules
  refine ⟨_, rfl, l, xs, rfl, .inl (SqL.of hl4), _, rfl, by omega, by omega, fun C hC => lc_it (walk_range (lo := 0)) (fun i H' => But C H4 H' ∧ ∃ acc, H' C = some (.lst acc) ∧ DaAll K (less C H') acc ((rs.take i).map dtL)) ⟨But.upd But.rfl', [], upd_same, .nil⟩ (fun _ _ _ _ => True.intro) ?_ ?_⟩
  · rintro i x Ha Hb hi ⟨b, acc, e, da⟩ ⟨hbe, hxe⟩
    subst hbe hxe
    refine ⟨rfl, ?_⟩
    dsimp only [tYes]
    rw [if_pos rfl]
    have sb : Same H4 Hb := fun c o ec => b c o (ne_of_none ec hC) ec
    have hi' : i < rs.length := by omega
    have er : rs[i]? = some rs[i] := List.getElem?_eq_getElem hi'
    have la : acc.length ≤ 12 := by
      have := da.len
      rw [List.length_map, List.length_take] at this
      have := ok0.few
      omega
    refine ⟨_, rfl, _, rfl, pa, dx4, _, rfl, sb _ _ h4, pa, rs, .int (0 + (i : Nat)), rfl, S4.same sb, by omega, .inl ⟨_, rfl⟩, fun pl => ?_, fun n r en ern v H' sv dv => ⟨acc, sv _ _ e, by rw [sizeLine_eq]; omega, But.upd (b.trans (But.of sv)), _, upd_same, ?_⟩⟩
    · rw [show plc (V.int (0 + (i : Nat))) rs.length = (decide (0 ≤ ((0 : Int) + (i : Nat))) && decide (((0 : Int) + (i : Nat)) < (rs.length : Int))) from rfl, decide_eq_true (by omega), decide_eq_true (by omega)] at pl
      cases pl
    · have ni : n = i := by
        have := V.int.inj en
        omega
      subst ni
      rw [er] at ern
      cases ern
      rw [take_up er, List.map_append]
      have sl : Same (less C H') (less C (upd H' C (.lst (acc ++ [v])))) := less_but (But.upd But.rfl')
      exact DaAll.app (DaAll.same ((less_mono sv).trans sl) da) (.cons (Da.same sl (Da.lessN (sv _ _ e) dv (nl_L _))) .nil)
  rintro H5 ⟨b5, acc, e5, da5⟩
  have s5 : Same H4 H5 := fun c o ec => b5 c o (ne_of_none ec hC) ec
  rw [List.take_of_length_le (by rw [lxs, Int.toNat_natCast]; exact Nat.le_refl _)] at da5
  have da5' := DaAll.same less_same da5
  refine ⟨_, rfl, ne_rules (rs := rs) (ss := rs) (SqL.of e5) da5' (SqL.of (s5 _ _ hl4)) (dl4.same s5) ?_⟩
  rw [decide_eq_true rfl]
  refine ⟨false, rfl, iteF ?_⟩
  -- policy.made() != _law_made(rules)
  refine ⟨_, rfl, pa, dx4, _, rfl, s5 _ _ h4, flds_no _ (by decide +kernel), ?_⟩
  dsimp only [tNil]
  refine md_read (S4.same s5) (by omega) fun mv H6 s6 m6 => ?_
  have s56 := s5.trans s6
  refine ⟨_, rfl, ?_⟩
  dsimp only [tNil]
  refine lm_read (SqL.of (s56 _ _ hl4)) (dl4.same s56) (by omega) fun mv2 H7 s7 m7 => ?_
  refine made_ne (m6.same s7) m7 ⟨false, rfl, iteF ?_⟩
  have s57 := s56.trans s7
  clear m6 m7 s7 s56 s6 s5 b5 da5 da5' e5 hC
  dsimp only [tNext]
  -- policy.words() != sorted(set(sum(..)))
  refine ⟨_, rfl, pa, dx4, _, rfl, s57 _ _ h4, flds_no _ (by decide +kernel), ?_⟩
  dsimp only [tNil]
  refine wd_read (S4.same s57) ok0 fun pw H8 lw s8 ndw memw hw => ?_
  have s48 := s57.trans s8
  refine ⟨_, rfl, true, l, xs, rfl, SqX.list (SqL.of (s48 _ _ hl4)), fun J wk C hC => lcX wk hC (fun i acc H => ∃ bs : List Addr, acc = bs.map V.ref ∧ Paired (fun c ys => less C H c = some (.lst ys)) bs ((rs.take i).map fun (r : Rl) => (wordsOf r).map V.str)) (by rw [sizeLine_eq]; omega) (by rintro _ _ _ _ ⟨bs, e, r⟩ bb; exact ⟨bs, e, r.mono fun c ys h => less_but bb c _ h⟩) ⟨[], rfl, .nil⟩ (fun H3 s3 => SqX.list (SqL.of (s3 _ _ (s48 _ _ hl4)))) ?_ ?_⟩
  · rintro i x H9 acc hi ex s9 e9 ⟨bs, rfl, r9⟩ Nx yes no
    obtain ⟨dd, ed, dax⟩ := (dl4.same (s48.trans s9)).at ex
    rw [List.getElem?_map] at ed
    obtain ⟨r0, er, rfl⟩ := Option.map_eq_some_iff.mp ed
    have up : rs.take (i + 1) = rs.take i ++ [r0] := take_up er
    have nw0 := (ok0.all r0 (List.mem_of_getElem? er)).nw
    refine ⟨rfl, tYes_ok ⟨_, rfl, x, r0, rfl, dax, by omega, fun pp H' np sp hp => yes _ _ sp ⟨bs ++ [pp], by rw [List.map_append]; rfl, ?_⟩⟩⟩
    have npC : pp ≠ C := fun z => by rw [z, e9] at np; cases np
    rw [up, List.map_append]
    exact (r9.mono fun c ys h => less_mono sp c _ h).snoc (by rw [less_ne npC]; exact hp)
  rintro H9 acc s9 e9 ⟨bs, rfl, r9⟩
  rw [lxs, List.take_length] at r9
  refine ⟨by show 0 ≤ sizeLine; exact Nat.zero_le _, fun b0 hb0 => ?_⟩
  have z9 := Same.fresh (o := .lst []) (Same.refl H9) hb0
  have ef : (rs.map fun (r : Rl) => (wordsOf r).map V.str).flatten = ((rs.map wordsOf).flatten).map V.str := by
    rw [List.map_flatten, List.map_map]
    rfl
  have fl := flat_len rs fun r hr => (ok0.all r hr).nw
  have few12 := ok0.few
  dsimp only [tNil]
  refine sum_read (z9 _ _ e9) upd_same (r9.mono fun c ys h => z9 _ _ (less_same _ _ h)) (by rw [ef, List.length_map, sizeLine_eq]; omega) fun p HA sA eA => ?_
  rw [ef] at eA
  refine ⟨p, _, rfl, .inl (SqL.of eA), by omega, fun S lS hS ndS memS => ?_⟩
  have zS := Same.fresh (o := SetSO P w S lS) (Same.refl HA) hS
  have lSl := ndS.length_le_of_subset fun y hy => (memS y).mp hy
  refine ⟨S, lS, rfl, upd_same, by omega, fun qs hqs => ?_⟩
  have zQ := Same.fresh (o := .lst ((lS.mergeSort leT).map V.str)) (Same.refl (upd HA S (SetSO P w S lS))) hqs
  have sAll := s9.trans (z9.trans (sA.trans (zS.trans zQ)))
  have same : lw.mergeSort leT = lS.mergeSort leT := sortT_is ((List.perm_ext_iff_of_nodup ndw ndS).mpr fun y => by
    rw [memw, memS, List.mem_flatten]
    constructor
    · rintro ⟨r, hr, hy⟩
      exact ⟨_, List.mem_map_of_mem hr, hy⟩
    · rintro ⟨m, hm, hy⟩
      obtain ⟨r, hr, rfl⟩ := List.mem_map.mp hm
      exact ⟨r, hr, hy⟩)
  rw [same] at hw
  refine ne_strs (l := lS.mergeSort leT) (SqL.of (sAll _ _ hw)) (SqL.of upd_same) ⟨false, rfl, iteF ?_⟩
  have sZ := s48.trans sAll
  dsimp only [tNext]
  exact rmid D _ d l ol pa pb _ _ xs ys rs ss (D4.same sZ) (S4.same sZ) (B4.same sZ) ok0 okA fs (sZ _ _ hl4) (dl4.same sZ) nld (sZ _ _ ho4) (do4.same sZ) nod (Tabs.same T4 sZ) q
end
end K
set_option Elab.async false
set_option linter.all false
set_option maxRecDepth 100000
set_option maxHeartbeats 8000000
/-! The law's statements 3 and 4. -/
namespace K
open PySem L2 Hk LamX PyProof.Rows
def turnD : Rl → Dt
  | .ft b a ps => .tup [.str (knd b), .str a, .lst (ps.reverse.map dtP)]
  | .mk ws => .tup [.str "make", .lst (ws.reverse.map Dt.str)]
  | r => dtL r
theorem plain_turn : ∀ {r : Rl}, Wok r → plainD (turnD r) = some r
  | .ft b a ps, h => by
    have e := plain_ft (b := b) (a := a) (d := .lst (ps.reverse.map dtP)) (ps := ps.reverse) rfl h.1 (fun p hp => h.2.1 p (List.mem_reverse.mp hp)) ((List.reverse_perm ps).nodup_iff.mpr h.2.2.1) (by rw [List.length_reverse]; exact h.2.2.2.1) (by rw [List.length_reverse]; exact h.2.2.2.2.1)
    rw [srtP_congr (List.reverse_perm ps), h.2.2.2.2.2] at e
    exact e
  | .rs a b, h => plain_rs h.1 h.2
  | .mt a b c, h => plain_mt h.1 h.2.1 h.2.2
  | .mk ws, h => by
    have e := plain_mk (d := .lst (ws.reverse.map Dt.str)) (ws := ws.reverse) rfl (fun x hx => h.1 x (List.mem_reverse.mp hx)) ((List.reverse_perm ws).nodup_iff.mpr h.2.1) (by rw [List.length_reverse]; exact h.2.2.1) (by rw [List.length_reverse]; exact h.2.2.2.1)
    rw [sortT_is (List.reverse_perm ws), h.2.2.2.2] at e
    exact e
theorem sm_turn : ∀ {r : Rl}, Wok r → smD (turnD r) = true
  | .ft b a ps, h => by
    have := h.2.2.2.2.1
    show (decide (3 < 60) && (true && (true && ((decide ((ps.reverse.map dtP).length < 60) && smA (ps.reverse.map dtP)) && true)))) = true
    rw [List.length_map, List.length_reverse, smA_map (fun _ => rfl), decide_eq_true (show ps.length < 60 by omega)]
    rfl
  | .rs a b, h => rfl
  | .mt a b c, h => rfl
  | .mk ws, h => by
    have := h.2.2.2.1
    show (decide (2 < 60) && (true && ((decide ((ws.reverse.map Dt.str).length < 60) && smA (ws.reverse.map Dt.str)) && true))) = true
    rw [List.length_map, List.length_reverse, smA_map (fun _ => rfl), decide_eq_true (show ws.length < 60 by omega)]
    rfl
theorem hd_turn : ∀ r : Rl, hdT (turnD r) = true
  | .ft _ _ _ => rfl
  | .rs _ _ => rfl
  | .mt _ _ _ => rfl
  | .mk _ => rfl
theorem smA_turn : ∀ {rs : List Rl}, (∀ r ∈ rs, Wok r) → smA (rs.map turnD) = true
  | [], _ => rfl
  | r :: rs, h => by rw [List.map_cons, smA, sm_turn (h r List.mem_cons_self), smA_turn fun x hx => h x (List.mem_cons_of_mem _ hx)]; rfl
theorem DaAll.rev {K : PySem.W.Frag} {H : Hp} : ∀ {xs : List V} {l : List Dt}, DaAll K H xs l → DaAll K H xs.reverse l.reverse
  | _, _, .nil => .nil
  | _, _, .cons h t => by
    rw [List.reverse_cons, List.reverse_cons]
    exact DaAll.app (DaAll.rev t) (.cons h .nil)
section
variable {P : Program} {w : World} {K : PySem.W.Frag} {mg : Str → Option Value} {base : Heap} {CP CB CR fX fP fLR fLM fEr fLW fI fMd fWd fLn fIt fGt fEq fAd fWi f cc PP fR fPR fB cB cdB : Addr} {fd fdX fdP fdLR fdLM fdE fdLW fdI fdMd fdWd fdLn fdIt fdGt fdEq fdAd fdB : FuncData}
theorem four_ok (T : TxtI P K mg fR fPR CP CB fB cB cdB fdB) (TL : TxtL P K mg CP CB CR fX fP fLR fLM fEr fLW fI fMd fWd fLn fIt fGt fEq fAd fWi) (G : GsL P w K mg base CP CB fX fP fLR fLM fEr fLW fI fMd fWd fLn fIt fGt fEq fAd fWi fdX fdP fdLR fdLM fdE fdLW fdI fdMd fdWd fdLn fdIt fdGt fdEq fdAd) (TB : TabB base mg cc PP)
    {A : Around} {outer : List Env} {s : Shared} {H : Hp} {E : XK} (hr : Room 9 (A.deeper (envOfC "law" (defScope sLaw) s.heap.objs.size f (.ref cc)))) :
    ∃ t : TS, PSs (cxOf CX0 P w K mg base nLaw "law" (defScope sLaw) f (.ref cc) A outer s H E) ((defBody sLaw).drop 3) t ∧
      ∀ (D : Ends) (H0 : Hp) (d l ol : Addr) (v0 v14 : Option V) (xs ys : List V) (rs ss : List Rl), Dr K H0 d → (∀ r ∈ rs, Wok r) → Pok rs → Pok ss → Pok (addR rs ss) → H0 l = some (.lst xs) → DaAll K H0 xs (rs.map dtL) → l ≠ d → H0 ol = some (.lst ys) → DaAll K H0 ys (ss.map dtL) → ol ≠ d → Tabs [(PP, qLaw)] H0 → (∀ H', D.rt (.bl true) H') →
        t D [v0, some (.ref d), some (.ref l), some (.ref ol), none, none, none, none, none, none, none, none, none, none, none, none, none] H0 := by
  have hr6 : Room 6 _ := hr.mono (by decide)
  obtain ⟨tt, p3, r3⟩ := three_ok T TL G TB (outer := outer) (H := H) (E := E) hr
  refine ⟨_, pss_cons (ps_asg (pe_tup (pa_cons (pe_make (E := E0) TL.made G.I hr6 (by rfl) T.gP G.bI .nil passL (pa_cons (pv 2) pa_nil)) (pa_cons (pe_make (E := E0) TL.made G.I hr6 (by rfl) T.gP G.bI .nil passL (pa_cons (pe_callTy call_tuple_of (by rfl) TL.g.f.tuple (by decide +kernel) (pa_cons (pv 3) pa_nil)) pa_nil)) pa_nil))) (pg_tup rfl (pgs_cons (pg_name (i := 4) scLaw.nd rfl (Or.inr rfl)) (pgs_cons (pg_name (i := 5) scLaw.nd rfl (Or.inl rfl)) pgs_nil))))
      (pss_cons (ps_setLc (i := 6) (own := [("rule", 14)]) (g := gName 14) (tt := tYes)
          (te := tIf (tTest (tOp (rInDT K false) (tOp (rIxT K) (tVar 14) (tC (.int 0))) (tTup (tCons (tC (.str "fetch")) (tCons (tC (.str "hand")) tNil))))) (tOp (rCatA K) (tSl (rSlA K) (tVar 14) tNoPart (tPart (tC (.int 2)))) (tTup (tCons (tRevL K (tCB (rLs K) (tCons (tOp (rIxT K) (tVar 14) (tC (.int 2))) tNil))) tNil)))
            (tIf (tTest (tOp rEq (tOp (rIxT K) (tVar 14) (tC (.int 0))) (tC (.str "make")))) (tTup (tCons (tC (.str "make")) (tCons (tRevL K (tCB (rLs K) (tCons (tOp (rIxT K) (tVar 14) (tC (.int 1))) tNil))) tNil))) (tVar 14)))
          rfl scLaw.nd rfl rfl (sw_true rfl rfl rfl (by decide +kernel)) (pi_seq (pv 2)) (blkOk_by (N := nLaw) (sc := defScope sLaw) (by decide +kernel)) (fun _ _ _ _ _ => pg_name (i := 14) scLaw.nd rfl (Or.inl rfl)) (fun _ _ _ _ _ => pts_nil)
          (fun _ _ _ _ _ => pe_ifExp (pt_cmpR (op_inDT hr.units) (pe_ix ix_tup (pv 14) pe_int (fun _ _ => rfl)) (pe_tup (pa_cons pe_str (pa_cons pe_str pa_nil))) rfl) (pe_op op_catA (pe_slice sl_tupA (pv 14) po_none (po_some pe_int)) (pe_tup (pa_cons (pe_revL (pe_callTy call_list_of (by rfl) TL.g.f.list (by decide +kernel) (pa_cons (pe_ix ix_tup (pv 14) pe_int (fun _ _ => rfl)) pa_nil))) pa_nil)))
            (pe_ifExp (pt_cmpR op_eq (pe_ix ix_tup (pv 14) pe_int (fun _ _ => rfl)) pe_str (nomark _)) (pe_tup (pa_cons pe_str (pa_cons (pe_revL (pe_callTy call_list_of (by rfl) TL.g.f.list (by decide +kernel) (pa_cons (pe_ix ix_tup (pv 14) pe_int (fun _ _ => rfl)) pa_nil))) pa_nil))) (pv 14))))      p3), ?_⟩
  intro D H0 d l ol v0 v14 xs ys rs ss D0 wok ok0 okS okA hl0 dl0 nld ho0 do0 nod T0 q
  -- policy, other
  refine ⟨_, rfl, ?_⟩
  dsimp only [tNil]
  refine mk_readX (rs := rs) (d := .lst (rs.map dtL)) (.lst (SqL.of hl0) dl0) rfl ok0 fun H1 pa s1 n1 S1 => ?_
  refine ⟨_, rfl, ol, ys, rfl, .inl ⟨SqL.of (s1 _ _ ho0), fun p hp => ?_⟩⟩
  have z1 := Same.fresh (o := .tup ys) s1 hp
  refine mk_readX (rs := ss) (d := .tup (ss.map dtL)) (.tup upd_same (do0.same z1)) rfl okS fun H2 pb s2 n2 B2 => ?_
  have z2 := z1.trans s2
  have S2 := S1.same ((Same.fresh (Same.refl _) hp).trans s2)
  refine ⟨by show 2 ≤ sizeLine; decide, fun t ht => ⟨t, _, rfl, .inl (.inl upd_same), rfl, _, _, rfl, _, _, rfl, rfl, ?_⟩⟩
  have z3 := z2.trans (Same.fresh (o := .tup [.ref pa, .ref pb]) (Same.refl H2) ht)
  have S3 := S2.same (Same.fresh (o := .tup [.ref pa, .ref pb]) (Same.refl H2) ht)
  have B3 := B2.same (Same.fresh (o := .tup [.ref pa, .ref pb]) (Same.refl H2) ht)
  generalize upd H2 t (.tup [.ref pa, .ref pb]) = H3 at z3 S3 B3
  clear ht z2 s2 n2 z1 hp s1 n1 S1 S2 B2
  have D3 := D0.same z3
  have T3 := Tabs.same T0 z3
  have hl3 := z3 _ _ hl0
  have dl3 := dl0.same z3
  have ho3 := z3 _ _ ho0
  have do3 := do0.same z3
  clear z3 D0 T0 hl0 dl0 ho0 do0
  have lxs : xs.length = rs.length := by rw [dl3.len, List.length_map]
  have few12 := ok0.few
  -- turned
  refine ⟨_, rfl, true, l, xs, rfl, SqX.list (SqL.of hl3), fun J wk C hC => lcX wk hC (fun i acc H => DaAll K (less C H) acc ((rs.take i).map turnD)) (by rw [sizeLine_eq]; omega) (fun _ _ _ _ r b => DaAll.same (less_but b) r) .nil (fun H4 s4 => SqX.list (SqL.of (s4 _ _ hl3))) ?_ ?_⟩
  · intro i x H4 acc hi ex s4 e r Nx yes no
    obtain ⟨r0, ra, ys0, er, rfl, hra, hys, dr⟩ := rules_at (dl3.same s4) ex
    have up : rs.take (i + 1) = rs.take i ++ [r0] := take_up er
    refine ⟨rfl, tYes_ok ?_⟩
    refine ⟨_, rfl, ra, _, _, _, rfl, rfl, .inl (.inl hra), atI_nat (j := 0) rfl, by rw [sizeLine_eq]; decide, fun p hp => ?_⟩
    have s5 : Same H4 (upd H4 p (.tup [.str "fetch", .str "hand"])) := Same.fresh (Same.refl _) hp
    refine ⟨p, [.str "fetch", .str "hand"], [.str "fetch", .str "hand"], .str (headS r0), rfl, .inl (.inl upd_same), .cons (.str _) (.cons (.str _) .nil), .str _, rfl, rfl, by show (0 : Nat) ≤ 60; omega, ?_⟩
    rw [show ((if false = true then !(List.any [PyData.str "fetch", PyData.str "hand"] fun e => PyData.eqv e (.str (headS r0))) else List.any [PyData.str "fetch", PyData.str "hand"] fun e => PyData.eqv e (.str (headS r0))) : Bool) = isFt r0 from head_ft r0]
    have hra5 := s5 _ _ hra
    have hys5 := hys.same s5
    have e5 := s5 _ _ e
    generalize upd H4 p (.tup [.str "fetch", .str "hand"]) = H5 at s5 hra5 hys5 e5
    clear hp
    have raC : ra ≠ C := fun z => by rw [z, e5] at hra5; cases hra5
    cases r0 with
    | ft k a ps =>
      refine ⟨_, rfl, iteT ?_⟩
      have hys' : DaAll K H5 ys0 [.str a, .tup (ps.map dtP)] := hys5
      cases hys' with
      | cons ha hn =>
      cases hn with
      | cons hps hn =>
      cases hn
      cases ha with
      | str _ la =>
      obtain ⟨b, zs, rfl, hb, hz⟩ := hps.tupI
      refine ⟨_, rfl, _, rfl, ra, _, rfl, .inl (.inl hra5), fun h => (by
        have h2 := h.2
        rw [show HT.sIx _ _ (some 2) = min 2 _ from HT.sIx_nat _ _ 2] at h2
        simp only [List.length_cons, List.length_nil] at h2
        omega), fun _ p2 hp2 => ?_⟩
      rw [show cutV [V.str (headS (.ft k a ps)), .str a, .ref b] none (some 2) = [V.str (headS (.ft k a ps)), .str a] from cut_to _ 2]
      have y0 := Same.fresh (o := .tup [.str (headS (.ft k a ps)), .str a]) (Same.refl H5) hp2
      refine ⟨_, rfl, ra, _, _, _, rfl, rfl, .inl (.inl (y0 _ _ hra5)), atI_nat (j := 2) rfl, b, zs, rfl, .inr (seqT_same y0 hb), fun p3 hp3 => ⟨p3, zs, rfl, SqL.of upd_same, fun p4 hp4 => ⟨by show 1 ≤ sizeLine; decide, fun p5 hp5 => ?_⟩⟩⟩
      have hdk : (V.str (headS (.ft k a ps)) : V) = .str (knd k) := rfl
      have y1 := Same.fresh (o := .lst zs) (Same.refl (upd H5 p2 (.tup [V.str (headS (.ft k a ps)), .str a]))) hp3
      have y2 := Same.fresh (o := .lst zs.reverse) (Same.refl (upd (upd H5 p2 (.tup [V.str (headS (.ft k a ps)), .str a])) p3 (.lst zs))) hp4
      have y3 := Same.fresh (o := .tup [.ref p4]) (Same.refl (upd (upd (upd H5 p2 (.tup [V.str (headS (.ft k a ps)), .str a])) p3 (.lst zs)) p4 (.lst zs.reverse))) hp5
      have y13 := y1.trans (y2.trans y3)
      have h4 := y3 _ _ (upd_same (H := upd (upd H5 p2 (.tup [V.str (headS (.ft k a ps)), .str a])) p3 (.lst zs)) (a := p4) (o := .lst zs.reverse))
      have eA := y0 _ _ e5
      have n4 : p4 ≠ C := fun z => by rw [z, y1 _ _ eA] at hp4; cases hp4
      refine ⟨p2, p5, _, _, rfl, rfl, .inl (.inl (y13 _ _ upd_same)), .inl (.inl upd_same), by rw [sizeLine_eq]; show 2 + 1 ≤ 16777216; decide, (fun z => by cases z), (fun _ z => by cases z), fun _ _ p6 hp6 => ?_⟩
      have y6 := Same.fresh (o := .tup ([V.str (headS (.ft k a ps)), .str a] ++ [.ref p4])) (Same.refl (upd (upd (upd (upd H5 p2 (.tup [V.str (headS (.ft k a ps)), .str a])) p3 (.lst zs)) p4 (.lst zs.reverse)) p5 (.tup [.ref p4]))) hp6
      have yAll := y0.trans (y13.trans y6)
      have eC := yAll _ _ e5
      have n6 : p6 ≠ C := fun z => by rw [z, y13 _ _ eA] at hp6; cases hp6
      refine yes _ _ (s5.trans yAll) ?_
      rw [up, List.map_append]
      refine DaAll.app (DaAll.same (less_mono (s5.trans yAll)) r) (.cons ?_ .nil)
      show Da K _ _ (.tup [.str (knd k), .str a, .lst (ps.reverse.map dtP)])
      refine .tup (xs := [.str (knd k), .str a, .ref p4]) (by rw [less_ne n6, upd_same]; rfl) (.cons (.str _ (knd_len k)) (.cons (.str _ la) (.cons (.lst (SqL.of (by rw [less_ne n4]; exact y6 _ _ h4)) ?_) .nil)))
      rw [List.map_reverse]
      exact (DaAll.lessN eC (hz.same yAll) (nlA_map (fun _ => rfl) ps)).rev
    | mk ws =>
      refine ⟨_, rfl, iteF ?_⟩
      refine ⟨_, rfl, ra, _, _, _, rfl, rfl, .inl (.inl hra5), atI_nat (j := 0) rfl, rfl, _, rfl, ?_⟩
      rw [show decide (V.str (headS (Rl.mk ws)) = V.str "make") = isMk (Rl.mk ws) by rw [← head_make, Bool.eq_iff_iff, decide_eq_true_eq, decide_eq_true_eq, V.str.injEq]]
      have hys' : DaAll K H5 ys0 [.tup (ws.map Dt.str)] := hys5
      cases hys' with
      | cons hw hn =>
      cases hn
      obtain ⟨b, zs, rfl, hb, hz⟩ := hw.tupI
      refine iteT ⟨_, rfl, ra, _, _, _, rfl, rfl, .inl (.inl hra5), atI_nat (j := 1) rfl, ?_⟩
      refine ⟨b, zs, rfl, .inr hb, fun p3 hp3 => ⟨p3, zs, rfl, SqL.of upd_same, fun p4 hp4 => ⟨by show 2 ≤ sizeLine; decide, fun p5 hp5 => ?_⟩⟩⟩
      have y1 := Same.fresh (o := .lst zs) (Same.refl H5) hp3
      have y2 := Same.fresh (o := .lst zs.reverse) (Same.refl (upd H5 p3 (.lst zs))) hp4
      have y3 := Same.fresh (o := .tup [.str "make", .ref p4]) (Same.refl (upd (upd H5 p3 (.lst zs)) p4 (.lst zs.reverse))) hp5
      have n4 : p4 ≠ C := fun z => by rw [z, y1 _ _ e5] at hp4; cases hp4
      have n5 : p5 ≠ C := fun z => by rw [z, y2 _ _ (y1 _ _ e5)] at hp5; cases hp5
      have h4 := y3 _ _ (upd_same (H := upd H5 p3 (.lst zs)) (a := p4) (o := .lst zs.reverse))
      have y123 := y1.trans (y2.trans y3)
      have eC := y123 _ _ e5
      refine yes _ _ (s5.trans y123) ?_
      rw [up, List.map_append]
      refine DaAll.app (DaAll.same (less_mono (s5.trans y123)) r) (.cons ?_ .nil)
      show Da K _ _ (.tup [.str "make", .lst (ws.reverse.map Dt.str)])
      refine .tup (by rw [less_ne n5, upd_same]) (.cons (.str _ (by decide)) (.cons (.lst (SqL.of (by rw [less_ne n4]; exact h4)) ?_) .nil))
      rw [List.map_reverse]
      exact (DaAll.lessN eC (hz.same y123) (nlA_map (fun _ => rfl) ws)).rev
    | rs a b =>
      refine ⟨_, rfl, iteF ?_⟩
      refine ⟨_, rfl, ra, _, _, _, rfl, rfl, .inl (.inl hra5), atI_nat (j := 0) rfl, rfl, _, rfl, ?_⟩
      rw [show decide (V.str (headS (Rl.rs a b)) = V.str "make") = isMk (Rl.rs a b) by rw [← head_make, Bool.eq_iff_iff, decide_eq_true_eq, decide_eq_true_eq, V.str.injEq]]
      refine iteF ⟨_, rfl, yes _ _ s5 ?_⟩
      rw [up, List.map_append]
      exact DaAll.app (DaAll.same (less_mono s5) r) (.cons (show Da K _ _ (dtL (.rs a b)) from Da.lessN e5 (dr.same s5) (nl_L _)) .nil)
    | mt a b c =>
      refine ⟨_, rfl, iteF ?_⟩
      refine ⟨_, rfl, ra, _, _, _, rfl, rfl, .inl (.inl hra5), atI_nat (j := 0) rfl, rfl, _, rfl, ?_⟩
      rw [show decide (V.str (headS (Rl.mt a b c)) = V.str "make") = isMk (Rl.mt a b c) by rw [← head_make, Bool.eq_iff_iff, decide_eq_true_eq, decide_eq_true_eq, V.str.injEq]]
      refine iteF ⟨_, rfl, yes _ _ s5 ?_⟩
      rw [up, List.map_append]
      exact DaAll.app (DaAll.same (less_mono s5) r) (.cons (show Da K _ _ (dtL (.mt a b c)) from Da.lessN e5 (dr.same s5) (nl_L _)) .nil)
  intro H4 us s4 e4 r4
  rw [lxs, List.take_length] at r4
  have r5 := DaAll.same less_same r4
  exact r3 D H4 d l ol pa pb C _ xs ys us (rs.map turnD) rs ss (D3.same s4) (S3.same s4) (B3.same s4) ok0 okA okS.few (s4 _ _ hl3) (dl3.same s4) nld (s4 _ _ ho3) (do3.same s4) nod (Tabs.same T3 s4) e4 r5 (by rw [List.map_map]; exact List.map_congr_left fun r hr => plain_turn (wok r hr)) (smA_turn wok) (fun x hx => by
    obtain ⟨r, _, rfl⟩ := List.mem_map.mp hx
    exact hd_turn r) q
end
end K
set_option Elab.async false
set_option linter.all false
set_option maxRecDepth 100000
set_option maxHeartbeats 8000000
/-! The law. -/
namespace K
open PySem L2 Hk LamX PyProof.Rows
theorem cut_first (xs : List V) (k : Int) (h : 0 ≤ k) : cutV xs none (some k) = xs.take (min k.toNat xs.length) := by
  unfold cutV
  rw [HT.sIx_none]
  have e : HT.sIx xs.length xs.length (some k) = min k.toNat xs.length := by
    show (if k < 0 then (k + (xs.length : Int)).toNat else min k.toNat xs.length) = min k.toNat xs.length
    rw [if_neg (by omega)]
  rw [e]
  simp
theorem pok_of {m : Nat} {rs : List Rl} (h : LOk m rs) (hm : m ≤ 12) : Pok rs := ⟨fun r hr => (h.all r hr).rok, Nat.le_trans h.few hm, h.one⟩
theorem has_make {rs : List Rl} (h : ("make" : Str) ∈ rs.map headS) : (rs.filter isMk).length = 1 ∨ 1 ≤ (rs.filter isMk).length := by
  obtain ⟨r, hr, e⟩ := List.mem_map.mp h
  refine .inr (List.length_pos_of_mem (List.mem_filter.mpr ⟨hr, ?_⟩))
  rw [← head_make, decide_eq_true e]
theorem no_make {rs : List Rl} (h : ¬ ("make" : Str) ∈ rs.map headS) : rs.filter isMk = [] := by
  refine List.filter_eq_nil_iff.mpr fun r hr e => h ?_
  rw [← head_make, decide_eq_true_eq] at e
  exact List.mem_map.mpr ⟨r, hr, e⟩
/-- the others, where there is a make already -/
def others2 (rs ss : List Rl) : List Rl := ss.filter fun r => !isMk r || decide (r ∈ rs)
theorem add_ok {rs ss : List Rl} (h : LOk 6 rs) (g : LOk 3 ss) (m : (ss.filter fun r => !decide (r ∈ rs)).filter isMk = [] ∨ rs.filter isMk = []) : Pok (addR rs ss) := by
  refine ⟨fun r hr => ?_, ?_, ?_⟩
  · unfold addR at hr
    rcases List.mem_append.mp hr with hr | hr
    · exact (h.all r hr).rok
    · exact (g.all r (List.mem_filter.mp hr).1).rok
  · unfold addR
    rw [List.length_append]
    have h1 := h.few
    have h2 := g.few
    have h3 := List.length_filter_le (fun r => !decide (r ∈ rs)) ss
    omega
  · unfold addR
    rw [List.filter_append, List.length_append]
    rcases m with m | m
    · rw [m]
      have := h.one
      simpa using this
    · rw [m]
      have h1 := g.one
      have h2 : ((ss.filter fun r => !decide (r ∈ rs)).filter isMk).length ≤ (ss.filter isMk).length := (List.filter_sublist.filter isMk).length_le
      simp only [List.length_nil]
      omega
theorem others_ok {rs ss : List Rl} (g : LOk 3 ss) : LOk 3 (others2 rs ss) := by
  unfold others2
  exact ⟨fun r hr => g.all r (List.mem_filter.mp hr).1, Nat.le_trans (List.length_filter_le _ _) g.few, Nat.le_trans (List.filter_sublist.filter isMk).length_le g.one⟩
theorem others_no {rs ss : List Rl} : ((others2 rs ss).filter fun r => !decide (r ∈ rs)).filter isMk = [] := by
  refine List.filter_eq_nil_iff.mpr fun r hr e => ?_
  have h1 := List.mem_filter.mp hr
  have h2 := List.mem_filter.mp h1.1
  have h3 := h1.2
  have h4 := h2.2
  rw [e] at h4
  simp at h3 h4
  exact h3 h4
section
variable {P : Program} {w : World} {K : PySem.W.Frag} {mg : Str → Option Value} {base : Heap} {CP CB CR fX fP fLR fLM fEr fLW fI fMd fWd fLn fIt fGt fEq fAd fWi f cc PP fR fPR fB cB cdB : Addr} {fd fdX fdP fdLR fdLM fdE fdLW fdI fdMd fdWd fdLn fdIt fdGt fdEq fdAd fdB : FuncData}
def spLaw (K : PySem.W.Frag) (P0 : Addr) : Sp := fun vs H Q _ => ∃ (a : Addr) (ns : List Int), vs = [.ref a] ∧ SqL K H a (ns.map V.int) ∧ Tabs [(P0, qLaw)] H ∧ ∀ H', Q (.bl true) H'
theorem ok_law (F : Fun K "law" "law" sLaw f fd) (hcode : fd.code = .ref cc) (T : TxtI P K mg fR fPR CP CB fB cB cdB fdB) (TL : TxtL P K mg CP CB CR fX fP fLR fLM fEr fLW fI fMd fWd fLn fIt fGt fEq fAd fWi) (G : GsL P w K mg base CP CB fX fP fLR fLM fEr fLW fI fMd fWd fLn fIt fGt fEq fAd fWi fdX fdP fdLR fdLM fdE fdLW fdI fdMd fdWd fdLn fdIt fdGt fdEq fdAd) (TB : TabB base mg cc PP) :
    FnOk P w K mg base CX0 10 f fd ["script"] (spLaw K PP) := by
  obtain ⟨oc, od, kV, doc, pm, an, cdv, ct, osl, rfl, lk, hcd⟩ := F.ex
  obtain rfl : cdv = .ref cc := hcode
  refine fn_of lk hcd scLaw (fun vs H Q E h => ?_) fun A outer s H vs Q E hr h => ?_
  · obtain ⟨a, ns, rfl, _⟩ := h
    rfl
  · obtain ⟨a, ns, rfl, hs, TT, q⟩ := h
    have hr5 : Room 5 _ := hr.mono (by decide)
    have hr6 : Room 6 _ := hr.mono (by decide)
    obtain ⟨tt, p4, r4⟩ := four_ok T TL G TB (outer := outer) (H := H) (E := E) hr
    refine ⟨_, pss_cons (ps_set (i := 1) scLaw.nd rfl (Or.inr rfl) (pe_lst (pa_cons (pe_slice sl_list (pv 0) po_none (po_some pe_int)) (pa_cons pe_int (pa_cons pe_int pa_nil)))))
      (pss_cons (ps_asg (pe_tup (pa_cons (pe_call G.LR hr5 (by rfl) TL.gLR TL.kLR G.bLR .nil pass0 (pa_cons (pv 1) (pa_cons pe_int pa_nil))) (pa_cons (pe_call G.LR hr5 (by rfl) TL.gLR TL.kLR G.bLR .nil pass0 (pa_cons (pv 1) (pa_cons pe_int pa_nil))) pa_nil))) (pg_tup rfl (pgs_cons (pg_name (i := 2) scLaw.nd rfl (Or.inr rfl)) (pgs_cons (pg_name (i := 3) scLaw.nd rfl (Or.inl rfl)) pgs_nil))))
      (pss_cons (ps_if (pt_cmpR op_in_seq pe_str (pe_lc (own := [("rule", 14)]) (g := gName 14) (tt := tYes) (te := tOp (rIxT K) (tVar 14) (tC (.int 0))) rfl scLaw.nd (pi_seq (pv 2)) (blkOk_by (N := nLaw) (sc := defScope sLaw) (by decide +kernel)) (fun _ _ _ _ _ => pg_name (i := 14) scLaw.nd rfl (Or.inl rfl)) (fun _ _ _ _ _ => pts_nil) (fun _ _ _ _ _ => pe_ix ix_tup (pv 14) pe_int (fun _ _ => rfl))) rfl)
        (pss_one (ps_setLc (i := 3) (own := [("rule", 14)]) (g := gName 14) (tt := tOr (tTest (tOp rNe (tOp (rIxT K) (tVar 14) (tC (.int 0))) (tC (.str "make")))) (tTest (tOp (rInD K false) (tVar 14) (tVar 2)))) (te := tVar 14) rfl scLaw.nd rfl rfl (sw_true rfl rfl rfl (by decide +kernel)) (pi_seq (pv 3)) (blkOk_by (N := nLaw) (sc := defScope sLaw) (by decide +kernel)) (fun _ _ _ _ _ => pg_name (i := 14) scLaw.nd rfl (Or.inl rfl))
          (fun _ _ _ _ _ => pts_one (PW.pt (pw_or (pt_cmpR op_ne (pe_ix ix_tup (pv 14) pe_int (fun _ _ => rfl)) pe_str (nomark _)) (pw_or1 (pt_cmpR (op_inD hr.units) (pv 14) (pv 2) rfl))))) (fun _ _ _ _ _ => pv 14))) pss_nil)
      p4)), ?_⟩
    refine ⟨_, rfl, 63, rfl, a, ns.map V.int, rfl, hs, fun sc hsc => ⟨by show 3 ≤ sizeLine; decide, fun d hd => ?_⟩⟩
    have s1 := Same.fresh (o := .lst (cutV (ns.map V.int) none (some 63))) (Same.refl H) hsc
    have s2 := Same.fresh (o := .lst [.ref sc, .int 0, .int 0]) s1 hd
    have nsd : sc ≠ d := fun z => by rw [← z, upd_same] at hd; cases hd
    have D0 : Dr K (upd (upd H sc (.lst (cutV (ns.map V.int) none (some 63)))) d (.lst [.ref sc, .int 0, .int 0])) d := by
      refine ⟨sc, ns.take (min (63 : Int).toNat (ns.map V.int).length), 0, upd_same, SqL.of ?_, nsd, Int.le_refl _⟩
      rw [upd_ne nsd, upd_same, cut_first _ _ (by decide), List.map_take]
    have T0 := Tabs.same TT s2
    generalize upd (upd H sc (.lst (cutV (ns.map V.int) none (some 63)))) d (.lst [.ref sc, .int 0, .int 0]) = H0 at D0 T0
    clear hs s1 s2 hsc hd
    -- rules, others
    refine ⟨_, rfl, d, 6, rfl, D0, by decide, fun H1 l xs rs b1 D1 nl1 nld hl1 dl1 okL => ?_⟩
    refine ⟨_, rfl, d, 3, rfl, D1, by decide, fun H2 ol ys ss b2 D2 nol nod hol dol okO => ⟨by show 2 ≤ sizeLine; decide, fun t ht => ⟨t, _, rfl, .inl (.inl upd_same), rfl, _, _, rfl, _, _, rfl, rfl, ?_⟩⟩⟩
    have sT := Same.fresh (o := .tup [.ref l, .ref ol]) (Same.refl H2) ht
    have hl3 := sT _ _ (b2 _ _ nld hl1)
    have dl3 := ((DaAll.same (less_same.trans less_same) dl1).butL D1 b2).same sT
    have ho3 := sT _ _ hol
    have do3 := (DaAll.same (less_same.trans less_same) dol).same sT
    have D3 := D2.same sT
    have T3 := Tabs.same (Tabs.but D1 (Tabs.but D0 T0 b1) b2) sT
    generalize upd H2 t (.tup [.ref l, .ref ol]) = H3 at hl3 dl3 ho3 do3 D3 T3
    clear sT ht b1 b2 D0 D1 D2 T0 nl1 hl1 dl1 nol hol dol
    have lxs : xs.length = rs.length := by rw [dl3.len, List.length_map]
    have lys : ys.length = ss.length := by rw [do3.len, List.length_map]
    have f6 := okL.few
    have f3 := okO.few
    -- "make" in ..
    refine ⟨_, rfl, true, l, xs, rfl, SqX.list (SqL.of hl3), fun J wk C hC => lcX wk hC (fun i acc H => acc = ((rs.take i).map headS).map V.str) (by rw [sizeLine_eq]; omega) (fun _ _ _ _ r _ => r) rfl (fun H9 s9 => SqX.list (SqL.of (s9 _ _ hl3))) ?_ ?_⟩
    · intro j x H9 acc hj ex s9 e9 r9 Nx yes no
      obtain ⟨r, ra, ys0, er, rfl, hra, _, _⟩ := rules_at (dl3.same s9) ex
      refine ⟨rfl, tYes_ok ⟨_, rfl, ra, _, _, _, rfl, rfl, .inl (.inl hra), atI_nat (j := 0) rfl, yes _ _ (Same.refl _) ?_⟩⟩
      rw [r9, take_up er]
      simp
    intro H4 acc s4 e4 rr4
    rw [lxs, List.take_length] at rr4
    rw [rr4] at e4
    refine ⟨C, _, rfl, .inl (SqL.of e4), rfl, flat_strs _, _, rfl, ?_⟩
    rw [if_neg Bool.false_ne_true, inV_strs]
    have hl4 := s4 _ _ hl3
    have dl4 := dl3.same s4
    have ho4 := s4 _ _ ho3
    have do4 := do3.same s4
    have D4 := D3.same s4
    have T4 := Tabs.same T3 s4
    clear s4 e4 rr4 hC hl3 dl3 ho3 do3 D3 T3
    cases hm : decide (("make" : Str) ∈ rs.map headS) with
    | false =>
      refine iteF ?_
      dsimp only [tNext]
      exact r4 _ H4 d l ol _ none xs ys rs ss D4 okL.all (pok_of okL (by decide)) (pok_of okO (by decide)) (add_ok okL okO (.inr (no_make (of_decide_eq_false hm)))) hl4 dl4 nld ho4 do4 nod T4 q
    | true =>
      refine iteT ?_
      refine ⟨_, rfl, true, ol, ys, rfl, SqX.list (SqL.of ho4), fun J wk C hC => lcX wk hC (fun i acc H => DaAll K (less C H) acc ((others2 rs (ss.take i)).map dtL)) (by rw [sizeLine_eq]; omega) (fun _ _ _ _ r b => DaAll.same (less_but b) r) .nil (fun H9 s9 => SqX.list (SqL.of (s9 _ _ ho4))) ?_ ?_⟩
      · intro j x H9 acc hj ex s9 e9 r9 Nx yes no
        obtain ⟨r0, ra, ys0, er, rfl, hra, _, dr⟩ := rules_at (do4.same s9) ex
        have up : others2 rs (ss.take (j + 1)) = others2 rs (ss.take j) ++ [r0].filter fun r => !isMk r || decide (r ∈ rs) := by
          rw [take_up er]
          unfold others2
          rw [List.filter_append]
        have keep : (!isMk r0 || decide (r0 ∈ rs)) = true → DaAll K (less C H9) (acc ++ [V.ref ra]) ((others2 rs (ss.take (j + 1))).map dtL) := fun h => by
          rw [up, List.filter_cons, if_pos h, List.filter_nil, List.map_append]
          exact DaAll.app r9 (.cons (Da.lessN e9 dr (nl_L _)) .nil)
        refine ⟨rfl, _, rfl, ra, _, _, _, rfl, rfl, .inl (.inl hra), atI_nat (j := 0) rfl, rfl, _, rfl, ?_⟩
        rw [show decide (V.str (headS r0) = V.str "make") = isMk r0 by rw [← head_make, Bool.eq_iff_iff, decide_eq_true_eq, decide_eq_true_eq, V.str.injEq]]
        cases em : isMk r0 with
        | false => exact iteT (iteT ⟨_, rfl, yes _ _ (Same.refl _) (keep (by rw [em]; rfl))⟩)
        | true =>
          refine iteF ?_
          refine ⟨_, rfl, _, rfl, l, xs, encA (rs.map dtL), encD (dtL r0), rfl, SqL.of (s9 _ _ hl4), dp_A (dl4.same s9) (ndA_map nd_L _), dp_D dr (nd_L _), lay_A _, lay_D _, by have := dep_L r0; omega, _, rfl, ?_⟩
          rw [if_neg Bool.false_ne_true, any_L]
          cases hm2 : decide (r0 ∈ rs) with
          | true => exact iteT ⟨_, rfl, yes _ _ (Same.refl _) (keep (by rw [hm2, Bool.or_true]))⟩
          | false =>
            refine iteF (no _ (Same.refl _) ?_)
            rw [up, List.filter_cons, if_neg (by rw [em, hm2]; decide), List.filter_nil, List.append_nil]
            exact r9
      intro H5 zs s5 e5 r5
      rw [lys, List.take_length] at r5
      have nCd : C ≠ d := by
        obtain ⟨_, _, _, hd4, _⟩ := D4
        exact ne_of_none' hC hd4
      dsimp only [tNext]
      have ok2 := others_ok (rs := rs) okO
      exact r4 _ H5 d l C _ none xs zs rs (others2 rs ss) (D4.same s5) okL.all (pok_of okL (by decide)) (pok_of ok2 (by decide)) (add_ok okL ok2 (.inl others_no)) (s5 _ _ hl4) (dl4.same s5) nld e5 (DaAll.same less_same r5) nCd (Tabs.same T4 s5) q
end
end K
set_option Elab.async false
set_option linter.all false
set_option maxRecDepth 100000
set_option maxHeartbeats 4000000
/-! The end: what is asked of the written part. -/
namespace K
open PySem PySem.Spec PyProof.Rows L2 Hk LamX
open PySem.W (ksFn)
theorem bad_eval {text : Str} {k : Nat} {p0 p1 p2 p3 p4 : Pos} (hl : (p2.endLine == p4.line) = true) (env : Env) : ∃ pl : Sem Bool, eval (.Call (.Attribute (.Call (.Name "super" p0) [] [] p1) "__init__" p2) [.Constant (.str text) k p3] [] p4) env = (do
      let ov ← attributeBase (.Call (.Name "super" p0) [] [] p1) "__init__" env (eval (.Call (.Name "super" p0) [] [] p1) env)
      standAt p2.atName
      let (f, first) ← holding [ov] (getMethod ov "__init__" pl)
      callWith p4 f first (backTo p4 (starEach [.Constant (.str text) k p3] env)) []) := by
  refine ⟨plainOf (.Call (.Name "super" p0) [] [] p1) env, ?_⟩
  rw [arm_eval_Call]
  congr 1
  funext ov
  congr 1
  funext _
  exact mcall_line rfl hl
end K
set_option Elab.async false
set_option linter.all false
set_option maxRecDepth 100000
set_option maxHeartbeats 4000000
/-! The end: all from what the top has left. -/
namespace K
open PySem PySem.Spec PyProof.Rows L2 Hk LamX
open PySem.W (ksFn)
theorem tabs_nil {H : Hp} {P : Addr} {q : Str} (h : H P = some (.tbl #[])) : Tabs [(P, q)] H := by
  intro p hp
  obtain rfl := List.mem_singleton.mp hp
  exact TabS.nil h
theorem all_mk {l : PySem.W.OpenLaw} {w : World} {K : PySem.W.Frag} {h : Heap} {mg : Str → Option Value} {fa CP CB CR fB cc PP fII fPl fR fG fMN fMW fWO fRW fPP fPR fC fD fN fX fP fEr fLR fLM fLW fLw fI fMd fWd fLn fIt fGt fEq fAd fWi fW fAW : Addr}
    (X : K.In h) (G : h.Ns mainGlobals mg) (hfa : mg "law" = some (.ref fa)) (hPP : h.get? PP = some { cls := .none, data := .fields #[] })
    {tk9 tk12 : Tok}
    {oc_fII kV_fII dc_fII pm_fII cd_fII ct_fII : Value} {od_fII an_fII : Option Addr} {sl_fII : Array (Option Value)}
    {oc_fPl kV_fPl dc_fPl pm_fPl cd_fPl ct_fPl : Value} {od_fPl an_fPl : Option Addr} {sl_fPl : Array (Option Value)}
    {oc_fR kV_fR dc_fR pm_fR cd_fR ct_fR : Value} {od_fR an_fR : Option Addr} {sl_fR : Array (Option Value)}
    {oc_fG kV_fG dc_fG pm_fG cd_fG ct_fG : Value} {od_fG an_fG : Option Addr} {sl_fG : Array (Option Value)}
    {oc_fMN kV_fMN dc_fMN pm_fMN cd_fMN ct_fMN : Value} {od_fMN an_fMN : Option Addr} {sl_fMN : Array (Option Value)}
    {oc_fMW kV_fMW dc_fMW pm_fMW cd_fMW ct_fMW : Value} {od_fMW an_fMW : Option Addr} {sl_fMW : Array (Option Value)}
    {oc_fWO kV_fWO dc_fWO pm_fWO cd_fWO ct_fWO : Value} {od_fWO an_fWO : Option Addr} {sl_fWO : Array (Option Value)}
    {oc_fRW kV_fRW dc_fRW pm_fRW cd_fRW ct_fRW : Value} {od_fRW an_fRW : Option Addr} {sl_fRW : Array (Option Value)}
    {oc_fPP kV_fPP dc_fPP pm_fPP cd_fPP ct_fPP : Value} {od_fPP an_fPP : Option Addr} {sl_fPP : Array (Option Value)}
    {oc_fPR kV_fPR dc_fPR pm_fPR cd_fPR ct_fPR : Value} {od_fPR an_fPR : Option Addr} {sl_fPR : Array (Option Value)}
    {oc_fC kV_fC dc_fC pm_fC cd_fC ct_fC : Value} {od_fC an_fC : Option Addr} {sl_fC : Array (Option Value)}
    {oc_fD kV_fD dc_fD pm_fD cd_fD ct_fD : Value} {od_fD an_fD : Option Addr} {sl_fD : Array (Option Value)}
    {oc_fN kV_fN dc_fN pm_fN cd_fN ct_fN : Value} {od_fN an_fN : Option Addr} {sl_fN : Array (Option Value)}
    {oc_fX kV_fX dc_fX pm_fX cd_fX ct_fX : Value} {od_fX an_fX : Option Addr} {sl_fX : Array (Option Value)}
    {oc_fP kV_fP dc_fP pm_fP cd_fP ct_fP : Value} {od_fP an_fP : Option Addr} {sl_fP : Array (Option Value)}
    {oc_fEr kV_fEr dc_fEr pm_fEr cd_fEr ct_fEr : Value} {od_fEr an_fEr : Option Addr} {sl_fEr : Array (Option Value)}
    {oc_fLR kV_fLR dc_fLR pm_fLR cd_fLR ct_fLR : Value} {od_fLR an_fLR : Option Addr} {sl_fLR : Array (Option Value)}
    {oc_fLM kV_fLM dc_fLM pm_fLM cd_fLM ct_fLM : Value} {od_fLM an_fLM : Option Addr} {sl_fLM : Array (Option Value)}
    {oc_fLW kV_fLW dc_fLW pm_fLW cd_fLW ct_fLW : Value} {od_fLW an_fLW : Option Addr} {sl_fLW : Array (Option Value)}
    {oc_fLw kV_fLw dc_fLw pm_fLw cd_fLw ct_fLw : Value} {od_fLw an_fLw : Option Addr} {sl_fLw : Array (Option Value)}
    {oc_fI kV_fI dc_fI pm_fI cd_fI ct_fI : Value} {od_fI an_fI : Option Addr} {sl_fI : Array (Option Value)}
    {oc_fMd kV_fMd dc_fMd pm_fMd cd_fMd ct_fMd : Value} {od_fMd an_fMd : Option Addr} {sl_fMd : Array (Option Value)}
    {oc_fWd kV_fWd dc_fWd pm_fWd cd_fWd ct_fWd : Value} {od_fWd an_fWd : Option Addr} {sl_fWd : Array (Option Value)}
    {oc_fLn kV_fLn dc_fLn pm_fLn cd_fLn ct_fLn : Value} {od_fLn an_fLn : Option Addr} {sl_fLn : Array (Option Value)}
    {oc_fIt kV_fIt dc_fIt pm_fIt cd_fIt ct_fIt : Value} {od_fIt an_fIt : Option Addr} {sl_fIt : Array (Option Value)}
    {oc_fGt kV_fGt dc_fGt pm_fGt cd_fGt ct_fGt : Value} {od_fGt an_fGt : Option Addr} {sl_fGt : Array (Option Value)}
    {oc_fEq kV_fEq dc_fEq pm_fEq cd_fEq ct_fEq : Value} {od_fEq an_fEq : Option Addr} {sl_fEq : Array (Option Value)}
    {oc_fAd kV_fAd dc_fAd pm_fAd cd_fAd ct_fAd : Value} {od_fAd an_fAd : Option Addr} {sl_fAd : Array (Option Value)}
    {oc_fWi kV_fWi dc_fWi pm_fWi cd_fWi ct_fWi : Value} {od_fWi an_fWi : Option Addr} {sl_fWi : Array (Option Value)}
    {oc_fW kV_fW dc_fW pm_fW cd_fW ct_fW : Value} {od_fW an_fW : Option Addr} {sl_fW : Array (Option Value)}
    {T_fW : Addr} {oT_fW : Value} {dT_fW : Option Addr} {nT_fW : Nat} {sT_fW : Array (Option Value)}
    {tk_fW : Tok}
    {oc_fAW kV_fAW dc_fAW pm_fAW cd_fAW ct_fAW : Value} {od_fAW an_fAW : Option Addr} {sl_fAW : Array (Option Value)}
    {T_fAW : Addr} {oT_fAW : Value} {dT_fAW : Option Addr} {nT_fAW : Nat} {sT_fAW : Array (Option Value)}
    {tk_fAW : Tok}
    {nm_B q_B : Str} {N_B : Addr} {bs_B bm_B sub_B : List Value} {sn_B : List Str} {ab_B : Bool} {col_B : Option Bool} {dd_B : Option Addr} {m0_B m1_B m2_B m3_B m5_B : Option Value}
    {oc_fB kV_fB dc_fB pm_fB ct_fB : Value} {od_fB an_fB : Option Addr} {sl_fB : Array (Option Value)} {kc_fB : Nat} {cdB cB : Addr}
    {a1_B a2_B p0_B p1_B p2_B p3_B p4_B p5_B q1_B q2_B q3_B q4_B : Pos}
    {ccl_B : Value} {cdd_B : Option Addr} {ccs_B : Array (Option Value)}
    {xl_B : Value} {xd_B : Option Addr} {xs_B : Array (Option Value)} {xv_B : Array Value} {file_B : Str} {tf_B : Tok}
    (g_CR : PySem.W.nsIn K mainGlobals "RightError" = some (some (.ref CR)))
    (g_CB : PySem.W.nsIn K mainGlobals "BadPolicy" = some (some (.ref CB)))
    (g_CP : PySem.W.nsIn K mainGlobals "Policy" = some (some (.ref CP)))
    (g_m9 : PySem.W.nsIn K mainGlobals "MOST_IN_ONE" = some (some (.int 9 tk9)))
    (g_m12 : PySem.W.nsIn K mainGlobals "MOST_RULES" = some (some (.int 12 tk12)))
    (g_fII : PySem.W.nsIn K mainGlobals "is_integer" = some (some (.ref fII)))
    (l_fII : K.lookup fII = some ⟨oc_fII, od_fII, .func (PySem.W.fnOf "is_integer" "is_integer" (defArgs sIsInt) (defBody sIsInt) (defScope sIsInt) .none kV_fII dc_fII pm_fII an_fII cd_fII ct_fII), sl_fII⟩)
    (c_fII : PySem.W.codeIn K cd_fII "is_integer" = true)
    (k_fII : PySem.W.keepIn K (.ref fII) = true)
    (g_fPl : PySem.W.nsIn K mainGlobals "is_place" = some (some (.ref fPl)))
    (l_fPl : K.lookup fPl = some ⟨oc_fPl, od_fPl, .func (PySem.W.fnOf "is_place" "is_place" (defArgs sIsPlace) (defBody sIsPlace) (defScope sIsPlace) .none kV_fPl dc_fPl pm_fPl an_fPl cd_fPl ct_fPl), sl_fPl⟩)
    (c_fPl : PySem.W.codeIn K cd_fPl "is_place" = true)
    (k_fPl : PySem.W.keepIn K (.ref fPl) = true)
    (g_fR : PySem.W.nsIn K mainGlobals "is_row" = some (some (.ref fR)))
    (l_fR : K.lookup fR = some ⟨oc_fR, od_fR, .func (PySem.W.fnOf "is_row" "is_row" (defArgs sIsRow) (defBody sIsRow) (defScope sIsRow) .none kV_fR dc_fR pm_fR an_fR cd_fR ct_fR), sl_fR⟩)
    (c_fR : PySem.W.codeIn K cd_fR "is_row" = true)
    (k_fR : PySem.W.keepIn K (.ref fR) = true)
    (g_fG : PySem.W.nsIn K mainGlobals "is_group" = some (some (.ref fG)))
    (l_fG : K.lookup fG = some ⟨oc_fG, od_fG, .func (PySem.W.fnOf "is_group" "is_group" (defArgs sIsGroup) (defBody sIsGroup) (defScope sIsGroup) .none kV_fG dc_fG pm_fG an_fG cd_fG ct_fG), sl_fG⟩)
    (c_fG : PySem.W.codeIn K cd_fG "is_group" = true)
    (k_fG : PySem.W.keepIn K (.ref fG) = true)
    (g_fMN : PySem.W.nsIn K mainGlobals "make_number" = some (some (.ref fMN)))
    (l_fMN : K.lookup fMN = some ⟨oc_fMN, od_fMN, .func (PySem.W.fnOf "make_number" "make_number" (defArgs sMakeNumber) (defBody sMakeNumber) (defScope sMakeNumber) .none kV_fMN dc_fMN pm_fMN an_fMN cd_fMN ct_fMN), sl_fMN⟩)
    (c_fMN : PySem.W.codeIn K cd_fMN "make_number" = true)
    (k_fMN : PySem.W.keepIn K (.ref fMN) = true)
    (g_fMW : PySem.W.nsIn K mainGlobals "made_words" = some (some (.ref fMW)))
    (l_fMW : K.lookup fMW = some ⟨oc_fMW, od_fMW, .func (PySem.W.fnOf "made_words" "made_words" (defArgs sMadeWords) (defBody sMadeWords) (defScope sMadeWords) .none kV_fMW dc_fMW pm_fMW an_fMW cd_fMW ct_fMW), sl_fMW⟩)
    (c_fMW : PySem.W.codeIn K cd_fMW "made_words" = true)
    (k_fMW : PySem.W.keepIn K (.ref fMW) = true)
    (g_fWO : PySem.W.nsIn K mainGlobals "words_of" = some (some (.ref fWO)))
    (l_fWO : K.lookup fWO = some ⟨oc_fWO, od_fWO, .func (PySem.W.fnOf "words_of" "words_of" (defArgs sWordsOf) (defBody sWordsOf) (defScope sWordsOf) .none kV_fWO dc_fWO pm_fWO an_fWO cd_fWO ct_fWO), sl_fWO⟩)
    (c_fWO : PySem.W.codeIn K cd_fWO "words_of" = true)
    (k_fWO : PySem.W.keepIn K (.ref fWO) = true)
    (g_fRW : PySem.W.nsIn K mainGlobals "rule_words" = some (some (.ref fRW)))
    (l_fRW : K.lookup fRW = some ⟨oc_fRW, od_fRW, .func (PySem.W.fnOf "rule_words" "rule_words" (defArgs sRuleWords) (defBody sRuleWords) (defScope sRuleWords) .none kV_fRW dc_fRW pm_fRW an_fRW cd_fRW ct_fRW), sl_fRW⟩)
    (c_fRW : PySem.W.codeIn K cd_fRW "rule_words" = true)
    (k_fRW : PySem.W.keepIn K (.ref fRW) = true)
    (g_fPP : PySem.W.nsIn K mainGlobals "plain_pairs" = some (some (.ref fPP)))
    (l_fPP : K.lookup fPP = some ⟨oc_fPP, od_fPP, .func (PySem.W.fnOf "plain_pairs" "plain_pairs" (defArgs sPlainPairs) (defBody sPlainPairs) (defScope sPlainPairs) .none kV_fPP dc_fPP pm_fPP an_fPP cd_fPP ct_fPP), sl_fPP⟩)
    (c_fPP : PySem.W.codeIn K cd_fPP "plain_pairs" = true)
    (k_fPP : PySem.W.keepIn K (.ref fPP) = true)
    (g_fPR : PySem.W.nsIn K mainGlobals "plain_rule" = some (some (.ref fPR)))
    (l_fPR : K.lookup fPR = some ⟨oc_fPR, od_fPR, .func (PySem.W.fnOf "plain_rule" "plain_rule" (defArgs sPlainRule) (defBody sPlainRule) (defScope sPlainRule) .none kV_fPR dc_fPR pm_fPR an_fPR cd_fPR ct_fPR), sl_fPR⟩)
    (c_fPR : PySem.W.codeIn K cd_fPR "plain_rule" = true)
    (k_fPR : PySem.W.keepIn K (.ref fPR) = true)
    (g_fC : PySem.W.nsIn K mainGlobals "_law_cell_at" = some (some (.ref fC)))
    (l_fC : K.lookup fC = some ⟨oc_fC, od_fC, .func (PySem.W.fnOf "_law_cell_at" "_law_cell_at" (defArgs sCellAt) (defBody sCellAt) (defScope sCellAt) .none kV_fC dc_fC pm_fC an_fC cd_fC ct_fC), sl_fC⟩)
    (c_fC : PySem.W.codeIn K cd_fC "_law_cell_at" = true)
    (k_fC : PySem.W.keepIn K (.ref fC) = true)
    (g_fD : PySem.W.nsIn K mainGlobals "_law_draw" = some (some (.ref fD)))
    (l_fD : K.lookup fD = some ⟨oc_fD, od_fD, .func (PySem.W.fnOf "_law_draw" "_law_draw" (defArgs sDraw) (defBody sDraw) (defScope sDraw) .none kV_fD dc_fD pm_fD an_fD cd_fD ct_fD), sl_fD⟩)
    (c_fD : PySem.W.codeIn K cd_fD "_law_draw" = true)
    (k_fD : PySem.W.keepIn K (.ref fD) = true)
    (g_fN : PySem.W.nsIn K mainGlobals "_law_number" = some (some (.ref fN)))
    (l_fN : K.lookup fN = some ⟨oc_fN, od_fN, .func (PySem.W.fnOf "_law_number" "_law_number" (defArgs sNumber) (defBody sNumber) (defScope sNumber) .none kV_fN dc_fN pm_fN an_fN cd_fN ct_fN), sl_fN⟩)
    (c_fN : PySem.W.codeIn K cd_fN "_law_number" = true)
    (k_fN : PySem.W.keepIn K (.ref fN) = true)
    (g_fX : PySem.W.nsIn K mainGlobals "_law_next" = some (some (.ref fX)))
    (l_fX : K.lookup fX = some ⟨oc_fX, od_fX, .func (PySem.W.fnOf "_law_next" "_law_next" (defArgs sNext) (defBody sNext) (defScope sNext) .none kV_fX dc_fX pm_fX an_fX cd_fX ct_fX), sl_fX⟩)
    (c_fX : PySem.W.codeIn K cd_fX "_law_next" = true)
    (k_fX : PySem.W.keepIn K (.ref fX) = true)
    (g_fP : PySem.W.nsIn K mainGlobals "_law_pick" = some (some (.ref fP)))
    (l_fP : K.lookup fP = some ⟨oc_fP, od_fP, .func (PySem.W.fnOf "_law_pick" "_law_pick" (defArgs sPick) (defBody sPick) (defScope sPick) .none kV_fP dc_fP pm_fP an_fP cd_fP ct_fP), sl_fP⟩)
    (c_fP : PySem.W.codeIn K cd_fP "_law_pick" = true)
    (k_fP : PySem.W.keepIn K (.ref fP) = true)
    (g_fEr : PySem.W.nsIn K mainGlobals "_law_error" = some (some (.ref fEr)))
    (l_fEr : K.lookup fEr = some ⟨oc_fEr, od_fEr, .func (PySem.W.fnOf "_law_error" "_law_error" (defArgs sError) (defBody sError) (defScope sError) .none kV_fEr dc_fEr pm_fEr an_fEr cd_fEr ct_fEr), sl_fEr⟩)
    (c_fEr : PySem.W.codeIn K cd_fEr "_law_error" = true)
    (k_fEr : PySem.W.keepIn K (.ref fEr) = true)
    (g_fLR : PySem.W.nsIn K mainGlobals "_law_rules" = some (some (.ref fLR)))
    (l_fLR : K.lookup fLR = some ⟨oc_fLR, od_fLR, .func (PySem.W.fnOf "_law_rules" "_law_rules" (defArgs sLRules) (defBody sLRules) (defScope sLRules) .none kV_fLR dc_fLR pm_fLR an_fLR cd_fLR ct_fLR), sl_fLR⟩)
    (c_fLR : PySem.W.codeIn K cd_fLR "_law_rules" = true)
    (k_fLR : PySem.W.keepIn K (.ref fLR) = true)
    (g_fLM : PySem.W.nsIn K mainGlobals "_law_made" = some (some (.ref fLM)))
    (l_fLM : K.lookup fLM = some ⟨oc_fLM, od_fLM, .func (PySem.W.fnOf "_law_made" "_law_made" (defArgs sLMade) (defBody sLMade) (defScope sLMade) .none kV_fLM dc_fLM pm_fLM an_fLM cd_fLM ct_fLM), sl_fLM⟩)
    (c_fLM : PySem.W.codeIn K cd_fLM "_law_made" = true)
    (k_fLM : PySem.W.keepIn K (.ref fLM) = true)
    (g_fLW : PySem.W.nsIn K mainGlobals "_law_words" = some (some (.ref fLW)))
    (l_fLW : K.lookup fLW = some ⟨oc_fLW, od_fLW, .func (PySem.W.fnOf "_law_words" "_law_words" (defArgs sLWords) (defBody sLWords) (defScope sLWords) .none kV_fLW dc_fLW pm_fLW an_fLW cd_fLW ct_fLW), sl_fLW⟩)
    (c_fLW : PySem.W.codeIn K cd_fLW "_law_words" = true)
    (k_fLW : PySem.W.keepIn K (.ref fLW) = true)
    (g_fLw : PySem.W.nsIn K mainGlobals "law" = some (some (.ref fLw)))
    (l_fLw : K.lookup fLw = some ⟨oc_fLw, od_fLw, .func (PySem.W.fnOf "law" "law" (defArgs sLaw) (defBody sLaw) (defScope sLaw) .none kV_fLw dc_fLw pm_fLw an_fLw cd_fLw ct_fLw), sl_fLw⟩)
    (c_fLw : PySem.W.codeIn K cd_fLw "law" = true)
    (k_fLw : PySem.W.keepIn K (.ref fLw) = true)
    (a_fI : PySem.W.findIn K (.ref CP) "__init__" = some (some (.ref fI)))
    (i_fI : PySem.W.isFn K (.ref fI) = true)
    (l_fI : K.lookup fI = some ⟨oc_fI, od_fI, .func (PySem.W.fnOf "__init__" "Policy.__init__" (defArgs sInit) (defBody sInit) (defScope sInit) .none kV_fI dc_fI pm_fI an_fI cd_fI ct_fI), sl_fI⟩)
    (c_fI : PySem.W.codeIn K cd_fI "Policy.__init__" = true)
    (k_fI : PySem.W.keepIn K (.ref fI) = true)
    (a_fMd : PySem.W.findIn K (.ref CP) "made" = some (some (.ref fMd)))
    (i_fMd : PySem.W.isFn K (.ref fMd) = true)
    (l_fMd : K.lookup fMd = some ⟨oc_fMd, od_fMd, .func (PySem.W.fnOf "made" "Policy.made" (defArgs sMade) (defBody sMade) (defScope sMade) .none kV_fMd dc_fMd pm_fMd an_fMd cd_fMd ct_fMd), sl_fMd⟩)
    (c_fMd : PySem.W.codeIn K cd_fMd "Policy.made" = true)
    (k_fMd : PySem.W.keepIn K (.ref fMd) = true)
    (a_fWd : PySem.W.findIn K (.ref CP) "words" = some (some (.ref fWd)))
    (i_fWd : PySem.W.isFn K (.ref fWd) = true)
    (l_fWd : K.lookup fWd = some ⟨oc_fWd, od_fWd, .func (PySem.W.fnOf "words" "Policy.words" (defArgs sWords) (defBody sWords) (defScope sWords) .none kV_fWd dc_fWd pm_fWd an_fWd cd_fWd ct_fWd), sl_fWd⟩)
    (c_fWd : PySem.W.codeIn K cd_fWd "Policy.words" = true)
    (k_fWd : PySem.W.keepIn K (.ref fWd) = true)
    (a_fLn : PySem.W.findIn K (.ref CP) "__len__" = some (some (.ref fLn)))
    (i_fLn : PySem.W.isFn K (.ref fLn) = true)
    (l_fLn : K.lookup fLn = some ⟨oc_fLn, od_fLn, .func (PySem.W.fnOf "__len__" "Policy.__len__" (defArgs sLen) (defBody sLen) (defScope sLen) .none kV_fLn dc_fLn pm_fLn an_fLn cd_fLn ct_fLn), sl_fLn⟩)
    (c_fLn : PySem.W.codeIn K cd_fLn "Policy.__len__" = true)
    (k_fLn : PySem.W.keepIn K (.ref fLn) = true)
    (a_fIt : PySem.W.findIn K (.ref CP) "__iter__" = some (some (.ref fIt)))
    (i_fIt : PySem.W.isFn K (.ref fIt) = true)
    (l_fIt : K.lookup fIt = some ⟨oc_fIt, od_fIt, .func (PySem.W.fnOf "__iter__" "Policy.__iter__" (defArgs sIter) (defBody sIter) (defScope sIter) .none kV_fIt dc_fIt pm_fIt an_fIt cd_fIt ct_fIt), sl_fIt⟩)
    (c_fIt : PySem.W.codeIn K cd_fIt "Policy.__iter__" = true)
    (k_fIt : PySem.W.keepIn K (.ref fIt) = true)
    (a_fGt : PySem.W.findIn K (.ref CP) "__getitem__" = some (some (.ref fGt)))
    (i_fGt : PySem.W.isFn K (.ref fGt) = true)
    (l_fGt : K.lookup fGt = some ⟨oc_fGt, od_fGt, .func (PySem.W.fnOf "__getitem__" "Policy.__getitem__" (defArgs sGetitem) (defBody sGetitem) (defScope sGetitem) .none kV_fGt dc_fGt pm_fGt an_fGt cd_fGt ct_fGt), sl_fGt⟩)
    (c_fGt : PySem.W.codeIn K cd_fGt "Policy.__getitem__" = true)
    (k_fGt : PySem.W.keepIn K (.ref fGt) = true)
    (a_fEq : PySem.W.findIn K (.ref CP) "__eq__" = some (some (.ref fEq)))
    (i_fEq : PySem.W.isFn K (.ref fEq) = true)
    (l_fEq : K.lookup fEq = some ⟨oc_fEq, od_fEq, .func (PySem.W.fnOf "__eq__" "Policy.__eq__" (defArgs sEq) (defBody sEq) (defScope sEq) .none kV_fEq dc_fEq pm_fEq an_fEq cd_fEq ct_fEq), sl_fEq⟩)
    (c_fEq : PySem.W.codeIn K cd_fEq "Policy.__eq__" = true)
    (k_fEq : PySem.W.keepIn K (.ref fEq) = true)
    (a_fAd : PySem.W.findIn K (.ref CP) "__add__" = some (some (.ref fAd)))
    (i_fAd : PySem.W.isFn K (.ref fAd) = true)
    (l_fAd : K.lookup fAd = some ⟨oc_fAd, od_fAd, .func (PySem.W.fnOf "__add__" "Policy.__add__" (defArgs sAdd) (defBody sAdd) (defScope sAdd) .none kV_fAd dc_fAd pm_fAd an_fAd cd_fAd ct_fAd), sl_fAd⟩)
    (c_fAd : PySem.W.codeIn K cd_fAd "Policy.__add__" = true)
    (k_fAd : PySem.W.keepIn K (.ref fAd) = true)
    (a_fWi : PySem.W.findIn K (.ref CP) "without" = some (some (.ref fWi)))
    (i_fWi : PySem.W.isFn K (.ref fWi) = true)
    (l_fWi : K.lookup fWi = some ⟨oc_fWi, od_fWi, .func (PySem.W.fnOf "without" "Policy.without" (defArgs sWithout) (defBody sWithout) (defScope sWithout) .none kV_fWi dc_fWi pm_fWi an_fWi cd_fWi ct_fWi), sl_fWi⟩)
    (c_fWi : PySem.W.codeIn K cd_fWi "Policy.without" = true)
    (k_fWi : PySem.W.keepIn K (.ref fWi) = true)
    (n_fGt : PySem.W.fnIn K fGt = true)
    (g_fW : PySem.W.nsIn K mainGlobals "is_word" = some (some (.ref fW)))
    (l_fW : K.lookup fW = some ⟨oc_fW, od_fW, .func (PySem.W.fnOf "is_word" "is_word" (defArgs sIsWord) (defBody sIsWord) (defScope sIsWord) (.ref T_fW) kV_fW dc_fW pm_fW an_fW cd_fW ct_fW), sl_fW⟩)
    (c_fW : PySem.W.codeIn K cd_fW "is_word" = true)
    (k_fW : PySem.W.keepIn K (.ref fW) = true)
    (t_fW : K.lookup T_fW = some ⟨oT_fW, dT_fW, .seq (List.toArray [.int 8 tk_fW]) nT_fW, sT_fW⟩)
    (g_fAW : PySem.W.nsIn K mainGlobals "are_words" = some (some (.ref fAW)))
    (l_fAW : K.lookup fAW = some ⟨oc_fAW, od_fAW, .func (PySem.W.fnOf "are_words" "are_words" (defArgs sAreWords) (defBody sAreWords) (defScope sAreWords) (.ref T_fAW) kV_fAW dc_fAW pm_fAW an_fAW cd_fAW ct_fAW), sl_fAW⟩)
    (c_fAW : PySem.W.codeIn K cd_fAW "are_words" = true)
    (k_fAW : PySem.W.keepIn K (.ref fAW) = true)
    (t_fAW : K.lookup T_fAW = some ⟨oT_fAW, dT_fAW, .seq (List.toArray [.int 8 tk_fAW]) nT_fAW, sT_fAW⟩)
    (z_len : PySem.W.nsIn K mainGlobals "len" = some none)
    (z_int : PySem.W.nsIn K mainGlobals "int" = some none)
    (z_range : PySem.W.nsIn K mainGlobals "range" = some none)
    (z_isinstance : PySem.W.nsIn K mainGlobals "isinstance" = some none)
    (z_list : PySem.W.nsIn K mainGlobals "list" = some none)
    (z_tuple : PySem.W.nsIn K mainGlobals "tuple" = some none)
    (z_str : PySem.W.nsIn K mainGlobals "str" = some none)
    (z_dict : PySem.W.nsIn K mainGlobals "dict" = some none)
    (z_set : PySem.W.nsIn K mainGlobals "set" = some none)
    (z_all : PySem.W.nsIn K mainGlobals "all" = some none)
    (z_any : PySem.W.nsIn K mainGlobals "any" = some none)
    (z_sorted : PySem.W.nsIn K mainGlobals "sorted" = some none)
    (z_iter : PySem.W.nsIn K mainGlobals "iter" = some none)
    (z_super : PySem.W.nsIn K mainGlobals "super" = some none)
    (z_bool : PySem.W.nsIn K mainGlobals "bool" = some none)
    (z_enumerate : PySem.W.nsIn K mainGlobals "enumerate" = some none)
    (z_min : PySem.W.nsIn K mainGlobals "min" = some none)
    (z_sum : PySem.W.nsIn K mainGlobals "sum" = some none)
    (s_pg : PySem.W.plainGet K CP Str.empty = true)
    (s_hd : PySem.W.hasDictIn K CP = true)
    (s_po : PySem.W.plainOver K CP = true)
    (s_sa : PySem.W.findIn K (.ref CP) "__setattr__" = some (some (.builtin "object.__setattr__")))
    (s_mk : PySem.W.makesIn K CP = true)
    (s_kp : PySem.W.keepIn K (.ref CP) = true)
    (s_nrules : PySem.W.findIn K (.ref CP) "rules" = some none)
    (s_ha : PySem.W.findIn K (.ref CP) "__class__" = some (some (.builtin "object.__class__")))
    (o_hn : PySem.W.specialIn K (.builtin "object.__class__") "__get__" = some (some (.builtin "getset_descriptor.__get__")))
    (o_tk : PySem.W.takesIn K (.builtin "object.__class__") = some true)
    (s_hm : PySem.W.mroIn K CP (.type "object") = some true)
    (s_ne : PySem.W.findIn K (.ref CP) "__ne__" = some (some (.builtin "object.__ne__")))
    (s_sf : PySem.W.selfFirst K CP = true)
    (e_B : PySem.W.exmOne K (.ref CB) (.ref CR) = some true)
    (o_ho : PySem.W.nsIn K cStatics "thirdparty.any" = some none)
    (x_gaB : PySem.W.findIn K (.ref CB) "__getattribute__" = some (some (.builtin "BaseException.__getattribute__")))
    (x_ggB : PySem.W.findIn K (.ref CB) "__getattr__" = some none)
    (x_exB : PySem.W.subIn K (.ref CB) (.type "BaseException") = some true)
    (x_hdB : PySem.W.hasDictIn K CB = true)
    (x_noB : PySem.W.findIn K (.ref CB) "number" = some none)
    (x_haB : PySem.W.findIn K (.ref CB) "__class__" = some (some (.builtin "object.__class__")))
    (x_hmB : PySem.W.mroIn K CB (.type "object") = some true)
    (x_clB : K.lookup CB = some (excClassObj nm_B q_B CB N_B bs_B bm_B true sn_B sub_B ab_B col_B dd_B m0_B m1_B m2_B m3_B m5_B "ValueError.__new__"))
    (x_bmB : PySem.HandSPX.refsVE bm_B = true)
    (x_saB : PySem.W.findIn K (.ref CB) "__setattr__" = some (some (.builtin "object.__setattr__")))
    (x_tyB : PySem.W.typeIn K (.ref CB) = some (.type "type"))
    (x_kpB : PySem.W.keepIn K (.ref CB) = true)
    (x_inB : PySem.W.findIn K (.ref CB) "__init__" = some (some (.ref fB)))
    (x_tiB : PySem.W.typeIn K (.ref fB) = some (.type "function"))
    (x_suB : PySem.W.ks_superIn K CB CB "__init__" = some (some (.builtin "ValueError.__init__")))
    (x_svB : PySem.W.subIn K (.ref CB) (.type "ValueError") = some true)
    (x_mrB : PySem.W.mroIn K CB (.ref CB) = some true)
    (x_fnB : K.lookup fB = some ⟨oc_fB, od_fB, .func (ksFn "__init__" "BadPolicy.__init__" (bA "number" a1_B a2_B) (bB "number" "this is no policy, or no rule of one" kc_fB p0_B p1_B p2_B p3_B p4_B p5_B q1_B q2_B q3_B q4_B) (bS "number") .none kV_fB dc_fB pm_fB an_fB (.ref cdB) ct_fB cB), sl_fB⟩)
    (x_ciB : PySem.W.codeIn K (.ref cdB) "BadPolicy.__init__" = true)
    (x_lnB : (p2_B.endLine == p4_B.line) = true)
    (x_ceB : K.lookup cB = some ⟨ccl_B, cdd_B, .cell (some (.ref CB)), ccs_B⟩)
    (x_coB : K.lookup cdB = some ⟨xl_B, xd_B, .fields xv_B, xs_B⟩)
    (x_c2B : xv_B[2]? = some (.str file_B tf_B))
    (x_cfB : (l.prog.main.file == file_B) = true)
    (z_top : (l.prog.main.scope.names.lookup ("super" : Str)).isSome = false)
    (t_cd : cd_fLw = .ref cc)
    (t_hd : PySem.W.codeHdIn K cc PP = true)
    (t_no : K.lookup PP = none) : LawAtS l w K CX0 10 63 "script" mg fa h := by
  have e := hfa.symm.trans (PySem.W.mg_of X G g_fLw)
  cases e
  have F_fII := fun_mk (st := sIsInt) l_fII c_fII k_fII
  have b_fII := F_fII.binds (ps := ["value"]) fun _ _ _ _ _ _ us hl => match us, hl with | [_], _ => rfl
  have F_fPl := fun_mk (st := sIsPlace) l_fPl c_fPl k_fPl
  have b_fPl := F_fPl.binds (ps := ["value", "many"]) fun _ _ _ _ _ _ us hl => match us, hl with | [_, _], _ => rfl
  have F_fR := fun_mk (st := sIsRow) l_fR c_fR k_fR
  have b_fR := F_fR.binds (ps := ["value"]) fun _ _ _ _ _ _ us hl => match us, hl with | [_], _ => rfl
  have F_fG := fun_mk (st := sIsGroup) l_fG c_fG k_fG
  have b_fG := F_fG.binds (ps := ["value", "many"]) fun _ _ _ _ _ _ us hl => match us, hl with | [_, _], _ => rfl
  have F_fMN := fun_mk (st := sMakeNumber) l_fMN c_fMN k_fMN
  have b_fMN := F_fMN.binds (ps := ["rules"]) fun _ _ _ _ _ _ us hl => match us, hl with | [_], _ => rfl
  have F_fMW := fun_mk (st := sMadeWords) l_fMW c_fMW k_fMW
  have b_fMW := F_fMW.binds (ps := ["rules"]) fun _ _ _ _ _ _ us hl => match us, hl with | [_], _ => rfl
  have F_fWO := fun_mk (st := sWordsOf) l_fWO c_fWO k_fWO
  have b_fWO := F_fWO.binds (ps := ["rule"]) fun _ _ _ _ _ _ us hl => match us, hl with | [_], _ => rfl
  have F_fRW := fun_mk (st := sRuleWords) l_fRW c_fRW k_fRW
  have b_fRW := F_fRW.binds (ps := ["rules"]) fun _ _ _ _ _ _ us hl => match us, hl with | [_], _ => rfl
  have F_fPP := fun_mk (st := sPlainPairs) l_fPP c_fPP k_fPP
  have b_fPP := F_fPP.binds (ps := ["pairs"]) fun _ _ _ _ _ _ us hl => match us, hl with | [_], _ => rfl
  have F_fPR := fun_mk (st := sPlainRule) l_fPR c_fPR k_fPR
  have b_fPR := F_fPR.binds (ps := ["rule"]) fun _ _ _ _ _ _ us hl => match us, hl with | [_], _ => rfl
  have F_fC := fun_mk (st := sCellAt) l_fC c_fC k_fC
  have b_fC := F_fC.binds (ps := ["script", "k"]) fun _ _ _ _ _ _ us hl => match us, hl with | [_, _], _ => rfl
  have F_fD := fun_mk (st := sDraw) l_fD c_fD k_fD
  have b_fD := F_fD.binds (ps := ["cell", "k", "bound"]) fun _ _ _ _ _ _ us hl => match us, hl with | [_, _, _], _ => rfl
  have F_fN := fun_mk (st := sNumber) l_fN c_fN k_fN
  have b_fN := F_fN.binds (ps := ["cell", "k", "bound"]) fun _ _ _ _ _ _ us hl => match us, hl with | [_, _, _], _ => rfl
  have F_fX := fun_mk (st := sNext) l_fX c_fX k_fX
  have b_fX := F_fX.binds (ps := ["draw", "bound"]) fun _ _ _ _ _ _ us hl => match us, hl with | [_, _], _ => rfl
  have F_fP := fun_mk (st := sPick) l_fP c_fP k_fP
  have b_fP := F_fP.binds (ps := ["draw", "things"]) fun _ _ _ _ _ _ us hl => match us, hl with | [_, _], _ => rfl
  have F_fEr := fun_mk (st := sError) l_fEr c_fEr k_fEr
  have b_fEr := F_fEr.binds (ps := ["call"]) fun _ _ _ _ _ _ us hl => match us, hl with | [_], _ => rfl
  have F_fLR := fun_mk (st := sLRules) l_fLR c_fLR k_fLR
  have b_fLR := F_fLR.binds (ps := ["draw", "most"]) fun _ _ _ _ _ _ us hl => match us, hl with | [_, _], _ => rfl
  have F_fLM := fun_mk (st := sLMade) l_fLM c_fLM k_fLM
  have b_fLM := F_fLM.binds (ps := ["rules"]) fun _ _ _ _ _ _ us hl => match us, hl with | [_], _ => rfl
  have F_fLW := fun_mk (st := sLWords) l_fLW c_fLW k_fLW
  have b_fLW := F_fLW.binds (ps := ["rule"]) fun _ _ _ _ _ _ us hl => match us, hl with | [_], _ => rfl
  have F_fLw := fun_mk (st := sLaw) l_fLw c_fLw k_fLw
  have b_fLw := F_fLw.binds (ps := ["script"]) fun _ _ _ _ _ _ us hl => match us, hl with | [_], _ => rfl
  have F_fI := fun_mk (st := sInit) l_fI c_fI k_fI
  have b_fI := F_fI.binds (ps := ["self", "rules"]) fun _ _ _ _ _ _ us hl => match us, hl with | [_, _], _ => rfl
  have F_fMd := fun_mk (st := sMade) l_fMd c_fMd k_fMd
  have b_fMd := F_fMd.binds (ps := ["self"]) fun _ _ _ _ _ _ us hl => match us, hl with | [_], _ => rfl
  have F_fWd := fun_mk (st := sWords) l_fWd c_fWd k_fWd
  have b_fWd := F_fWd.binds (ps := ["self"]) fun _ _ _ _ _ _ us hl => match us, hl with | [_], _ => rfl
  have F_fLn := fun_mk (st := sLen) l_fLn c_fLn k_fLn
  have b_fLn := F_fLn.binds (ps := ["self"]) fun _ _ _ _ _ _ us hl => match us, hl with | [_], _ => rfl
  have F_fIt := fun_mk (st := sIter) l_fIt c_fIt k_fIt
  have b_fIt := F_fIt.binds (ps := ["self"]) fun _ _ _ _ _ _ us hl => match us, hl with | [_], _ => rfl
  have F_fGt := fun_mk (st := sGetitem) l_fGt c_fGt k_fGt
  have b_fGt := F_fGt.binds (ps := ["self", "number"]) fun _ _ _ _ _ _ us hl => match us, hl with | [_, _], _ => rfl
  have F_fEq := fun_mk (st := sEq) l_fEq c_fEq k_fEq
  have b_fEq := F_fEq.binds (ps := ["self", "other"]) fun _ _ _ _ _ _ us hl => match us, hl with | [_, _], _ => rfl
  have F_fAd := fun_mk (st := sAdd) l_fAd c_fAd k_fAd
  have b_fAd := F_fAd.binds (ps := ["self", "other"]) fun _ _ _ _ _ _ us hl => match us, hl with | [_, _], _ => rfl
  have F_fWi : FunD K "without" "Policy.without" (defArgs sWithout) (defBody sWithout) (defScope sWithout) [] [] fWi _ := ⟨⟨_, _, _, _, _, _, _, _, _, _, rfl, l_fWi, c_fWi, .inl ⟨rfl, rfl⟩, .inl rfl⟩, k_fWi⟩
  have F_fW : FunD K "is_word" "is_word" (defArgs sIsWord) (defBody sIsWord) (defScope sIsWord) [.int 8] [] fW _ := ⟨⟨_, _, _, _, _, _, _, _, _, _, rfl, l_fW, c_fW, .inr ⟨by simp, T_fW, _, [.int 8 tk_fW], _, rfl, t_fW, rfl, .cons ⟨_, rfl⟩ .nil⟩, .inl rfl⟩, k_fW⟩
  obtain ⟨d0_fW, v0_fW, b_fW⟩ := F_fW.binds1 (ps := ["value", "longest"]) 2 1 (by simp) rfl fun T kV doc pm an cdv ct us its l1 l2 => match us, its, l1, l2 with | [_, _], [_], _, _ => ⟨_, rfl, rfl⟩
  cases v0_fW
  obtain ⟨d1_fW, v1_fW, b1_fW⟩ := F_fW.binds1 (ps := ["value", "longest"]) 1 0 (by simp) rfl fun T kV doc pm an cdv ct us its l1 l2 => match us, its, l1, l2 with | [_], [_], _, _ => ⟨_, rfl, rfl⟩
  have F_fAW : FunD K "are_words" "are_words" (defArgs sAreWords) (defBody sAreWords) (defScope sAreWords) [.int 8] [] fAW _ := ⟨⟨_, _, _, _, _, _, _, _, _, _, rfl, l_fAW, c_fAW, .inr ⟨by simp, T_fAW, _, [.int 8 tk_fAW], _, rfl, t_fAW, rfl, .cons ⟨_, rfl⟩ .nil⟩, .inl rfl⟩, k_fAW⟩
  obtain ⟨d0_fAW, v0_fAW, b_fAW⟩ := F_fAW.binds1 (ps := ["value", "longest"]) 2 1 (by simp) rfl fun T kV doc pm an cdv ct us its l1 l2 => match us, its, l1, l2 with | [_, _], [_], _, _ => ⟨_, rfl, rfl⟩
  cases v0_fAW
  obtain ⟨d1_fAW, v1_fAW, b1_fAW⟩ := F_fAW.binds1 (ps := ["value", "longest"]) 1 0 (by simp) rfl fun T kV doc pm an cdv ct us its l1 l2 => match us, its, l1, l2 with | [_], [_], _, _ => ⟨_, rfl, rfl⟩
  have TF : TxtF mg := ⟨PySem.W.mg_none_of X G z_len, PySem.W.mg_none_of X G z_isinstance, PySem.W.mg_none_of X G z_list, PySem.W.mg_none_of X G z_tuple, PySem.W.mg_none_of X G z_str, PySem.W.mg_none_of X G z_dict, PySem.W.mg_none_of X G z_set, PySem.W.mg_none_of X G z_all, PySem.W.mg_none_of X G z_any, PySem.W.mg_none_of X G z_sorted, PySem.W.mg_none_of X G z_iter⟩
  have TG : TxtG mg := ⟨TF, PySem.W.mg_none_of X G z_int, PySem.W.mg_none_of X G z_bool, PySem.W.mg_none_of X G z_enumerate, PySem.W.mg_none_of X G z_min, PySem.W.mg_none_of X G z_sum, PySem.W.mg_none_of X G z_range⟩
  have TW : TxtW K mg fR fW := ⟨TF, PySem.W.mg_of X G g_fR, PySem.W.mg_of X G g_fW, k_fR, k_fW⟩
  have bad_B : BadTxt l.prog K mg CB fB cB cdB "number" "this is no policy, or no rule of one" "BadPolicy.__init__" _ := { oex := { cls := ⟨_, _, _, _, _, _, _, _, _, _, _, _, _, _, _, x_clB, x_bmB⟩, sa := x_saB, exC := x_exB, tyC := x_tyB, kC := x_kpB }, noN := x_noB, iC := x_inB, tI := x_tiB, ho := o_ho, sup := x_suB, subV := x_svB, mro := x_mrB, noSuper := PySem.W.mg_none_of X G z_super, top := z_top, cell := ⟨_, _, _, x_ceB⟩, code := ⟨_, _, _, _, _, _, x_coB, x_c2B, x_cfB⟩, fn := ⟨_, _, _, _, _, _, _, _, _, _, _, _, _, _, _, _, _, _, _, _, _, _, rfl, x_fnB, x_ciB, fun env _ => bad_eval x_lnB env⟩ }
  have bb_B : Binds K _ ["self", "number"] [] := .all (fd := ksFn "__init__" "BadPolicy.__init__" (bA "number" a1_B a2_B) (bB "number" "this is no policy, or no rule of one" kc_fB p0_B p1_B p2_B p3_B p4_B p5_B q1_B q2_B q3_B q4_B) (bS "number") .none kV_fB dc_fB pm_fB an_fB (.ref cdB) ct_fB cB) fun us hl => match us, hl with | [_, _], _ => rfl
  have TP : TxtP K mg fR fG := ⟨TG, PySem.W.mg_of X G g_fR, k_fR, PySem.W.mg_of X G g_fG, k_fG, ⟨_, PySem.W.mg_of X G g_m9, ⟨_, rfl⟩⟩⟩
  have TPR : TxtPR K mg fAW fW fPP fG := ⟨TG, PySem.W.mg_of X G g_fAW, k_fAW, PySem.W.mg_of X G g_fW, k_fW, PySem.W.mg_of X G g_fPP, k_fPP, PySem.W.mg_of X G g_fG, k_fG, ⟨_, PySem.W.mg_of X G g_m9, ⟨_, rfl⟩⟩⟩
  have TI : TxtI l.prog K mg fR fPR CP CB fB cB cdB _ := { g := TG, gR := PySem.W.mg_of X G g_fR, kR := k_fR, gPR := PySem.W.mg_of X G g_fPR, kPR := k_fPR, m12 := ⟨_, PySem.W.mg_of X G g_m12, ⟨_, rfl⟩⟩, cl := ⟨s_pg, s_hd, s_po, s_sa⟩, nR := s_nrules, gP := PySem.W.mg_of X G g_CP, gB := PySem.W.mg_of X G g_CB, B := bad_B, bB := bb_B }
  have xc_B : ExcC K CB := ⟨x_gaB, x_ggB, x_exB, x_hdB, x_haB, o_hn, o_tk, x_hmB⟩
  have TE : TxtE K mg CR CB := ⟨PySem.W.mg_none_of X G z_isinstance, PySem.W.mg_of X G g_CR, PySem.W.mg_of X G g_CB, e_B, ⟨x_gaB, x_ggB, x_exB, x_hdB⟩, x_noB, xc_B⟩
  have MK : Mk K CP fI := ⟨s_mk, a_fI, i_fI, s_kp⟩
  have M_fMd : Meth K CP _ fMd := ⟨a_fMd, i_fMd, k_fMd⟩
  have M_fWd : Meth K CP _ fWd := ⟨a_fWd, i_fWd, k_fWd⟩
  have M_fWi : Meth K CP _ fWi := ⟨a_fWi, i_fWi, k_fWi⟩
  have TL : TxtL l.prog K mg CP CB CR fX fP fLR fLM fEr fLW fI fMd fWd fLn fIt fGt fEq fAd fWi := { g := TG, gX := PySem.W.mg_of X G g_fX, kX := k_fX, gP := PySem.W.mg_of X G g_fP, kP := k_fP, gLR := PySem.W.mg_of X G g_fLR, kLR := k_fLR, gLM := PySem.W.mg_of X G g_fLM, kLM := k_fLM, gE := PySem.W.mg_of X G g_fEr, kE := k_fEr, gLW := PySem.W.mg_of X G g_fLW, kLW := k_fLW, e := TE, made := MK, mM := M_fMd, mW := M_fWd, mWi := M_fWi, ne := s_ne, mro := s_hm, eq := a_fEq, eqF := i_fEq, ln := a_fLn, lnF := i_fLn, it := a_fIt, itF := i_fIt, gt := a_fGt, gtI := n_fGt, gtF := i_fGt, ad := a_fAd, adF := i_fAd, adS := s_sf }
  have TD : TxtD K mg fC fD fN fX := ⟨PySem.W.mg_none_of X G z_len, PySem.W.mg_none_of X G z_int, PySem.W.mg_none_of X G z_range, PySem.W.mg_of X G g_fC, PySem.W.mg_of X G g_fD, PySem.W.mg_of X G g_fN, PySem.W.mg_of X G g_fX, k_fC, k_fD, k_fN, k_fX⟩
  have TLR : TxtLR K mg fX fP := ⟨TG, PySem.W.mg_of X G g_fX, k_fX, PySem.W.mg_of X G g_fP, k_fP⟩
  refine ⟨PySem.W.fnOf "law" "law" (defArgs sLaw) (defBody sLaw) (defScope sLaw) .none kV_fLw dc_fLw pm_fLw an_fLw cd_fLw ct_fLw, [(cc, PP)], spLaw K PP, fun p hp => ?_, fun p hp => ?_, fun p hp => ?_, fun s u => .of_eq rfl, fun H a ns hl hb hT hS => ?_, fun base hK hN hB => ?_⟩
  · obtain rfl := List.mem_singleton.mp hp
    exact hPP
  · obtain rfl := List.mem_singleton.mp hp
    exact t_no
  · obtain rfl := List.mem_singleton.mp hp
    exact PySem.W.codeHd_of_K X t_hd
  · exact ⟨a, ns, rfl, hS, tabs_nil (hT _ (List.mem_singleton.mpr rfl)), fun _ => rfl⟩
  have TB : TabB base mg cc PP := hB _ (List.mem_singleton.mpr rfl)
  have G_fR : FnOk l.prog w K mg base CX0 1 fR _ ["value"] (spIsRow K) := ok_is_row F_fR TF
  have G_fW : FnOk l.prog w K mg base CX0 1 fW _ ["value", "longest"] (spIsWord K) := ok_is_word F_fW TF
  have G_fAW : FnOk l.prog w K mg base CX0 2 fAW _ ["value", "longest"] (spAreWords K) := ok_are_words F_fAW TW G_fR b_fR G_fW b_fW
  have G_fII : FnOk l.prog w K mg base CX0 1 fII _ ["value"] (spIsInt K) := ok_is_int F_fII TG
  have G_fPl : FnOk l.prog w K mg base CX0 2 fPl _ ["value", "many"] (spIsPlace K) := ok_is_place F_fPl (PySem.W.mg_of X G g_fII) k_fII G_fII b_fII
  have G_fG : FnOk l.prog w K mg base CX0 2 fG _ ["value", "many"] (spIsGroup K) := ok_is_group F_fG TG (PySem.W.mg_of X G g_fW) k_fW G_fW b1_fW v1_fW
  have G_fMN : FnOk l.prog w K mg base CX0 1 fMN _ ["rules"] (spMakeNo K) := ok_make_no F_fMN TG
  have G_fMW : FnOk l.prog w K mg base CX0 2 fMW _ ["rules"] (spMade K) := ok_made_words F_fMW (PySem.W.mg_of X G g_fMN) k_fMN G_fMN b_fMN
  have G_fWO : FnOk l.prog w K mg base CX0 1 fWO _ ["rule"] (spWordsOf K) := ok_words_of F_fWO TG
  have G_fRW : FnOk l.prog w K mg base CX0 2 fRW _ ["rules"] (spRuleWords K) := ok_rule_words F_fRW TG (PySem.W.mg_of X G g_fWO) k_fWO G_fWO b_fWO
  have G_fPP : FnOk l.prog w K mg base CX0 3 fPP _ ["pairs"] (spPP K) := ok_plain_pairs F_fPP TP G_fR b_fR G_fG b_fG
  have G_fPR : FnOk l.prog w K mg base CX0 4 fPR _ ["rule"] (spPR K) := ok_plain_rule F_fPR TPR G_fAW b1_fAW v1_fAW G_fW b1_fW v1_fW G_fPP b_fPP G_fG b_fG
  have G_fI : FnOk l.prog w K mg base (L2.CX l.prog w) 5 fI _ ["self", "rules"] (spInit K CP CB) := ok_init F_fI TI G_fR b_fR G_fPR b_fPR
  have G_fMd : FnOk l.prog w K mg base CX0 3 fMd _ ["self"] (spMd K CP) := ok_made F_fMd TI (PySem.W.mg_of X G g_fMW) k_fMW G_fMW b_fMW
  have G_fWd : FnOk l.prog w K mg base CX0 3 fWd _ ["self"] (spWd K CP) := ok_words F_fWd TI (PySem.W.mg_of X G g_fRW) k_fRW G_fRW b_fRW
  have G_fLn : FnOk l.prog w K mg base CX0 1 fLn _ ["self"] (spLen K CP) := ok_len F_fLn TI
  have G_fIt : FnOk l.prog w K mg base CX0 1 fIt _ ["self"] (spIter CP) := ok_iter F_fIt TI (PySem.W.mg_none_of X G z_iter)
  have G_fGt : FnOk l.prog w K mg base (L2.CX l.prog w) 3 fGt _ ["self", "number"] (spGet K CP CB) := ok_get F_fGt TI (PySem.W.mg_of X G g_fPl) k_fPl G_fPl b_fPl
  have G_fEq : FnOk l.prog w K mg base CX0 1 fEq _ ["self", "other"] (spEq K CP) := ok_eq F_fEq TI ⟨s_ha, o_hn, o_tk, s_hm⟩
  have G_fAd : FnOk l.prog w K mg base (L2.CX l.prog w) 7 fAd _ ["self", "other"] (spAdd K CP) := ok_add F_fAd TI ⟨s_ha, o_hn, o_tk, s_hm⟩ G_fI b_fI MK
  have G_fWi : FnR l.prog w K mg base (L2.CX l.prog w) 7 fWi (spWiX K CP CB) := ok_without F_fWi TI (PySem.W.mg_of X G g_fPl) k_fPl G_fPl b_fPl G_fI b_fI MK
  have G_fX : FnOk l.prog w K mg base CX0 3 fX _ ["draw", "bound"] (spNext K) := ok_next F_fX TD F_fC b_fC F_fD b_fD F_fN b_fN
  have G_fP : FnOk l.prog w K mg base CX0 4 fP _ ["draw", "things"] (spPick K) := ok_pick F_fP TD G_fX b_fX
  have G_fLR : FnOk l.prog w K mg base CX0 5 fLR _ ["draw", "most"] (spLR K) := ok_lrules F_fLR TLR G_fX b_fX G_fP b_fP
  have G_fLM : FnOk l.prog w K mg base CX0 1 fLM _ ["rules"] (spLMade K) := ok_lmade F_fLM TG
  have G_fLW : FnOk l.prog w K mg base CX0 1 fLW _ ["rule"] (spWordsOf K) := ok_lwords F_fLW TG
  have GS : GsL l.prog w K mg base CP CB fX fP fLR fLM fEr fLW fI fMd fWd fLn fIt fGt fEq fAd fWi _ _ _ _ _ _ _ _ _ _ _ _ _ _ := ⟨G_fX, b_fX, G_fP, b_fP, G_fLR, b_fLR, G_fLM, b_fLM, G_fLW, b_fLW, F_fEr, b_fEr, G_fI, b_fI, G_fMd, b_fMd, G_fWd, b_fWd, G_fLn, b_fLn, G_fIt, b_fIt, G_fGt, b_fGt, G_fEq, b_fEq, G_fAd, b_fAd, G_fWi⟩
  exact ok_law F_fLw t_cd TI TL GS TB
end K
open PySem PySem.W PyProof.Rows
set_option Elab.async false
set_option maxRecDepth 100000 in
set_option maxHeartbeats 0 in
theorem PySem.Challenge.cw_handedkeys_k02_whole_policies_holds : PySem.Challenge.rw_handedkeys_k02_whole_policies.Holds := by
  w_on; o_law; k_head; (case hw => w_witness2)
  k_fill
  refine LamX.walk_ofTs (l := PySem.Challenge.rw_handedkeys_k02_whole_policies) (n := 63) (k := 10) (CX := fun _ => L2.CX0) (x := "script") rfl (by decide) rfl ⟨rfl, by decide, by decide⟩ (fun w h Y => PySem.W.km_in_of Y) ?F (fun _ _ _ _ _ z => z)
  case F =>
    intro w mg fa h Y KX G hmg
    refine' K.all_mk (l := PySem.Challenge.rw_handedkeys_k02_whole_policies) KX G hmg (PySem.W.km_tabs_of Y _ (List.mem_singleton.mpr rfl)) ?g_CR ?g_CB ?g_CP ?g_m9 ?g_m12 ?g_fII ?l_fII ?c_fII ?k_fII ?g_fPl ?l_fPl ?c_fPl ?k_fPl ?g_fR ?l_fR ?c_fR ?k_fR ?g_fG ?l_fG ?c_fG ?k_fG ?g_fMN ?l_fMN ?c_fMN ?k_fMN ?g_fMW ?l_fMW ?c_fMW ?k_fMW ?g_fWO ?l_fWO ?c_fWO ?k_fWO ?g_fRW ?l_fRW ?c_fRW ?k_fRW ?g_fPP ?l_fPP ?c_fPP ?k_fPP ?g_fPR ?l_fPR ?c_fPR ?k_fPR ?g_fC ?l_fC ?c_fC ?k_fC ?g_fD ?l_fD ?c_fD ?k_fD ?g_fN ?l_fN ?c_fN ?k_fN ?g_fX ?l_fX ?c_fX ?k_fX ?g_fP ?l_fP ?c_fP ?k_fP ?g_fEr ?l_fEr ?c_fEr ?k_fEr ?g_fLR ?l_fLR ?c_fLR ?k_fLR ?g_fLM ?l_fLM ?c_fLM ?k_fLM ?g_fLW ?l_fLW ?c_fLW ?k_fLW ?g_fLw ?l_fLw ?c_fLw ?k_fLw ?a_fI ?i_fI ?l_fI ?c_fI ?k_fI ?a_fMd ?i_fMd ?l_fMd ?c_fMd ?k_fMd ?a_fWd ?i_fWd ?l_fWd ?c_fWd ?k_fWd ?a_fLn ?i_fLn ?l_fLn ?c_fLn ?k_fLn ?a_fIt ?i_fIt ?l_fIt ?c_fIt ?k_fIt ?a_fGt ?i_fGt ?l_fGt ?c_fGt ?k_fGt ?a_fEq ?i_fEq ?l_fEq ?c_fEq ?k_fEq ?a_fAd ?i_fAd ?l_fAd ?c_fAd ?k_fAd ?a_fWi ?i_fWi ?l_fWi ?c_fWi ?k_fWi ?n_fGt ?g_fW ?l_fW ?c_fW ?k_fW ?t_fW ?g_fAW ?l_fAW ?c_fAW ?k_fAW ?t_fAW ?z_len ?z_int ?z_range ?z_isinstance ?z_list ?z_tuple ?z_str ?z_dict ?z_set ?z_all ?z_any ?z_sorted ?z_iter ?z_super ?z_bool ?z_enumerate ?z_min ?z_sum ?s_pg ?s_hd ?s_po ?s_sa ?s_mk ?s_kp ?s_nrules ?s_ha ?o_hn ?o_tk ?s_hm ?s_ne ?s_sf ?e_B ?o_ho ?x_gaB ?x_ggB ?x_exB ?x_hdB ?x_noB ?x_haB ?x_hmB ?x_clB ?x_bmB ?x_saB ?x_tyB ?x_kpB ?x_inB ?x_tiB ?x_suB ?x_svB ?x_mrB ?x_fnB ?x_ciB ?x_lnB ?x_ceB ?x_coB ?x_c2B ?x_cfB ?z_top ?t_cd ?t_hd ?t_no
    (case g_CR => first | k_is | rfl)
    (case g_CB => first | k_is | rfl)
    (case g_CP => first | k_is | rfl)
    (case g_m9 => first | k_is | rfl)
    (case g_m12 => first | k_is | rfl)
    (case g_fII => first | k_is | rfl)
    (case l_fII => first | k_is | rfl)
    (case c_fII => first | k_is | rfl)
    (case k_fII => first | k_is | rfl)
    (case g_fPl => first | k_is | rfl)
    (case l_fPl => first | k_is | rfl)
    (case c_fPl => first | k_is | rfl)
    (case k_fPl => first | k_is | rfl)
    (case g_fR => first | k_is | rfl)
    (case l_fR => first | k_is | rfl)
    (case c_fR => first | k_is | rfl)
    (case k_fR => first | k_is | rfl)
    (case g_fG => first | k_is | rfl)
    (case l_fG => first | k_is | rfl)
    (case c_fG => first | k_is | rfl)
    (case k_fG => first | k_is | rfl)
    (case g_fMN => first | k_is | rfl)
    (case l_fMN => first | k_is | rfl)
    (case c_fMN => first | k_is | rfl)
    (case k_fMN => first | k_is | rfl)
    (case g_fMW => first | k_is | rfl)
    (case l_fMW => first | k_is | rfl)
    (case c_fMW => first | k_is | rfl)
    (case k_fMW => first | k_is | rfl)
    (case g_fWO => first | k_is | rfl)
    (case l_fWO => first | k_is | rfl)
    (case c_fWO => first | k_is | rfl)
    (case k_fWO => first | k_is | rfl)
    (case g_fRW => first | k_is | rfl)
    (case l_fRW => first | k_is | rfl)
    (case c_fRW => first | k_is | rfl)
    (case k_fRW => first | k_is | rfl)
    (case g_fPP => first | k_is | rfl)
    (case l_fPP => first | k_is | rfl)
    (case c_fPP => first | k_is | rfl)
    (case k_fPP => first | k_is | rfl)
    (case g_fPR => first | k_is | rfl)
    (case l_fPR => first | k_is | rfl)
    (case c_fPR => first | k_is | rfl)
    (case k_fPR => first | k_is | rfl)
    (case g_fC => first | k_is | rfl)
    (case l_fC => first | k_is | rfl)
    (case c_fC => first | k_is | rfl)
    (case k_fC => first | k_is | rfl)
    (case g_fD => first | k_is | rfl)
    (case l_fD => first | k_is | rfl)
    (case c_fD => first | k_is | rfl)
    (case k_fD => first | k_is | rfl)
    (case g_fN => first | k_is | rfl)
    (case l_fN => first | k_is | rfl)
    (case c_fN => first | k_is | rfl)
    (case k_fN => first | k_is | rfl)
    (case g_fX => first | k_is | rfl)
    (case l_fX => first | k_is | rfl)
    (case c_fX => first | k_is | rfl)
    (case k_fX => first | k_is | rfl)
    (case g_fP => first | k_is | rfl)
    (case l_fP => first | k_is | rfl)
    (case c_fP => first | k_is | rfl)
    (case k_fP => first | k_is | rfl)
    (case g_fEr => first | k_is | rfl)
    (case l_fEr => first | k_is | rfl)
    (case c_fEr => first | k_is | rfl)
    (case k_fEr => first | k_is | rfl)
    (case g_fLR => first | k_is | rfl)
    (case l_fLR => first | k_is | rfl)
    (case c_fLR => first | k_is | rfl)
    (case k_fLR => first | k_is | rfl)
    (case g_fLM => first | k_is | rfl)
    (case l_fLM => first | k_is | rfl)
    (case c_fLM => first | k_is | rfl)
    (case k_fLM => first | k_is | rfl)
    (case g_fLW => first | k_is | rfl)
    (case l_fLW => first | k_is | rfl)
    (case c_fLW => first | k_is | rfl)
    (case k_fLW => first | k_is | rfl)
    (case g_fLw => first | k_is | rfl)
    (case l_fLw => first | k_is | rfl)
    (case c_fLw => first | k_is | rfl)
    (case k_fLw => first | k_is | rfl)
    (case a_fI => first | k_is | rfl)
    (case i_fI => first | k_is | rfl)
    (case l_fI => first | k_is | rfl)
    (case c_fI => first | k_is | rfl)
    (case k_fI => first | k_is | rfl)
    (case a_fMd => first | k_is | rfl)
    (case i_fMd => first | k_is | rfl)
    (case l_fMd => first | k_is | rfl)
    (case c_fMd => first | k_is | rfl)
    (case k_fMd => first | k_is | rfl)
    (case a_fWd => first | k_is | rfl)
    (case i_fWd => first | k_is | rfl)
    (case l_fWd => first | k_is | rfl)
    (case c_fWd => first | k_is | rfl)
    (case k_fWd => first | k_is | rfl)
    (case a_fLn => first | k_is | rfl)
    (case i_fLn => first | k_is | rfl)
    (case l_fLn => first | k_is | rfl)
    (case c_fLn => first | k_is | rfl)
    (case k_fLn => first | k_is | rfl)
    (case a_fIt => first | k_is | rfl)
    (case i_fIt => first | k_is | rfl)
    (case l_fIt => first | k_is | rfl)
    (case c_fIt => first | k_is | rfl)
    (case k_fIt => first | k_is | rfl)
    (case a_fGt => first | k_is | rfl)
    (case i_fGt => first | k_is | rfl)
    (case l_fGt => first | k_is | rfl)
    (case c_fGt => first | k_is | rfl)
    (case k_fGt => first | k_is | rfl)
    (case a_fEq => first | k_is | rfl)
    (case i_fEq => first | k_is | rfl)
    (case l_fEq => first | k_is | rfl)
    (case c_fEq => first | k_is | rfl)
    (case k_fEq => first | k_is | rfl)
    (case a_fAd => first | k_is | rfl)
    (case i_fAd => first | k_is | rfl)
    (case l_fAd => first | k_is | rfl)
    (case c_fAd => first | k_is | rfl)
    (case k_fAd => first | k_is | rfl)
    (case a_fWi => first | k_is | rfl)
    (case i_fWi => first | k_is | rfl)
    (case l_fWi => first | k_is | rfl)
    (case c_fWi => first | k_is | rfl)
    (case k_fWi => first | k_is | rfl)
    (case n_fGt => first | k_is | rfl)
    (case g_fW => first | k_is | rfl)
    (case l_fW => first | k_is | rfl)
    (case c_fW => first | k_is | rfl)
    (case k_fW => first | k_is | rfl)
    (case t_fW => first | k_is | rfl)
    (case g_fAW => first | k_is | rfl)
    (case l_fAW => first | k_is | rfl)
    (case c_fAW => first | k_is | rfl)
    (case k_fAW => first | k_is | rfl)
    (case t_fAW => first | k_is | rfl)
    (case z_len => first | k_is | rfl)
    (case z_int => first | k_is | rfl)
    (case z_range => first | k_is | rfl)
    (case z_isinstance => first | k_is | rfl)
    (case z_list => first | k_is | rfl)
    (case z_tuple => first | k_is | rfl)
    (case z_str => first | k_is | rfl)
    (case z_dict => first | k_is | rfl)
    (case z_set => first | k_is | rfl)
    (case z_all => first | k_is | rfl)
    (case z_any => first | k_is | rfl)
    (case z_sorted => first | k_is | rfl)
    (case z_iter => first | k_is | rfl)
    (case z_super => first | k_is | rfl)
    (case z_bool => first | k_is | rfl)
    (case z_enumerate => first | k_is | rfl)
    (case z_min => first | k_is | rfl)
    (case z_sum => first | k_is | rfl)
    (case s_pg => first | k_is | rfl)
    (case s_hd => first | k_is | rfl)
    (case s_po => first | k_is | rfl)
    (case s_sa => first | k_is | rfl)
    (case s_mk => first | k_is | rfl)
    (case s_kp => first | k_is | rfl)
    (case s_nrules => first | k_is | rfl)
    (case s_ha => first | k_is | rfl)
    (case o_hn => first | k_is | rfl)
    (case o_tk => first | k_is | rfl)
    (case s_hm => first | k_is | rfl)
    (case s_ne => first | k_is | rfl)
    (case s_sf => first | k_is | rfl)
    (case e_B => first | k_is | rfl)
    (case o_ho => first | k_is | rfl)
    (case x_gaB => first | k_is | rfl)
    (case x_ggB => first | k_is | rfl)
    (case x_exB => first | k_is | rfl)
    (case x_hdB => first | k_is | rfl)
    (case x_noB => first | k_is | rfl)
    (case x_haB => first | k_is | rfl)
    (case x_hmB => first | k_is | rfl)
    (case x_clB => first | k_is | rfl)
    (case x_bmB => first | rfl | k_is | decide +kernel)
    (case x_saB => first | k_is | rfl)
    (case x_tyB => first | k_is | rfl)
    (case x_kpB => first | k_is | rfl)
    (case x_inB => first | k_is | rfl)
    (case x_tiB => first | k_is | rfl)
    (case x_suB => first | k_is | rfl)
    (case x_svB => first | k_is | rfl)
    (case x_mrB => first | k_is | rfl)
    (case x_fnB => first | k_is | rfl)
    (case x_ciB => first | k_is | rfl)
    (case x_lnB => first | rfl | k_is | decide +kernel)
    (case x_ceB => first | k_is | rfl)
    (case x_coB => first | k_is | rfl)
    (case x_c2B => first | rfl | k_is | decide +kernel)
    (case x_cfB => first | rfl | k_is | decide +kernel)
    (case z_top => first | rfl | k_is | decide +kernel)
    (case t_cd => first | rfl | k_is | decide +kernel)
    (case t_hd => first | k_is | rfl)
    (case t_no => first | k_is | rfl)
