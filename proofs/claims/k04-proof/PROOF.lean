import PyProof.Rows.All
import Wide.All
import OpenK.AllK
import Wide.FinOn
import PyProof.Rows.SetFrom
import HandS.ForMost
import HandS.Set
import HandS.Deep
import HandS.More
import HandS.IsInst
import HandS.Flow
import HandS.Codes
import HandS.Walk
import HandS.List
import HandS.SortKw
import HandS.Star
import KE.SortKeyHeap
import HandS.Nested
import HandS.EndTab
import PySem.Challenge.RW_oathmoot_k04_minimal_sets
set_option Elab.async false
set_option linter.unusedVariables false
set_option maxRecDepth 100000
set_option maxHeartbeats 4000000
/-! Sets of keys of any one kind, filled and then walked in whatever order the world has. -/
namespace Moot
open PySem PySem.Spec PyProof.Rows L2
section
variable {P : Program} {w : World} {T : Type} [DecidableEq T]
/-- what is known of a set's entries and of its table -/
structure Laid (knd : KeyKind P w T) (S : T → Bool) (es : Array (Int × Value)) (t : SetTable) : Prop where
  el : ElemsOf knd es.toList
  mem : ∀ k, S k = true ↔ ∃ e ∈ es.toList, knd.is k e.2 = true
  one : es.toList.Pairwise fun e f => ∀ k, knd.is k e.2 = true → knd.is k f.2 = true → False
  few : es.size < scanBound
  fit : t.fits es.size = true
  ris : Ris t.place.toList
  led : w.params.followText "set-order" = true ∨ t.led = true
/-- a set of n keys stands at a, S tells which -/
def Stands (knd : KeyKind P w T) (h : Heap) (a : Addr) (S : T → Bool) (n : Nat) : Prop :=
  ∃ o es ep t, h.get? a = some o ∧ o.ExactSet ∧ o.data = .set es ep t ∧ es.size = n ∧ Laid knd S es t
variable {knd : KeyKind P w T} {S : T → Bool} {es es' : Array (Int × Value)} {t t' : SetTable}
/-- entries in another order, in a table that still rises -/
theorem Laid.moved (L : Laid knd S es t) (p : es'.toList.Perm es.toList) (f : t'.fits es'.size = true) (r : Ris t'.place.toList) (l : t'.led = t.led) : Laid knd S es' t' := by
  have z : es'.size = es.size := by
    have q := p.length_eq
    simpa using q
  refine ⟨L.el.perm p, fun k => (L.mem k).trans ⟨?_, ?_⟩, ?_, by rw [z]; exact L.few, f, r, ?_⟩
  · rintro ⟨e, m, i⟩
    exact ⟨e, p.mem_iff.mpr m, i⟩
  · rintro ⟨e, m, i⟩
    exact ⟨e, p.mem_iff.mp m, i⟩
  · exact (p.pairwise_iff fun {e f} q k a b => q k b a).mpr L.one
  · rw [l]
    exact L.led
/-- a key more -/
theorem Laid.more (L : Laid knd S es t) {k : T} {x : Value} (hk : knd.is k x = true) (hx : x.scannable = true) (new : ∀ e ∈ es.toList, knd.is k e.2 = false)
    (p : es'.toList.Perm (es.push (knd.hash k, x)).toList) (room : es.size + 1 < scanBound) (f : t'.fits es'.size = true) (r : Ris t'.place.toList) (l : t'.led = t.led) :
    Laid knd (fun j => S j || decide (j = k)) es' t' := by
  rw [Array.toList_push] at p
  have z : es'.size = es.size + 1 := by
    have q := p.length_eq
    simpa using q
  have inj : ∀ j, knd.is j x = true → j = k := fun j h => knd.inj x j k h hk
  refine ⟨(L.el.push hk hx).perm p, fun j => ?_, ?_, by rw [z]; exact room, f, r, by rw [l]; exact L.led⟩
  · rw [Bool.or_eq_true, decide_eq_true_eq, L.mem j]
    constructor
    · rintro (⟨e, m, i⟩ | rfl)
      · exact ⟨e, p.mem_iff.mpr (List.mem_append_left _ m), i⟩
      · exact ⟨_, p.mem_iff.mpr (List.mem_append_right _ List.mem_cons_self), hk⟩
    · rintro ⟨e, m, i⟩
      rcases List.mem_append.mp (p.mem_iff.mp m) with m | m
      · exact .inl ⟨e, m, i⟩
      · rw [List.mem_singleton.mp m] at i
        exact .inr (inj j i)
  · refine (p.pairwise_iff fun {e f} q k a b => q k b a).mpr ?_
    refine List.pairwise_append.mpr ⟨L.one, List.pairwise_singleton _ _, fun e m e2 m2 j a b => ?_⟩
    rw [List.mem_singleton.mp m2] at b
    have c := new e m
    rw [inj j b] at a
    rw [a] at c
    cases c
section
variable {A : Around} {E : Value → Shared → Prop} {s : Shared} {a : Addr} {n : Nat} {k : T} {x : Value}
/-- the table with one mark taken off is as good -/
theorem Laid.off (L : Laid knd S es t) (b : Bool) : Laid knd S es (if b = true then t else { t with plain := false }) := by
  cases b with
  | true => exact L
  | false => exact ⟨L.el, L.mem, L.one, L.few, SetTable.fits_plain_off L.fit, L.ris, L.led⟩
/-- entries are stored, and laid anew where the table has grown too full -/
theorem stow {g : Bool → Sem Unit} (quiet : ∀ (b : Bool) (s₁ : Shared) (Q₁ : Unit → Shared → Prop), Q₁ () s₁ → wpAny (model P w) A (g b) Q₁ E s₁)
    {o : Obj} {es₀ : Array (Int × Value)} {ep : Nat} {t₀ : SetTable} (ho : s.heap.get? a = some o) (hex : o.ExactSet) (hd : o.data = .set es₀ ep t₀) (L : Laid knd S es t) {full : Bool} {Q : Option Bool → Shared → Prop}
    (q : ∀ h', Heap.SameBut a s.heap h' → Stands knd h' a S es.size → Q (some true) { s with heap := h' }) :
    wpAny (model P w) A (storeSet a es t >>= fun _ => if full = true then (match relayAll t es (SetTable.grown es.size) with | (es2, t2, gave) => g gave >>= fun _ => storeSet a es2 t2 >>= fun _ => pure (some true)) else pure (some true)) Q E s := by
  have first := store_at (es' := es) (t' := t) ho hd
  have same := Heap.SameBut.update s.heap a (Obj.putSet es t)
  apply wpAny_bind
  apply wpAny_storeSet_of ho hd _ (fits_of_scanBound L.few)
  cases full with
  | false => exact wpAny_pure (q _ same ⟨_, es, _, t, first, hex, rfl, rfl, L⟩)
  | true =>
    have p := relayAll_perm t es (SetTable.grown es.size)
    have L2 := L.moved p (relayAll_fits t es _) (relayAll_ris t es _) (relayAll_led t es _)
    have z : (relayAll t es (SetTable.grown es.size)).1.size = es.size := by simpa using p.length_eq
    rw [if_pos rfl]
    revert L2 z
    rcases relayAll t es (SetTable.grown es.size) with ⟨es2, t2, gave⟩
    intro L2 z
    apply wpAny_bind
    apply quiet
    apply wpAny_bind
    apply wpAny_storeSet_of first rfl _ (fits_of_scanBound L2.few)
    exact wpAny_pure (q _ (same.trans (Heap.SameBut.update _ a _)) ⟨_, es2, _, t2, store_at first rfl, hex, rfl, z, L2⟩)
theorem add_key {Q : Bool → Shared → Prop} (R : Stands knd s.heap a S n) (hk : knd.is k x = true) (hx : x.scannable = true) (room : n + 1 < scanBound)
    (q : ∀ h', Heap.SameBut a s.heap h' → Stands knd h' a (fun j => S j || decide (j = k)) (if S k = true then n else n + 1) → Q (!S k) { s with heap := h' }) :
    wpAny (model P w) A (setAddHashed a x (knd.hash k)) Q E s := by
  obtain ⟨o, es, ep, t, ho, hex, hd, rfl, L⟩ := R
  unfold setAddHashed setAddHashedIn
  apply wpAny_holding
  apply wpAny_bind
  apply wpAny_setState_of ho hd L.fit
  show wpAny _ _ (if byScan x es = true then _ else _) _ _ _
  rw [byScan_of hx L.few L.el, if_pos rfl]
  unfold setAddByScan
  apply wpAny_bind
  apply wpAny_bind
  apply wpAny_rule
  apply wpAny_bind
  apply wpAny_setScan_of hk ho hd L.fit L.el
  cases met : List.findIdx? (fun e => knd.is k e.2) es.toList with
  | some j =>
    obtain ⟨lt, hit, _⟩ := List.findIdx?_eq_some_iff_getElem.mp met
    have old : S k = true := (L.mem k).mpr ⟨_, List.getElem_mem lt, hit⟩
    have same : (fun j => S j || decide (j = k)) = S := funext fun i => by
      by_cases e : i = k
      · rw [e, old, Bool.true_or]
      · rw [decide_eq_false e, Bool.or_false]
    have r := q s.heap (Heap.SameBut.refl a s.heap)
    rw [same, old] at r
    exact wpAny_pure (wpAny_pure (r ⟨o, es, ep, t, ho, hex, hd, rfl, L⟩))
  | none =>
    have new : ∀ e ∈ es.toList, knd.is k e.2 = false := List.findIdx?_eq_none_iff.mp met
    have no : S k = false := by
      cases c : S k with
      | false => rfl
      | true =>
        obtain ⟨e, m, i⟩ := (L.mem k).mp c
        rw [new e m] at i
        cases i
    have p := layNew_perm t es (knd.hash k) x
    have L1 := L.more hk hx new p room (layNew_fits t es (knd.hash k) x) (layNew_ris t es (knd.hash k) x L.ris) (layNew_led t es (knd.hash k) x)
    have z : (layNew t es (knd.hash k) x).1.size = es.size + 1 := by simpa using p.length_eq
    rw [no] at q
    dsimp only
    clear p
    generalize layNew t es (knd.hash k) x = Z at L1 z ⊢
    obtain ⟨es1, t1, dm, gave⟩ := Z
    dsimp only at L1 z ⊢
    have fin : ∀ h', Heap.SameBut a s.heap h' → Stands knd h' a (fun j => S j || decide (j = k)) es1.size → Q true { s with heap := h' } := fun h' sb r => q h' sb (z ▸ r)
    apply wpAny_bind
    have calm : ∀ {s₁ : Shared} {Q₁ : Unit → Shared → Prop}, Q₁ () s₁ → ∀ b : Bool, wpAny (model P w) A (match b with | true => rule "set.scan.the-table-gave-way" | false => pure ()) Q₁ E s₁ := fun h b => by
      cases b with
      | true => exact wpAny_rule h
      | false => exact wpAny_pure h
    refine calm ?_ gave
    have step : ∀ b : Bool, _ := fun b => stow (A := A) (E := E) (s := s) (Q := fun r s₁ => wpAny (model P w) A (match r with | some added => pure added | none => setAddHashedIn a x (knd.hash k) 99999) Q E s₁)
      (fun b s₁ Q₁ h => calm h b) ho hex hd (L1.off b) (full := !dm && (if b = true then t1 else { t1 with plain := false }).tooFull) fun h' sb r => wpAny_pure (fin h' sb r)
    split
    · rw [hashByValue_scannable 8 hx]
      exact wpAny_bind (wpAny_pure (step _))
    · exact wpAny_bind (wpAny_pure (step true))
end
end
end Moot
namespace Moot
open PySem PySem.Spec PyProof.Rows L2
section
variable {P : Program} {w : World} {T : Type} [DecidableEq T] {knd : KeyKind P w T} {A : Around} {E : Value → Shared → Prop} {s : Shared}
/-- the new set, empty -/
def setNew (w : World) : Obj := { cls := .type "set", dict := none, data := .set #[] 0 (.fresh 0 0 (!w.params.followText "set-order")) }
theorem setNew_stands (h : Heap) : Stands knd (h.push (setNew w)) h.objs.size (fun _ => false) 0 := by
  refine ⟨setNew w, #[], 0, _, Heap.get?_push_size _ rfl, ⟨rfl, rfl, rfl⟩, rfl, rfl, ?_⟩
  refine ⟨fun e m => by simp at m, fun k => by simp, by simp, by decide, rfl, List.Pairwise.nil, ?_⟩
  show _ ∨ (!w.params.followText "set-order") = true
  cases w.params.followText "set-order" <;> simp
/-- set.__new__(set, x) -/
theorem new_of (x : Value) {Q : Value → Shared → Prop} (q : Q (.ref s.heap.objs.size) { s with heap := s.heap.push (setNew w) }) :
    codeAny (model P w) A (.call (.builtin "set.__new__") ⟨[.type "set", x], []⟩) (wants Q E) s := by
  apply codeAny_of_tree
  show wpAny _ A.in1 (checkBuiltinCall "set.__new__" ⟨[.type "set", x], []⟩ >>= fun _ => again (.builtin "set.__new__" ⟨[.type "set", x], []⟩)) _ _ s
  apply wpAny_bind
  apply wpAny_of_eq (PySem.F.newCall_set_1 x)
  refine wpAny_pure ⟨plainId_quiet PySem.F.plain_set_new _, codeAny_builtin PySem.F.entry_set_new ?_⟩
  rw [Around.under_plainId PySem.F.plain_set_new _]
  unfold Builtin.«set.__new__» Builtin.Frozenset.newClass
  have self := sub_set_self
  rcases s with ⟨hp, gs, dr, tk, os⟩
  dsimp only at q ⊢
  wp_walk
  apply wpAny_askSetting
  apply wpAny_pure
  show wpAny _ _ (newObj (Value.type "set") (.set #[] 0 (SetTable.fresh 0 0 !w.params.followText "set-order"))) _ _ _
  unfold newObj
  exact wpAny_bind (wpAny_alloc (wpAny_pure (wpAny_pure q)))
/-- the same set in a heap that keeps it -/
theorem Stands.kept {h h' : Heap} {a : Addr} {S : T → Bool} {n : Nat} (R : Stands knd h a S n) (k : ∀ o, h.get? a = some o → h'.get? a = some o) : Stands knd h' a S n := by
  obtain ⟨o, es, ep, t, ho, r⟩ := R
  exact ⟨o, es, ep, t, k o ho, r⟩
theorem Stands.says {h : Heap} {a : Addr} {S S' : T → Bool} {n n' : Nat} (R : Stands knd h a S n) (e : ∀ k, S k = S' k) (en : n = n') : Stands knd h a S' n' := by
  have f : S = S' := funext e
  subst f en
  exact R
section
variable {R : Result → Shared → Prop} {I : Addr} {fp wr : List Addr} {G : Array GenState → Array GenState → Prop} {n : Nat} {Pv : Nat → Value → Prop} {St : Nat → Shared → Prop}
/-- each thing that an iterator yields goes into the set -/
theorem fill (W : WalksS P w A.in1 I fp wr G n Pv St) {a : Addr} (out : a ∉ fp) {xs : List T} (len : xs.length = n) (few : n + 1 < scanBound)
    (val : ∀ i v, Pv i v → ∃ k, xs[i]? = some k ∧ knd.is k v = true ∧ v.scannable = true) :
    ∀ (left i m : Nat) (s : Shared), i + left = n → m ≤ i → St i s → Stands knd s.heap a (fun k => decide (k ∈ xs.take i)) m →
      (∀ s' m', Moved (a :: wr) G s s' → m' ≤ n → Stands knd s'.heap a (fun k => decide (k ∈ xs)) m' → R (.ok (.ret .none)) s') →
      codeAny (model P w) A (.builtin "set.update.loop" ⟨[.ref a, .ref I], []⟩) R s := by
  have outw : a ∉ wr := fun h => out (W.sub _ h)
  have wider : ∀ b ∈ wr, b ∈ a :: wr := fun b h => List.mem_cons_of_mem _ h
  intro left
  induction left with
  | zero =>
    intro i m s e hm st X r
    obtain rfl : i = n := e
    apply codeAny_builtin PyProof.Rows.F.entry_set_update_loop
    rw [Around.under_plainId PyProof.Rows.F.plain_set_update_loop _]
    show wpAny _ A.in1 (pyNext (.ref I) >>= _) _ _ s
    apply wpAny_bind
    refine W.done s _ _ st fun s' mv => wpAny_pure ?_
    refine r s' m (mv.mono wider) hm ((X.kept fun o => mv.heap a o outw).says (fun k => ?_) rfl)
    rw [List.take_of_length_le (Nat.le_of_eq len)]
  | succ left ih =>
    intro i m s e hm st X r
    have lt : i < n := by omega
    apply codeAny_builtin PyProof.Rows.F.entry_set_update_loop
    rw [Around.under_plainId PyProof.Rows.F.plain_set_update_loop _]
    show wpAny _ A.in1 (pyNext (.ref I) >>= _) _ _ s
    apply wpAny_bind
    refine W.item i s _ _ lt st fun v s' pv st' mv => ?_
    obtain ⟨k, hk, isk, sc⟩ := val i v pv
    have X' := X.kept fun o => mv.heap a o outw
    show wpAny _ A.in1 (holding [v] (setAdd a v) >>= _) _ _ s'
    apply wpAny_bind
    apply wpAny_holding
    unfold setAdd
    apply wpAny_holding
    apply wpAny_bind
    apply knd.pyHash isk
    refine add_key (s := { s' with toks := s'.toks + 1 }) X' isk sc (by omega) fun h' sb Y => ?_
    have Z : Stands knd h' a (fun k => decide (k ∈ xs.take (i + 1))) (if decide (k ∈ xs.take i) = true then m else m + 1) := Y.says (fun j => by
      rw [List.take_add_one, hk]
      simp [List.mem_append]) rfl
    have hm' : (if decide (k ∈ xs.take i) = true then m else m + 1) ≤ i + 1 := by
      split <;> omega
    refine wpAny_pure ⟨plainId_quiet PyProof.Rows.F.plain_set_update_loop _, ?_⟩
    refine ih (i + 1) _ _ (by omega) hm' (W.frame _ s' _ _ st' (Nat.le_succ _) fun b hb o e => ?_) Z fun s'' m' mv' hm'' X'' => ?_
    · rw [sb.2 b fun c => out (c ▸ hb)]
      exact e
    · refine r s'' m' (Moved.trans W.gtrans ((mv.mono wider).then_heap (Nat.le_succ _) fun b o nb e => ?_) mv') hm'' X''
      rw [sb.2 b fun c => nb (c ▸ List.mem_cons_self)]
      exact e
end
end
end Moot
namespace Moot
open PySem PySem.Spec PyProof.Rows L2
section
variable {P : Program} {w : World} {T : Type} [DecidableEq T] {knd : KeyKind P w T} {A : Around} {E : Value → Shared → Prop} {s : Shared}
/-- what set(xs) leaves -/
def Filled (knd : KeyKind P w T) (xs : List T) (s s' : Shared) : Prop :=
  ∃ (h' : Heap) (tk m : Nat), s' = { s with heap := h', toks := tk } ∧ m ≤ xs.length ∧ Stands knd h' s.heap.objs.size (fun k => decide (k ∈ xs)) m ∧ ∀ b o, s.heap.get? b = some o → h'.get? b = some o
/-- set.__init__ of the new set, over a list -/
theorem init_list {l : Addr} {vs : List Value} {xs : List T} (calm : A.handled = none) (hl : s.heap.IsList l vs.toArray) (len : xs.length = vs.length) (few : vs.length + 1 < scanBound)
    (val : ∀ (i : Nat) v, vs[i]? = some v → ∃ k, xs[i]? = some k ∧ knd.is k v = true ∧ v.scannable = true) :
    codeAny (model P w) A (.call (.builtin "set.__init__") ⟨[.ref s.heap.objs.size, .ref l], []⟩) (wants (fun r s' => r = .none ∧ Filled knd xs s s') E) { s with heap := s.heap.push (setNew w) } := by
  have at0 : (s.heap.push (setNew w)).get? s.heap.objs.size = some (setNew w) := Heap.get?_push_size _ rfl
  have ty : Shared.TypeIs { s with heap := s.heap.push (setNew w) } (.ref s.heap.objs.size) "set" := ⟨_, at0, rfl⟩
  refine codeAny_call_builtin PySem.F.called_set.init.plain PySem.F.entry_set_init (check_set_init_1 ty ?_)
  have hl1 : (s.heap.push (setNew w)).IsList l vs.toArray := hl.push _
  have hlo := hl1
  obtain ⟨⟨oc, od, oda, osl⟩, ol, hc, nl, hda⟩ := hlo
  dsimp only at hc hda
  subst hc hda
  have n1 := PySem.F.sub_list_set
  have n2 := PySem.F.sub_list_frozenset
  have n3 : (Value.type "list" == Value.type "dict") = false := by decide
  unfold Builtin.«set.__init__» noKeywords Builtin.Frozenset.updateFrom
  generalize it : pyIter = iter
  wp_walk
  subst it
  apply wpAny_pyIter_list hl1
  apply wpAny_bind
  apply wpAny_runValue
  have size1 : (s.heap.push (setNew w)).objs.size = s.heap.objs.size + 1 := size_push' _ _
  have low : l < s.heap.objs.size := by
    obtain ⟨o, ho, _⟩ := hl
    exact Heap.lt_size ho
  have calm2 : A.in1.in1.handled = none := calm
  have ne : l ≠ (s.heap.push (setNew w)).objs.size := by
    rw [size1]
    exact Nat.ne_of_lt (Nat.lt_succ_of_lt low)
  have out : s.heap.objs.size ∉ [(s.heap.push (setNew w)).objs.size, l] := by
    rw [size1]
    intro m
    rcases List.mem_cons.mp m with c | c
    · exact Nat.ne_of_lt (Nat.lt_succ_self _) c
    · exact Nat.ne_of_gt low (List.mem_singleton.mp c)
  have walk := (Walks.list (prog := P) (w := w) calm2 _ l ne vs.toArray).toS
  refine fill (knd := knd) (xs := xs) walk out (by rw [len]; simp) (by simpa using few) (fun i v h => ?_) vs.toArray.size 0 0 _ (by simp) (Nat.le_refl _) ?_ ?_ fun s' m mv hm X => ?_
  · exact val i v (by simpa using h)
  · exact ⟨⟨_, Heap.get?_push_size _ rfl, rfl, rfl⟩, hl1.push _⟩
  · exact ((setNew_stands s.heap).kept fun o => Heap.get?_push_of_some _).says (fun k => by simp) rfl
  · apply wpAny_pure
    refine wpAny_pure ⟨rfl, s'.heap, s'.toks, m, ?_, by rw [len]; simpa using hm, X, fun b o e => ?_⟩
    · rcases s' with ⟨h', g', d', t', o'⟩
      obtain rfl : g' = s.gens := mv.gens
      obtain rfl : d' = s.drawn := mv.drawn
      obtain rfl : o' = s.os := mv.os
      rfl
    · have lt := Heap.lt_size e
      refine mv.heap b o (fun c => ?_) (Heap.get?_push_of_some _ (Heap.get?_push_of_some _ e))
      rcases List.mem_cons.mp c with c | c
      · exact Nat.ne_of_lt lt c
      · refine Nat.ne_of_lt (Nat.lt_succ_of_lt lt) (Eq.trans (List.mem_singleton.mp c) size1)
/-- set(xs) of a list -/
theorem set_list {l : Addr} {vs : List Value} {xs : List T} (calm : A.handled = none) (hl : s.heap.IsList l vs.toArray) (len : xs.length = vs.length) (few : vs.length + 1 < scanBound)
    (val : ∀ (i : Nat) v, vs[i]? = some v → ∃ k, xs[i]? = some k ∧ knd.is k v = true ∧ v.scannable = true) {Q : Value → Shared → Prop} (q : ∀ s', Filled knd xs s s' → Q (.ref s.heap.objs.size) s') :
    wpAny (model P w) A (call (.type "set") [.ref l]) Q E s := by
  obtain ⟨c, tl, mro⟩ := PySem.F.called_set.mro
  have made := PySem.F.called_set.made
  have sub := PySem.F.called_set.sub
  have f1 := PySem.F.called_set.notType
  have f2 := PySem.F.called_set.canCreate
  have f3 := PySem.F.typeCall_set_1 (.ref l)
  apply wpAny_call
  apply codeAny_of_tree
  show wpAny _ _ (callAny (.type "set") _) _ _ _
  refine wpAny_pure ⟨Code.quiet_builtin _ (by decide +kernel), ?_⟩
  apply codeAny_builtin PySem.F.entry_type_call
  rw [Around.under_plain (weight_type_call_type "set" [.ref l] []) rfl]
  repeat (any_goals (first | assumption | wp_step))
  refine codeAny_mono (new_of (.ref l) (E := E) (Q := fun x s₁ => x = .ref s.heap.objs.size ∧ s₁ = { s with heap := s.heap.push (setNew w) }) ⟨rfl, rfl⟩) ?_
  rintro (e | f) s₁ h
  · exact h
  · cases f with
    | ret x =>
      obtain ⟨rfl, rfl⟩ := h
      have ty : Shared.TypeIs { s with heap := s.heap.push (setNew w) } (.ref s.heap.objs.size) "set" := ⟨_, Heap.get?_push_size _ rfl, rfl⟩
      have g1 := PySem.F.called_set.init.lookup
      have g2 := PySem.F.called_set.init.bind (.ref s.heap.objs.size)
      repeat (any_goals (first | assumption | wp_step))
      refine codeAny_mono (init_list (A := A.in1) (E := E) (knd := knd) calm hl len few val) ?_
      rintro (e | f) s₂ h
      · exact h
      · cases f with
        | ret r =>
          obtain ⟨rfl, F⟩ := h
          exact wpAny_pure (wpAny_pure (q s₂ F))
        | _ => exact h.elim
    | _ => exact h.elim
end
end Moot
namespace Moot
open PySem PySem.Spec PyProof.Rows L2
section
variable {P : Program} {w : World} {A : Around} {E : Value → Shared → Prop} {s : Shared}
/-- the text of an entry -/
def txt (v : Value) : Str := match v with | .str x _ => x | _ => Str.empty
theorem txts_are : ∀ {vs : List Value}, (∀ v ∈ vs, ∃ x t, v = Value.str x t) → StrsAre vs (vs.map txt)
  | [], _ => .nil
  | v :: vs, h => by
    obtain ⟨x, t, rfl⟩ := h v List.mem_cons_self
    exact .cons x t (txts_are fun u m => h u (List.mem_cons_of_mem _ m))
theorem entry_txt {e : Int × Value} (h : ∃ k, (PySem.strKind P w).is k e.2 = true) : (∃ x t, e.2 = Value.str x t) ∧ (PySem.strKind P w).is (txt e.2) e.2 = true := by
  obtain ⟨k, i⟩ := h
  obtain ⟨t, q⟩ := Value.isStrOf_shape (x := k) i
  refine ⟨⟨k, t, q⟩, ?_⟩
  rw [q]
  exact strKind_is P w k t
/-- the texts of a set's entries -/
theorem Laid.txts {S : Str → Bool} {es : Array (Int × Value)} {t : SetTable} (L : Laid (PySem.strKind P w) S es t) :
    (∀ v ∈ es.toList.map (·.2), ∃ x t, v = Value.str x t) ∧ (es.toList.map fun e => txt e.2).Nodup ∧ ∀ k, k ∈ (es.toList.map fun e => txt e.2) ↔ S k = true := by
  have ok : ∀ e ∈ es.toList, (∃ x t, e.2 = Value.str x t) ∧ (PySem.strKind P w).is (txt e.2) e.2 = true := fun e m => by
    obtain ⟨⟨k, i, _⟩, _⟩ := L.el e m
    exact entry_txt ⟨k, i⟩
  refine ⟨fun v m => ?_, ?_, fun k => ?_⟩
  · obtain ⟨e, me, rfl⟩ := List.mem_map.mp m
    exact (ok e me).1
  · refine List.pairwise_map.mpr (List.Pairwise.imp_of_mem (fun {e f} me mf h c => ?_) L.one)
    refine h _ (ok e me).2 ?_
    rw [c]
    exact (ok f mf).2
  · rw [L.mem k, List.mem_map]
    constructor
    · rintro ⟨e, m, rfl⟩
      exact ⟨e, m, (ok e m).2⟩
    · rintro ⟨e, m, i⟩
      exact ⟨e, m, (PySem.strKind P w).inj e.2 _ _ (ok e m).2 i⟩
/-- sorted(a set of texts) -/
theorem sorted_txts {a : Addr} {S : Str → Bool} {n : Nat} {Q : Value → Shared → Prop} (R : Stands (PySem.strKind P w) s.heap a S n) (calm : A.handled = none) (few : n < 64)
    (q : ∀ s' p (out : Array Value) (c : Nat) (ys : List Str), (∀ b o, s.heap.get? b = some o → s'.heap.get? b = some o) → s'.gens = s.gens → s'.os = s.os → s.heap.objs.size ≤ p →
      s'.heap.get? p = some (seqObj "list" out c) → StrsAre out.toList ys → sortedS ys = true → ys.Nodup → (∀ k, k ∈ ys ↔ S k = true) → ys.length = n → Q (.ref p) s') :
    wpAny (model P w) A (call (.builtin "sorted") [.ref a]) Q E s := by
  obtain ⟨o, es, ep, t, ho, hex, hd, rfl, L⟩ := R
  obtain ⟨x1, x2, x3⟩ := L.txts
  apply Calls.call_function_entry kind_sorted plain_sorted entry_sorted (args_sorted1 _)
  unfold Builtin.«sorted»
  apply wpAny_bind (m := checkCount "sorted" 1 1 _)
  apply wpAny_pure
  apply wpAny_bind
  refine collect_set (A := A.in1) calm ⟨o, ho, hex.1, hd⟩ L.fit L.few L.ris L.led fun s1 vs kept grown same1 same2 pm => ?_
  have len : vs.length = es.size := by simpa using pm.length_eq
  have are : StrsAre vs (vs.map txt) := txts_are fun v m => x1 v (pm.mem_iff.mp m)
  have perm : (vs.map txt).Perm (es.toList.map fun e => txt e.2) := by
    have z := pm.map txt
    rwa [List.map_map] at z
  apply wpAny_bind
  refine wpAny_newList ?_ (by rw [len, sizeLine_eq]; omega)
  have here : (s1.heap.push (seqObj "list" vs.toArray 0)).get? s1.heap.objs.size = some (seqObj "list" vs.toArray 0) := Heap.get?_push_size _ rfl
  apply wpAny_bind
  apply wpAny_holding
  refine wpAny_call_entry slot_list_sort ⟨_, here, rfl⟩ entry_list_sort ?_ (args_list_sort _)
  refine list_sort_treeK strKind_oneLt here are.keysOf (fun v₁ v₂ rest e => keyKind_strs (by rw [← e]; exact are)) (by rw [len]; exact few) fun st a1 a2 => ⟨_, rfl, ?_⟩
  obtain ⟨ys, y1, y2, y3⟩ := sorted_out_str are a1 a2
  obtain ⟨c, at'⟩ := sortedHeap_at (vs := vs) (out := (arrOf st).map (·.2)) here
  have all := y2.trans perm
  refine wpAny_pure ⟨_, rfl, q _ s1.heap.objs.size _ c ys (fun b u e => ?_) same1 same2 grown at' y1 y3 (all.nodup_iff.mpr x2) (fun k => all.mem_iff.trans (x3 k)) ?_⟩
  · have z := kept b u e
    have lt := Heap.lt_size z
    show (sortedHeap (s1.heap.push (seqObj "list" vs.toArray 0)) s1.heap.objs.size vs _).get? b = some u
    rw [sortedHeap_old (Nat.ne_of_lt lt) (by rw [size_push']; exact Nat.lt_succ_of_lt lt)]
    exact Heap.get?_push_of_some _ z
  · simpa using all.length_eq
end
/-- the set of texts at a, as a thing of the abstract heap -/
def TxtSet (P : Program) (w : World) (a : Addr) (S : Str → Bool) (n : Nat) : HO := .ext fun h => Stands (PySem.strKind P w) h a S n
theorem txtSet_ok {P : Program} {w : World} {H : Hp} {h : Heap} {a : Addr} {S : Str → Bool} {n : Nat} (R : Stands (PySem.strKind P w) h a S n) : ObjOk P w H h a (TxtSet P w a S n) := by
  obtain ⟨o, _, _, _, ho, _⟩ := id R
  exact ⟨R, ⟨o, ho⟩, fun h1 h2 r k => r.kept k⟩
/-- set(zs), zs a list of fewer than 64 texts -/
def rTxtSet (K : PySem.W.Frag) (P : Program) (w : World) : List V → Hp → VK → Prop := fun vs H Q =>
  ∃ (l : Addr) (zs : List Str), vs = [V.ref l] ∧ SqL K H l (zs.map V.str) ∧ zs.length < 64 ∧ ∀ p m, H p = none → m ≤ zs.length → Q (.ref p) (upd H p (TxtSet P w p (fun k => decide (k ∈ zs)) m))
/-- sorted(S), S such a set -/
def rTxtSorted (P : Program) (w : World) : List V → Hp → VK → Prop := fun vs H Q =>
  ∃ (a : Addr) (S : Str → Bool) (n : Nat), vs = [V.ref a] ∧ H a = some (TxtSet P w a S n) ∧ n < 64 ∧
    ∀ (ys : List Str) (p : Addr), sortedS ys = true → ys.Nodup → (∀ k, k ∈ ys ↔ S k = true) → ys.length = n → H p = none → Q (.ref p) (upd H p (.lst (ys.map V.str)))
section
variable {X : Cx}
theorem cr_txtSet (calm : X.calm = true) : CallR X (.type "set") (rTxtSet X.K X.prog X.w) := by
  intro pins s σ H vs us Q I r h
  obtain ⟨l, zs, rfl, hl, few, q⟩ := h
  rw [Vals.ref1 r]
  obtain ⟨its, rel, pl, _⟩ := I.list hl
  have len : zs.length = its.length := by
    have z := rel.length
    rwa [List.length_map] at z
  refine set_list (knd := PySem.strKind X.prog X.w) (xs := zs) (I.ok.hd calm) pl.isList len (by unfold scanBound; omega) (fun i v e => ?_) fun s' F => ?_
  · have lt : i < zs.length := by
      rw [len]
      exact (List.getElem?_eq_some_iff.mp e).1
    obtain ⟨u, hu, t, rfl⟩ := rel.get (i := i) (x := .str zs[i]) (by simp [lt])
    cases Option.some.inj (e.symm.trans hu)
    exact ⟨zs[i], List.getElem?_eq_getElem lt, strKind_is _ _ _ _, rfl⟩
  · obtain ⟨h', tk, m, rfl, hm, R, kept⟩ := F
    exact ⟨.ref _, _, I.laid (t' := tk) kept (Nat.le_refl _) (txtSet_ok R), rfl, q _ m (I.hok.fresh (Nat.le_refl _)) hm⟩
theorem cr_txtSorted (calm : X.calm = true) : CallR X (.builtin "sorted") (rTxtSorted X.prog X.w) := by
  intro pins s σ H vs us Q I r h
  obtain ⟨a, S, n, rfl, ha, few, q⟩ := h
  have R : Stands (PySem.strKind X.prog X.w) s.heap a S n := (I.hok a _ ha).1
  rw [Vals.ref1 r]
  refine sorted_txts R (I.ok.hd calm) few fun s' p out c ys kept e1 e2 hp here are srt nd mem len => ?_
  have fits : (ys.map V.str).length ≤ sizeLine := by
    rw [List.length_map, len]
    exact small64 few
  have free : H p = none := I.hok.fresh hp
  have J : Inv X pins σ (upd H p (.lst (ys.map V.str))) { s with heap := s'.heap, gens := s'.gens, drawn := s'.drawn, toks := s'.toks } :=
    I.call (ch := []) (Un.laid kept hp free) (I.hok.laid kept hp ⟨fits, out.toList, c, vals_of_strs are, here⟩) (by rw [e1]; exact I.bare) fun _ z => nomatch z
  have same : s' = { s with heap := s'.heap, gens := s'.gens, drawn := s'.drawn, toks := s'.toks } := by
    rcases s' with ⟨h', g', d', t', o'⟩
    cases e2
    rfl
  rw [same]
  exact ⟨.ref p, _, J, rfl, q ys p srt nd mem len free⟩
end
end Moot
/-! sorted(xs, key=f), f an own def that gives (len(x), x) of a tuple of texts. -/
namespace Moot
open PySem PySem.Spec PyProof.Rows L2 PySem.W
/-- a set of names: where it stands, and its names -/
abbrev Nset := Addr × List Str
def ordD (p : Nset) : PyData := .tuple [.int p.2.length, .tuple (p.2.map PyData.str)]
/-- by size, then as tuples -/
def ordLe : Nset → Nset → Bool := dataLe false ordD
def spOrd : Sp := fun vs H Q _ => ∃ (t : Addr) (ns : List Str), vs = [.ref t] ∧ H t = some (.tup (ns.map V.str)) ∧ ∀ p H', Same H H' → H p = none → H' p = some (.tup [.int ns.length, .ref t]) → Q (.ref p) H'
theorem ord_alike (p q : Nset) : alike (ordD p) (ordD q) = true := by
  have key : ∀ a b : List Str, alikeAll (a.map PyData.str) (b.map PyData.str) = true := by
    intro a
    induction a with
    | nil => intro b; rfl
    | cons x a ih =>
      intro b
      cases b with
      | nil => rfl
      | cons y b =>
        show (true && alikeAll (a.map PyData.str) (b.map PyData.str)) = true
        rw [ih b]
        rfl
  show (true && (alikeAll (p.2.map PyData.str) (q.2.map PyData.str) && true)) = true
  rw [key]
  rfl
theorem depth_str0 : ∀ ns : List Str, PyData.depthAll (ns.map PyData.str) = 0
  | [] => rfl
  | x :: ns => by
    show max 0 (PyData.depthAll (ns.map PyData.str)) = 0
    rw [depth_str0 ns]
    rfl
theorem ord_depth (p : Nset) : (ordD p).depth = 2 := by
  show max 0 (max (PyData.depthAll (p.2.map PyData.str) + 1) 0) + 1 = 2
  rw [depth_str0]
  rfl
theorem dp_txts {K : PySem.W.Frag} {H : Hp} : ∀ ns : List Str, DpAll K H (ns.map V.str) (ns.map PyData.str)
  | [] => .nil
  | x :: ns => .cons (.str x) (dp_txts ns)
theorem vals_refs : ∀ {ps : List Nset} {us : List Value}, Vals (ps.map fun p => V.ref p.1) us → us = ps.map fun p => Value.ref p.1
  | [], _, .nil => rfl
  | p :: ps, _ :: us, .cons r t => by
    cases r
    rw [vals_refs t]
    rfl
theorem refs_vals : ∀ ps : List Nset, Vals (ps.map fun p => V.ref p.1) (ps.map fun p => Value.ref p.1)
  | [] => .nil
  | p :: ps => .cons rfl (refs_vals ps)
/-- the result is the items by the order of their keys -/
def rSortBy (K : PySem.W.Frag) (f : Addr) : List V → List V → Hp → VK → Prop := fun vs zs H Q =>
  ∃ (l : Addr) (ps : List Nset), vs = [.ref l] ∧ zs = [.ref f] ∧ SqL K H l (ps.map fun p => V.ref p.1) ∧ (∀ p ∈ ps, H p.1 = some (.tup (p.2.map V.str))) ∧ ps.length ≤ 1000 ∧
    ∀ q H', Same H H' → H q = none → H' q = some (.lst ((ps.mergeSort ordLe).map fun p => V.ref p.1)) → Q (.ref q) H'
/-- the same, the key a function of the kind F in a state of the kind st -/
def rSortV (K : PySem.W.Frag) (F : Addr → Prop) (st : Addr → Hp → Prop) : List V → List V → Hp → VK → Prop := fun vs zs H Q =>
  ∃ (f l : Addr) (ps : List Nset), F f ∧ st f H ∧ vs = [.ref l] ∧ zs = [.ref f] ∧ SqL K H l (ps.map fun p => V.ref p.1) ∧ (∀ p ∈ ps, H p.1 = some (.tup (p.2.map V.str))) ∧ ps.length ≤ 1000 ∧
    ∀ q H', Same H H' → H q = none → H' q = some (.lst ((ps.mergeSort ordLe).map fun p => V.ref p.1)) → Q (.ref q) H'
/-- a heap without one of its objects -/
def without (h : Heap) (a : Addr) : Heap := h.update a fun o => { o with data := .freed }
theorem without_at (h : Heap) (a : Addr) : (without h a).get? a = none := by
  unfold without
  rcases h with ⟨objs, l⟩
  show (match (objs.modify a fun o => { o with data := .freed })[a]? with | some ⟨_, _, .freed, _⟩ => none | o => o) = none
  rw [Array.getElem?_modify, if_pos rfl]
  cases objs[a]? <;> rfl
theorem without_ne {h : Heap} {a b : Addr} {o : Obj} (ne : b ≠ a) (e : (without h a).get? b = some o) : h.get? b = some o := by
  rw [← e]
  exact (Heap.get?_update_other _ _ ne.symm).symm
/-- a call of f gives the key, wherever st holds -/
structure KeyOk (P : Program) (w : World) (K : PySem.W.Frag) (mg : Str → Option Value) (base : Heap) (k : Nat) (f : Addr) (st : Hp → Prop) : Prop where
  run : ∀ (A : Around) (outer : List Env) (s : Shared) (H : Hp) (t : Addr) (ns : List Str) (Q : VK), Room k A → Env0 P w K mg base A outer s H → st H → H t = some (.tup (ns.map V.str)) → (∀ p H', Same H H' → H p = none → H' p = some (.tup [.int ns.length, .ref t]) → Q (.ref p) H') →
    codeAny (model P w) A (.call (.ref f) ⟨[.ref t], []⟩) (CR CX0 outer P w H s Q E0) s
  stay : ∀ H H' : Hp, st H → Same H H' → st H'
theorem KeyOk.of {P : Program} {w : World} {K : PySem.W.Frag} {mg : Str → Option Value} {base : Heap} {k : Nat} {f : Addr} {fd : FuncData} (G : FnOk P w K mg base CX0 k f fd ["nodes"] spOrd) (bd : Binds K fd ["nodes"] []) : KeyOk P w K mg base k f fun _ => True :=
  ⟨fun A outer s H t ns Q hr e0 _ ht q => G.run A outer s H ⟨[.ref t], []⟩ [.ref t] [.ref t] Q E0 hr e0 (bd s [.ref t] (e0.mod.kin.keeps fun b o e => (e0.bs b o e).1) rfl) (.cons rfl .nil) ⟨t, ns, rfl, ht, q⟩, fun _ _ _ _ => trivial⟩
section
variable {X : Cx}
theorem fp_on {pins : List (Addr × Obj)} {H H' : Hp} {b : Addr} (f : FpOk X pins H b) (h : H' b = none) : FpOk X pins H' b := ⟨h, f.2⟩
/-- the keys are asked, one by one, and the items laid by them -/
theorem sort_rest {f : Addr} {st : Hp → Prop} {k : Nat} (G : KeyOk X.prog X.w X.K X.mg X.base k f st) (hr : Room (k + 2) X.A)
    {pins : List (Addr × Obj)} {σ : L2.St} {H : Hp} {s : Shared} {a kS : Addr} {e1 : Nat} {ps : List Nset} {R : PySem.Fin → Shared → Prop} {E : Value → Shared → Prop} (J : Inv X pins σ H s) (fa : FpOk X pins H a) (fk : FpOk X pins H kS) (ne : kS ≠ a)
    (nk : s.heap.get? kS = some (seqObj "list" #[] 0)) (na : s.heap.get? a = some (seqObj "list" #[] e1)) (tups : ∀ p ∈ ps, H p.1 = some (.tup (p.2.map V.str))) (few : ps.length ≤ 1000) (hst : st H)
    (fin : ∀ s' H', Inv X pins σ H' s' → Same H H' → H' a = some (.lst ((ps.mergeSort ordLe).map fun p => V.ref p.1)) → R (.done (.ret .none)) s') :
    wpAny (model X.prog X.w) X.A.in1.in1 (ksk_rest a (.ref f) false (ps.map fun p => Value.ref p.1).toArray e1 (.ref kS)) R E s := by
  have plen : (ps.map fun p => Value.ref p.1).length = ps.length := List.length_map _
  have small : ps.length ≤ sizeLine := Nat.le_of_lt (small1000 few)
  have room : Room k X.A.in1.in1 := hr.in1.in1
  unfold ksk_rest
  apply wpAny_bind
  apply wpAny_rule
  rw [List.forIn_toArray]
  apply wpAny_bind
  refine ksk_fold (fun i s' => ∃ (H' : Hp) (kA : Array Value) (e : Nat) (ts : List Addr), Inv X pins σ H' s' ∧ Same H H' ∧ H' a = none ∧ H' kS = none ∧ s'.heap.get? kS = some (seqObj "list" kA e) ∧ s'.heap.get? a = some (seqObj "list" #[] e1) ∧
    kA.toList = ts.map Value.ref ∧ ts.length = i ∧ ∀ (j : Nat) t p, ts[j]? = some t → ps[j]? = some p → H' t = some (.tup [.int p.2.length, .ref p.1])) _ 0 s ⟨H, #[], 0, [], J, Same.refl H, fa.1, fk.1, nk, na, rfl, rfl, fun j t p e => by simp at e⟩ ?_ ?_
  · rintro j x s' hx ⟨H', kA, e, ts, J', same, Ha, Hk, nk', na', ek, el, keys⟩
    rw [Nat.zero_add] at el ⊢
    rw [List.getElem?_map] at hx
    obtain ⟨p, hp, rfl⟩ := Option.map_eq_some_iff.mp hx
    have jlt : j < ps.length := (List.getElem?_eq_some_iff.mp hp).1
    have tp := same _ _ (tups p (List.mem_of_getElem? hp))
    have PJ := J'.pinned (fp := [kS, a]) (fun b hb => by
      rcases List.mem_cons.mp hb with c | c
      · rw [c]; exact fp_on fk Hk
      · rw [List.mem_singleton.mp c]; exact fp_on fa Ha) (fun b hb => by
      rcases List.mem_cons.mp hb with c | c
      · rw [c]; exact ⟨_, nk', fun v z => by cases z⟩
      · rw [List.mem_singleton.mp c]; exact ⟨_, na', fun v z => by cases z⟩)
    have ksz : kA.size = j := by
      have := congrArg List.length ek
      rw [Array.length_toList, List.length_map] at this
      omega
    apply wpAny_bind
    apply wpAny_attempt
    generalize hKQ : (fun (v : V) (H'' : Hp) => ∃ t, v = .ref t ∧ Same H' H'' ∧ H'' t = some (.tup [.int p.2.length, .ref p.1])) = KQ
    refine wpAny_mono (Q := fun u s'' => EP X (pins ++ pinsAt [kS, a] s'.heap) σ KQ u s'') (E := fun _ _ => False) ?_ (fun u s'' hE => ?_) fun _ _ z => z.elim
    · refine wpAny_call (codeAny_mono (G.run X.A.in1.in1 X.stack s' H' p.1 p.2 KQ room PJ.env0.in1.in1 (G.stay _ _ hst same) tp fun t H'' s2 nt ht => by rw [← hKQ]; exact ⟨t, rfl, s2, ht⟩) fun r s2 hq => ?_)
      cases r with
      | error e => exact hq.elim
      | ok fl =>
        cases fl with
        | ret u => exact PJ.after hq
        | next => exact hq.elim
        | brk => exact hq.elim
        | cont => exact hq.elim
    · obtain ⟨v, H'', J'', rv, hv⟩ := hE
      rw [← hKQ] at hv
      obtain ⟨t, rfl, s2, ht⟩ := hv
      cases rv
      have pk := J''.pin (kS, seqObj "list" kA e) (List.mem_append_right _ (List.mem_append_right _ (mem_pinsAt List.mem_cons_self nk')))
      have pa := J''.pin (a, seqObj "list" #[] e1) (List.mem_append_right _ (List.mem_append_right _ (mem_pinsAt (List.mem_cons_of_mem _ List.mem_cons_self) na')))
      have up := Heap.SameBut.update s''.heap kS (Obj.mapSeq (·.push (Value.ref t)))
      apply wpAny_bind
      refine listUpdate_at pk.1 rfl ?_ (by rw [ksz]; omega) (by rw [Array.size_push, ksz]; omega)
      refine wpAny_pure ⟨rfl, H'', kA.push (.ref t), _, ts ++ [t], Inv.turnedL (s := s'') (t' := s''.toks) (ch := [kS]) J''.unpinned (fun b o nb eb => (up.2 b fun c => nb (by rw [c]; exact List.mem_cons_self)).trans eb) (fun b hb => ?_), same.trans s2, pa.2.1, pk.2.1, get?_update_seq pk.1 _, (up.2 a ne.symm).trans pa.1, ?_, ?_, ?_⟩
      · rw [List.mem_singleton.mp hb]
        exact fp_on fk pk.2.1
      · rw [Array.toList_push, ek, List.map_append]
        rfl
      · rw [List.length_append, el]
        rfl
      · intro i t' p' h1 h2
        by_cases c : i < ts.length
        · rw [List.getElem?_append_left c] at h1
          exact s2 _ _ (keys i t' p' h1 h2)
        · have il : i = j := by
            have := (List.getElem?_eq_some_iff.mp h1).1
            rw [List.length_append, List.length_singleton] at this
            omega
          rw [il] at h1 h2
          rw [List.getElem?_append_right (by omega), el, Nat.sub_self] at h1
          cases Option.some.inj h1
          cases Option.some.inj (hp.symm.trans h2)
          exact ht
  · rintro s' ⟨H', kA, e, ts, J', same, Ha, Hk, nk', na', ek, el, keys⟩
    rw [Nat.zero_add, plen] at el
    have ksz : kA.size = ps.length := by
      have := congrArg List.length ek
      rw [Array.length_toList, List.length_map] at this
      omega
    have each : EachIs (fun v d => ∃ as, Reads s'.heap v d as) kA.toList (ps.map ordD) := by
      rw [ek]
      have go : ∀ (ts : List Addr) (ps : List Nset), ts.length = ps.length → (∀ (j : Nat) t p, ts[j]? = some t → ps[j]? = some p → H' t = some (.tup [.int p.2.length, .ref p.1])) → (∀ p ∈ ps, H p.1 = some (.tup (p.2.map V.str))) →
          EachIs (fun v d => ∃ as, Reads s'.heap v d as) (ts.map Value.ref) (ps.map ordD) := by
        intro ts
        induction ts with
        | nil =>
          intro ps hl _ _
          cases ps with
          | nil => exact .nil
          | cons _ _ => simp at hl
        | cons t ts ih =>
          intro ps hl hk ht
          cases ps with
          | nil => simp at hl
          | cons p ps =>
            refine .cons ?_ (ih ps (by simpa using hl) (fun j t' p' h1 h2 => hk (j + 1) t' p' h1 h2) fun p' m => ht p' (List.mem_cons_of_mem _ m))
            refine Dp.reads J' (ordD p) (.ref t) (.ref t) (.tup (SqT.of (hk 0 t p rfl rfl)) (.cons (.int _) (.cons (.tup (SqT.of (same _ _ (ht p List.mem_cons_self))) (dp_txts p.2)) .nil))) rfl
      exact go ts ps el keys tups
    have all : AllAlike (ps.map ordD) := AllAlike.of ord_alike
    have can : Sortable (ps.map ordD) := Sortable.tuples fun p => ⟨_, _, rfl⟩
    have units : ∀ d, d ∈ ps.map ordD → X.A.in1.in1.units + d.depth < cLine := fun d md => by
      obtain ⟨p, _, rfl⟩ := List.mem_map.mp md
      rw [ord_depth]
      have := room.un
      omega
    apply wpAny_bind
    apply listItems_at nk' rfl
    refine keyH_end (κ := dataKind s'.heap (ps.map ordD)) (h₁ := without s'.heap kS) (fun b o nb eb => ?_) (without_at _ _) nk' na' ne (SortsAt.data each all can units) (by rw [plen]; exact ksz) (by rw [plen]; exact small) fun h' tk c kp at' => ?_
    · by_cases c : b = kS
      · rw [c, without_at] at eb
        cases eb
      · exact without_ne c eb
    · have out := keyedOut_each (rev := false) (R := fun v p => v = Value.ref p.1) (bs := ps) (vs := ps.map fun p => Value.ref p.1) ordD ⟨s'.heap, kA.toList, all, rfl, each⟩ (by
        have go : ∀ ps : List Nset, EachIs (fun v p => v = Value.ref p.1) (ps.map fun p => Value.ref p.1) ps := by
          intro ps
          induction ps with
          | nil => exact .nil
          | cons p ps ih => exact .cons rfl ih
        exact go ps)
      have eo : ∀ {vs : List Value} {qs : List Nset}, EachIs (fun v p => v = Value.ref p.1) vs qs → vs = qs.map fun p => Value.ref p.1 := by
        intro vs qs h
        induction h with
        | nil => rfl
        | cons a _ ih => rw [a, ih]; rfl
      rw [eo out] at at'
      have klen : (ps.mergeSort ordLe).length = ps.length := (List.mergeSort_perm ps _).length_eq
      have kept : ∀ b o, b ≠ a → b ≠ kS → s'.heap.get? b = some o → h'.get? b = some o := fun b o n1 n2 eb => kp b o n1 ((Heap.get?_update_other _ _ n2.symm).trans eb)
      have nn : ∀ {b o}, H' b = some o → b ≠ a ∧ b ≠ kS := fun {b o} eb => ⟨fun c => (by rw [c, Ha] at eb; cases eb), fun c => (by rw [c, Hk] at eb; cases eb)⟩
      have upn : ∀ {b o}, H' b = some o → (upd H' a (.lst ((ps.mergeSort ordLe).map fun p => V.ref p.1))) b = some o := fun {b o} eb => by
        rw [upd_ne (nn eb).1]
        exact eb
      have out2 : ∀ {b}, b ∉ [a, kS] → b ≠ a ∧ b ≠ kS := fun {b} nb => ⟨fun c => nb (by rw [c]; exact List.mem_cons_self), fun c => nb (by rw [c]; exact List.mem_cons_of_mem _ List.mem_cons_self)⟩
      have un : Un (frs X.stack) [a, kS] H' (upd H' a (.lst ((ps.mergeSort ordLe).map fun p => V.ref p.1))) s'.heap h' :=
        ⟨fun b o eb _ _ nx => kept b o (out2 nx).1 (out2 nx).2 eb, fun b o eb _ _ nx => ⟨o.slots, kept b o (out2 nx).1 (out2 nx).2 eb⟩, fun b o _ n nx => by rw [upd_ne (out2 nx).1]; exact n, fun b o eb nx => ⟨o, kept b o (out2 nx).1 (out2 nx).2 eb⟩,
          fun b xs eb => upn eb, fun b o u eb => upn eb, fun b qs eb => ⟨#[], by rw [upn eb]; simp⟩⟩
      have hok : HOk X.prog X.w (upd H' a (.lst ((ps.mergeSort ordLe).map fun p => V.ref p.1))) h' := fun b u eb => by
        by_cases c : b = a
        · rw [c, upd_same] at eb
          cases Option.some.inj eb
          rw [c]
          exact ⟨by rw [List.length_map, klen]; exact small, _, _, refs_vals _, at'⟩
        · rw [upd_ne c] at eb
          refine (J'.hok b u eb).stay (fun d v hd q => ?_) (fun d q => upn q) fun d xs q => upn q
          rcases hd with rfl | hd
          · exact kept _ v (nn eb).1 (nn eb).2 q
          · exact kept d v (nn hd).1 (nn hd).2 q
      have JJ := J'.call (g' := s'.gens) (t' := tk) (d' := s'.drawn) un hok J'.bare fun b hb => by
        rcases List.mem_cons.mp hb with c | c
        · rw [c]
          exact ⟨fa.2.2.2.1, fa.2.1, fa.2.2.2.2.1, fa.2.2.2.2.2⟩
        · rw [List.mem_singleton.mp c]
          exact ⟨fk.2.2.2.1, fk.2.1, fk.2.2.2.2.1, fk.2.2.2.2.2⟩
      exact fin _ _ JJ (fun b o eb => upn (same b o eb)) upd_same
theorem cr_sortV {k : Nat} {F : Addr → Prop} {st : Addr → Hp → Prop} (G : ∀ f, F f → KeyOk X.prog X.w X.K X.mg X.base k f (st f)) (hr : Room (k + 2) X.A) : CallRK X (.builtin "sorted") [Str.ofString "key"] (rSortV X.K F st) := by
  intro pins s σ H xs zs us ws Q I r rz h
  obtain ⟨f, l, ps, hF, hst, rfl, rfl, hs, tups, few, q⟩ := h
  obtain ⟨its, rv, hl, hz⟩ := I.list hs
  have eits := vals_refs rv
  subst eits
  rw [Vals.ref1 r, Vals.ref1 rz]
  show wpAny _ _ (call (.builtin "sorted") [.ref l] [(Str.ofString "key", .ref f)]) _ _ _
  have plen : (ps.map fun p => Value.ref p.1).length = ps.length := List.length_map _
  have small : ps.length ≤ sizeLine := Nat.le_of_lt (small1000 few)
  refine sorted_of_sort hl.isList (by rw [plen]; exact small) (ksk_s1 _ _) (fun _ => ksk_l1 _ _) fun E' => ?_
  rw [ksk_t1]
  generalize ea : s.heap.objs.size + 1 = a
  have na : s.heap.objs.size ≤ a := by rw [← ea]; exact Nat.le_succ _
  have Ha : H a = none := I.hok.fresh na
  have fa : FpOk X pins H a := I.fpOk na Ha
  have ha : (copyHeap s.heap (ps.map fun p => Value.ref p.1)).get? a = some (seqObj "list" (ps.map fun p => Value.ref p.1).toArray 0) := by rw [← ea]; exact copyHeap_at _ _
  have I0 : Inv X pins σ H { s with heap := copyHeap s.heap (ps.map fun p => Value.ref p.1) } := I.kept (t' := s.toks) fun b u e => copyHeap_old e
  generalize copyHeap s.heap (ps.map fun p => Value.ref p.1) = h0 at ha I0 ⊢
  unfold ksk_tree
  apply wpAny_bind
  apply listItems_at ha rfl
  apply wpAny_bind
  refine listUpdate_at ha rfl ?_ (by rw [List.size_toArray, plen]; exact small) (Nat.zero_le _)
  obtain ⟨e1, ha1⟩ : ∃ e1, (h0.update a (Obj.mapSeq fun _ => (#[] : Array Value))).get? a = some (seqObj "list" #[] e1) := ⟨_, get?_update_seq ha fun _ => #[]⟩
  have I1 : Inv X pins σ H { s with heap := h0.update a (Obj.mapSeq fun _ => (#[] : Array Value)) } := Inv.turnedL (s := { s with heap := h0 }) (t' := s.toks) (ch := [a]) I0 (fun b o nb e => (Heap.get?_update_other _ _ fun c => nb (by rw [c]; exact List.mem_cons_self)).trans e) fun b hb => by
    rw [List.mem_singleton.mp hb]
    exact fa
  generalize h0.update a (Obj.mapSeq fun _ => (#[] : Array Value)) = h1 at ha1 I1 ⊢
  apply wpAny_bind
  apply seqEpoch_at ha1 rfl
  apply wpAny_bind
  refine wpAny_newTuple ?_ (by rw [List.toList_toArray, plen]; exact small)
  apply wpAny_bind
  refine wpAny_newList ?_ (Nat.zero_le _)
  apply wpAny_holding
  rw [List.toList_toArray]
  have I2 : Inv X pins σ H { s with heap := (h1.push (seqObj "tuple" (ps.map fun p => Value.ref p.1).toArray 0)).push (seqObj "list" #[] 0) } := Inv.kept (s := { s with heap := h1 }) (t' := s.toks) I1 fun b u e => Heap.get?_push_of_some _ (Heap.get?_push_of_some _ e)
  have big : h1.objs.size ≤ (h1.push (seqObj "tuple" (ps.map fun p => Value.ref p.1).toArray 0)).objs.size := by
    rw [size_push']
    exact Nat.le_succ _
  have fk : FpOk X pins H (h1.push (seqObj "tuple" (ps.map fun p => Value.ref p.1).toArray 0)).objs.size := I1.fpOk big (I1.hok.fresh big)
  refine sort_rest (G f hF) hr (s := { s with heap := (h1.push (seqObj "tuple" (ps.map fun p => Value.ref p.1).toArray 0)).push (seqObj "list" #[] 0) }) I2 fa fk (Nat.ne_of_gt (Nat.lt_of_lt_of_le (Heap.lt_size ha1) big)) (Heap.get?_push_size _ rfl) (Heap.get?_push_of_some _ (Heap.get?_push_of_some _ ha1)) tups few hst fun s' H' J' same at' => ⟨rfl, .ref a, H', J', rfl, q a H' same Ha at'⟩
theorem cr_sortBy {f : Addr} {fd : FuncData} {k : Nat} (G : FnOk X.prog X.w X.K X.mg X.base CX0 k f fd ["nodes"] spOrd) (hr : Room (k + 2) X.A) (bd : Binds X.K fd ["nodes"] []) : CallRK X (.builtin "sorted") [Str.ofString "key"] (rSortBy X.K f) := by
  intro pins s σ H xs zs us ws Q I r rz h
  obtain ⟨l, ps, e1, e2, hs, tups, few, q⟩ := h
  exact cr_sortV (F := fun g => g = f) (st := fun _ _ => True) (fun g e => by rw [e]; exact .of G bd) hr pins s σ H xs zs us ws Q I r rz ⟨f, l, ps, rfl, trivial, e1, e2, hs, tups, few, q⟩
end
end Moot
namespace Moot
open PySem PySem.Spec PyProof.Rows L2
def top (i : Nat) : Stmt := PySem.Challenge.pw_oathmoot_k04_minimal_sets.main.body.getD i (.Pass ⟨0, 0, 0, 0⟩)
/-! the box of drawn numbers -/
structure Box (H : Hp) (b g m : Addr) (n : Nat) : Prop where
  ex : ∃ (x k : Int) (gs ms : List Int), H b = some (.lst [.ref g, .int x, .ref m, .int k]) ∧ H g = some (.lst (gs.map V.int)) ∧ H m = some (.lst (ms.map V.int)) ∧ 0 ≤ k ∧ k ≤ n ∧ gs.length ≤ 63 ∧ ms.length ≤ 63
  bg : b ≠ g
  bm : b ≠ m
  gm : g ≠ m
/-- all but the box's own cells stays -/
def Keep (b g : Addr) (H H' : Hp) : Prop := ∀ c o, H c = some o → c ≠ b → c ≠ g → H' c = some o
theorem same_new {H : Hp} {p : Addr} {o : HO} (h : H p = none) : Same H (upd H p o) := fun b x e => by
  rw [upd_ne (ne_of_none e h)]
  exact e
theorem Keep.refl (b g : Addr) (H : Hp) : Keep b g H H := fun _ _ e _ _ => e
theorem Keep.trans {b g : Addr} {H H1 H2 : Hp} (k : Keep b g H H1) (l : Keep b g H1 H2) : Keep b g H H2 := fun c o e n1 n2 => l c o (k c o e n1 n2) n1 n2
theorem Same.keep {b g : Addr} {H H' : Hp} (s : Same H H') : Keep b g H H' := fun c o e _ _ => s c o e
theorem Box.same {H H' : Hp} {b g m : Addr} {n : Nat} (B : Box H b g m n) (s : Same H H') : Box H' b g m n := by
  obtain ⟨⟨x, k, gs, ms, h1, h2, h3, r⟩, n1, n2, n3⟩ := B
  exact ⟨⟨x, k, gs, ms, s _ _ h1, s _ _ h2, s _ _ h3, r⟩, n1, n2, n3⟩
theorem Box.more {H : Hp} {b g m : Addr} {n n' : Nat} (B : Box H b g m n) (h : n ≤ n') : Box H b g m n' := by
  obtain ⟨⟨x, k, gs, ms, h1, h2, h3, h4, h5, r⟩, n1, n2, n3⟩ := B
  exact ⟨⟨x, k, gs, ms, h1, h2, h3, h4, by omega, r⟩, n1, n2, n3⟩
/-- a store elsewhere -/
theorem Box.store {H : Hp} {b g m p : Addr} {n : Nat} {o : HO} (B : Box H b g m n) (p1 : p ≠ b) (p2 : p ≠ g) (p3 : p ≠ m) : Box (upd H p o) b g m n := by
  obtain ⟨⟨x, k, gs, ms, h1, h2, h3, r⟩, n1, n2, n3⟩ := B
  exact ⟨⟨x, k, gs, ms, by rw [upd_ne p1.symm]; exact h1, by rw [upd_ne p2.symm]; exact h2, by rw [upd_ne p3.symm]; exact h3, r⟩, n1, n2, n3⟩
theorem Box.b_in {H : Hp} {b g m : Addr} {n : Nat} (B : Box H b g m n) : ∃ o, H b = some o := let ⟨_, _, _, _, h, _⟩ := B.ex; ⟨_, h⟩
theorem Box.g_in {H : Hp} {b g m : Addr} {n : Nat} (B : Box H b g m n) : ∃ o, H g = some o := let ⟨_, _, _, _, _, h, _⟩ := B.ex; ⟨_, h⟩
theorem Box.m_in {H : Hp} {b g m : Addr} {n : Nat} (B : Box H b g m n) : ∃ o, H m = some o := let ⟨_, _, _, _, _, _, h, _⟩ := B.ex; ⟨_, h⟩
/-- an int at a place in bounds -/
theorem int_at (l : List Int) {i : Int} (h0 : 0 ≤ i) (h1 : i < l.length) : ∃ z : Int, atI (l.map V.int) i = some (.int z) := by
  obtain ⟨j, rfl⟩ := Int.eq_ofNat_of_zero_le h0
  have lt : j < l.length := by omega
  exact ⟨l[j], atI_nat (by rw [List.getElem?_map, List.getElem?_eq_getElem lt]; rfl)⟩
section
variable {P : Program} {w : World} {K : PySem.W.Frag} {mg : Str → Option Value} {base : Heap}
/-! _law_box -/
abbrev sBox : Stmt := top 15
abbrev nBox : List Str := ["_law_script", "_law_great", "_law_cell"]
theorem scBox : FnScope nBox ["_law_script"] (defScope sBox) := ⟨rfl, rfl, rfl, by decide +kernel, rfl, by decide +kernel, by decide +kernel⟩
def spBox (K : PySem.W.Frag) : Sp := fun vs H Q _ => ∃ (a : Addr) (ns : List Int), vs = [.ref a] ∧ SqL K H a (ns.map V.int) ∧ ns.length ≤ 63 ∧
  ∀ H' b g m, Same H H' → Box H' b g m 0 → Q (.ref b) H'
/-- some ints, no more than there were -/
def Ints (H : Hp) (p : Addr) (n : Nat) : Prop := ∃ ns : List Int, H p = some (.lst (ns.map V.int)) ∧ ns.length ≤ n
theorem ok_box {f : Addr} {fd : FuncData} {k : Nat} (F : Fun K "_law_box" "_law_box" sBox f fd) : FnOk P w K mg base CX0 (k + 1) f fd ["_law_script"] (spBox K) := by
  refine F.ok scBox (fun vs H Q E h => ?_) (fun cdv A outer s H vs Q E hr h => ?_)
  · obtain ⟨a, ns, rfl, _⟩ := h
    rfl
  · obtain ⟨a, ns, rfl, hS, len, q⟩ := h
    refine ⟨_, pss_cons (ps_setLc (i := 1) (own := [("_law_cell", 2)]) (g := gName 2) (by rfl) scBox.nd rfl rfl (sw_true rfl rfl rfl (by decide +kernel)) (pi_list (pv 0)) (blkOk_by (N := nBox) (sc := defScope sBox) (by decide +kernel))
        (fun _ _ _ _ _ => pg_name (i := 2) scBox.nd rfl (Or.inl rfl)) (fun _ _ _ _ _ => pts_one (pt_cmpR op_ge (pv 2) (pe_op op_pow pe_int pe_int) (nomark _))) (fun _ _ _ _ _ => pv 2))
      (pss_one (ps_ret (pe_lst (pa_cons (pv 1) (pa_cons pe_int (pa_cons
        (pe_lc (own := [("_law_cell", 2)]) (g := gName 2) (by rfl) scBox.nd (pi_list (pv 0)) (blkOk_by (N := nBox) (sc := defScope sBox) (by decide +kernel))
          (fun _ _ _ _ _ => pg_name (i := 2) scBox.nd rfl (Or.inl rfl)) (fun _ _ _ _ _ => pts_one (pt_cmpR op_lt (pv 2) (pe_op op_pow pe_int pe_int) (nomark _))) (fun _ _ _ _ _ => pv 2))
        (pa_cons pe_int pa_nil))))))), ?_⟩
    have item : ∀ (i : Nat) (x : V), (ns.map V.int)[i]? = some x → ∃ z, x = V.int z := fun i x e => by
      rw [List.getElem?_map] at e
      obtain ⟨z, _, rfl⟩ := Option.map_eq_some_iff.mp e
      exact ⟨z, rfl⟩
    have pow : CPow 10 18 := ⟨by decide, by decide, by decide⟩
    have small : ∀ {l : List Int} {i : Nat}, l.length ≤ i → i < ns.length → (l.map V.int).length < sizeLine := fun h1 h2 => by
      rw [List.length_map]
      exact small1000 (by omega)
    refine ⟨.ref a, rfl, a, rfl, ⟨_, hS⟩, fun D nD => lc_list (K := K) (a := a) (xs := ns.map V.int) (fun i H1 => Same H H1 ∧ ∃ gs : List Int, H1 D = some (.lst (gs.map V.int)) ∧ gs.length ≤ i) ?_ (fun i H1 _ h => Same.seq h.1 hS) ?_ ?_⟩
    · exact ⟨same_new nD, [], upd_same, Nat.le_refl _⟩
    · rintro i x H1 hx ⟨s1, gs, hD, hl⟩
      have hi : i < ns.length := by
        have := (List.getElem?_eq_some_iff.mp hx).1
        rwa [List.length_map] at this
      obtain ⟨z, rfl⟩ := item i x hx
      refine ⟨rfl, .int z, rfl, 10, 18, rfl, rfl, pow, _, _, rfl, rfl, _, rfl, ite2 (fun _ => ?_) (fun _ => ?_)⟩
      · refine ⟨.int z, rfl, _, hD, small hl hi, fun c o e => ?_, gs ++ [z], ?_, ?_⟩
        · rw [upd_ne (ne_of_none e nD)]
          exact s1 c o e
        · rw [upd_same, List.map_append]
          rfl
        · rw [List.length_append]
          exact Nat.succ_le_succ hl
      · exact ⟨s1, gs, hD, Nat.le_succ_of_le hl⟩
    · rintro H1 ⟨s1, gs, hD, hl⟩
      rw [List.length_map] at hl
      have hS1 : SqL K H1 a (ns.map V.int) := Same.seq s1 hS
      refine ⟨.ref D, rfl, .ref a, rfl, a, rfl, ⟨_, hS1⟩, fun D2 nD2 => lc_list (K := K) (a := a) (xs := ns.map V.int) (fun i H2 => Same H1 H2 ∧ ∃ ms : List Int, H2 D2 = some (.lst (ms.map V.int)) ∧ ms.length ≤ i) ?_ (fun i H2 _ h => Same.seq h.1 hS1) ?_ ?_⟩
      · exact ⟨same_new nD2, [], upd_same, Nat.le_refl _⟩
      · rintro i x H2 hx ⟨s2, ms, hD2, hl2⟩
        have hi : i < ns.length := by
          have := (List.getElem?_eq_some_iff.mp hx).1
          rwa [List.length_map] at this
        obtain ⟨z, rfl⟩ := item i x hx
        refine ⟨rfl, .int z, rfl, 10, 18, rfl, rfl, pow, _, _, rfl, rfl, _, rfl, ite2 (fun _ => ?_) (fun _ => ?_)⟩
        · refine ⟨.int z, rfl, _, hD2, small hl2 hi, fun c o e => ?_, ms ++ [z], ?_, ?_⟩
          · rw [upd_ne (ne_of_none e nD2)]
            exact s2 c o e
          · rw [upd_same, List.map_append]
            rfl
          · rw [List.length_append]
            exact Nat.succ_le_succ hl2
        · exact ⟨s2, ms, hD2, Nat.le_succ_of_le hl2⟩
      · rintro H2 ⟨s2, ms, hD2, hl2⟩
        rw [List.length_map] at hl2
        refine ⟨by show 4 ≤ sizeLine; decide, fun b nb => ?_⟩
        have nD' : H2 D = some (.lst (gs.map V.int)) := s2 _ _ hD
        have ne : D ≠ D2 := ne_of_none hD nD2
        have e1 : D ≠ b := ne_of_none nD' nb
        have e2 : D2 ≠ b := ne_of_none hD2 nb
        refine q _ b D D2 ((s1.trans s2).trans (same_new nb)) ⟨⟨0, 0, gs, ms, upd_same, ?_, ?_, Int.le_refl _, Int.le_refl _, by omega, by omega⟩, e1.symm, e2.symm, ne⟩
        · rw [upd_ne e1]
          exact nD'
        · rw [upd_ne e2]
          exact hD2
/-! _law_mixed -/
abbrev sMixed : Stmt := top 16
abbrev nMixed : List Str := ["_law_cell", "_law_k", "_law_whole"]
theorem scMixed : FnScope nMixed ["_law_cell", "_law_k"] (defScope sMixed) := ⟨rfl, rfl, rfl, by decide +kernel, rfl, by decide +kernel, by decide +kernel⟩
def spMixed : Sp := fun vs H Q _ => ∃ c k : Int, vs = [.int c, .int k] ∧ 0 ≤ k ∧ k ≤ 10000000 ∧ ∀ v : Int, Q (.int v) H
theorem ok_mixed {f : Addr} {fd : FuncData} {k : Nat} (F : Fun K "_law_mixed" "_law_mixed" sMixed f fd) : FnOk P w K mg base CX0 (k + 1) f fd ["_law_cell", "_law_k"] spMixed := by
  refine F.ok scMixed (fun vs H Q E h => ?_) (fun cdv A outer s H vs Q E hr h => ?_)
  · obtain ⟨c, k, rfl, _⟩ := h
    rfl
  · obtain ⟨c, k, rfl, k0, k1, q⟩ := h
    refine ⟨_, pss_cons (ps_set (i := 2) scMixed.nd rfl (Or.inl rfl) (pe_op op_mod (pe_op op_pow
        (pe_op op_add (pe_op op_add (pe_op op_add (pe_op op_mod (pv 0) pe_int) (pe_op op_mul (pe_op op_mul pe_int (pv 1)) (pv 1))) (pe_op op_mul pe_int (pv 1))) pe_int) pe_int) pe_int))
      (pss_one (ps_ret (pe_op op_mod (pe_op op_add (pe_op op_mul (pv 2) pe_int) (pe_op op_mul pe_int (pv 1))) pe_int))), ?_⟩
    have m0 : 0 ≤ c % 2147483647 := Int.emod_nonneg _ (by decide)
    have m1 : c % 2147483647 < 2147483647 := Int.emod_lt_of_pos _ (by decide)
    have sq : 0 ≤ k * k ∧ k * k ≤ 10000000 * 10000000 := ⟨Int.mul_nonneg k0 k0, Int.mul_le_mul k1 k1 k0 (by decide)⟩
    have e : 1009 * k * k = 1009 * (k * k) := Int.mul_assoc _ _ _
    have big : (c % 2147483647 + 1009 * k * k + 48611 * k + 17).natAbs < 2 ^ 64 := by
      rw [e]
      omega
    refine ⟨_, rfl, _, _, rfl, rfl, (by show (0 : Int) < 2147483647; decide), _, rfl, _, _, rfl, rfl, .inl ⟨by decide, by decide⟩, _, rfl, _, _, rfl, rfl, .inr ⟨by omega, by omega⟩, _, _, rfl, rfl, _, rfl, _, _, rfl, rfl, .inl ⟨by decide, by decide⟩, _, _, rfl, rfl, _, _, rfl, rfl,
      _, _, rfl, rfl, ⟨by decide, by decide, big⟩, _, _, rfl, rfl, (by show (0 : Int) < 2147483647; decide), ?_⟩
    refine ⟨_, rfl, _, _, rfl, rfl, .inr ⟨by decide, by decide⟩, _, rfl, _, _, rfl, rfl, .inl ⟨by decide, by decide⟩, _, _, rfl, rfl, _, _, rfl, rfl, (by show (0 : Int) < 1000000007; decide), ?_⟩
    exact q _
/-! _law_take -/
abbrev sTake : Stmt := top 17
abbrev nTake : List Str := ["_law_box_here", "_law_size", "_law_found", "_law_cell", "_law_reach"]
theorem scTake : FnScope nTake ["_law_box_here", "_law_size"] (defScope sTake) := ⟨rfl, rfl, rfl, by decide +kernel, rfl, by decide +kernel, by decide +kernel⟩
/-- a drawn number below size; the box is a box again -/
def spTake : Sp := fun vs H Q _ => ∃ (b g m : Addr) (n : Nat) (size : Int), vs = [.ref b, .int size] ∧ Box H b g m n ∧ n ≤ 1000000 ∧ 1 ≤ size ∧ size ≤ 1000 ∧
  ∀ (v : Int) (H' : Hp), 0 ≤ v → v < size → Box H' b g m (n + 1) → Keep b g H H' → Q (.int v) H'
theorem ok_take {f fM : Addr} {fd fdM : FuncData} {k : Nat} (F : Fun K "_law_take" "_law_take" sTake f fd) (FM : Fun K "_law_mixed" "_law_mixed" sMixed fM fdM) (bM : Binds K fdM ["_law_cell", "_law_k"] []) (gM : mg "_law_mixed" = some (.ref fM))
    (ml : mg "len" = none) (mx : mg "max" = none) : FnOk P w K mg base CX0 (k + 2) f fd ["_law_box_here", "_law_size"] spTake := by
  have GM : FnOk P w K mg base CX0 (k + 1) fM fdM ["_law_cell", "_law_k"] spMixed := ok_mixed FM
  refine F.ok scTake (fun vs H Q E h => ?_) (fun cdv A outer s H vs Q E hr h => ?_)
  · obtain ⟨b, g, m, n, size, rfl, _⟩ := h
    rfl
  · obtain ⟨b, g, m, n, size, rfl, B, hn, s1, s2, q⟩ := h
    refine ⟨_, pss_cons (ps_asg (pe_op op_add (pe_ix ix_list (pv 0) pe_int (fun _ _ => rfl)) pe_int) (pg_sub (pv 0) pe_int L2.set_list))
      (C8.pss_cut (ps_if (PW.pt (pw_and (pt_cmpR op_eq (pe_ix ix_list (pv 0) pe_int (fun _ _ => rfl)) pe_int (nomark _))
          (pw_and1 (pt_cmpR op_gt (pe_callB call_len_seq (by rfl) ml PySem.boot_len (pa_cons (pe_ix ix_list (pv 0) pe_int (fun _ _ => rfl)) pa_nil)) pe_int (nomark _)))))
        (pss_one (ps_asg (pe_bm PySem.F.plainAttrs_list PySem.F.slot_list_pop PySem.F.type_list_pop mt_popAt (pe_ix ix_list (pv 0) pe_int (fun _ _ => rfl)) (pa_cons pe_int pa_nil)) (pg_sub (pv 0) pe_int L2.set_list))) pss_nil)
      (pss_cons (ps_if (pt_cmpR op_gt (pe_ix ix_list (pv 0) pe_int (fun _ _ => rfl)) pe_int (nomark _))
        (pss_cons (ps_set (i := 2) scTake.nd rfl (Or.inl rfl) (pe_op op_mod (pe_ix ix_list (pv 0) pe_int (fun _ _ => rfl)) (pv 1)))
        (pss_cons (ps_asg (pe_op op_fdiv (pe_ix ix_list (pv 0) pe_int (fun _ _ => rfl)) (pv 1)) (pg_sub (pv 0) pe_int L2.set_list))
        (pss_one (ps_ret (pv 2))))) pss_nil)
      (pss_cons (ps_set (i := 3) scTake.nd rfl (Or.inl rfl) (pe_ix ix_list (pe_op op_cat (pe_ix ix_list (pv 0) pe_int (fun _ _ => rfl)) (pe_lst (pa_cons (pe_op op_mul pe_int (pe_ix ix_list (pv 0) pe_int (fun _ _ => rfl))) pa_nil)))
          (pe_op op_mod (pe_ix ix_list (pv 0) pe_int (fun _ _ => rfl)) (pe_callB (call_max2 rfl) (by rfl) mx (by decide +kernel) (pa_cons pe_int (pa_cons (pe_callB call_len_seq (by rfl) ml PySem.boot_len (pa_cons (pe_ix ix_list (pv 0) pe_int (fun _ _ => rfl)) pa_nil)) pa_nil)))) (fun _ _ => rfl)))
      (pss_cons (ps_set (i := 2) scTake.nd rfl (Or.inl rfl) pe_int)
      (pss_cons (ps_set (i := 4) scTake.nd rfl (Or.inl rfl) pe_int)
      (pss_cons (ps_while PassesOwn.never (pt_cmpR op_lt (pv 4) (pv 1) (nomark _))
        (pss_cons (ps_set (i := 2) scTake.nd rfl (Or.inl rfl) (pe_op op_add (pe_op op_mul (pv 2) pe_int) (pe_call GM hr (by rfl) gM FM.kp bM .nil pass0 (pa_cons (pv 3) (pa_cons (pe_op op_add (pe_ix ix_list (pv 0) pe_int (fun _ _ => rfl)) (pe_op op_mul pe_int (pe_op op_mod (pv 2) pe_int))) pa_nil)))))
        (pss_one (ps_set (i := 4) scTake.nd rfl (Or.inl rfl) (pe_op op_mul (pv 4) pe_int)))))
      (pss_one (ps_ret (pe_op op_mod (pv 2) (pv 1)))))))))), ?_⟩
    obtain ⟨⟨x, c, gs, ms, hb, hg, hm, c0, c1, gl, mlen⟩, bg, bm, gm⟩ := id B
    -- box[3] = box[3] + 1
    refine ⟨.ref b, rfl, b, _, 3, .int c, rfl, rfl, SqL.of hb, rfl, _, _, rfl, rfl, .ref b, rfl, b, _, 3, 3, rfl, rfl, hb, rfl, ?_⟩
    -- the word between
    refine ⟨fun σ H1 => σ = [some (.ref b), some (.int size), none, none, none] ∧ ∃ (x1 : Int) (gs1 : List Int), H1 b = some (.lst [.ref g, .int x1, .ref m, .int (c + 1)]) ∧ H1 g = some (.lst (gs1.map V.int)) ∧ gs1.length ≤ 63 ∧ Keep b g H H1, ?_, ?_⟩
    · have hb1 : (upd H b (.lst [.ref g, .int x, .ref m, .int (c + 1)])) b = some (.lst [.ref g, .int x, .ref m, .int (c + 1)]) := upd_same
      have hg1 : (upd H b (.lst [.ref g, .int x, .ref m, .int (c + 1)])) g = some (.lst (gs.map V.int)) := by rw [upd_ne bg.symm]; exact hg
      have kp1 : Keep b g H (upd H b (.lst [.ref g, .int x, .ref m, .int (c + 1)])) := fun d o e n1 _ => by rw [upd_ne n1]; exact e
      refine ⟨.ref b, rfl, b, _, 1, .int x, rfl, rfl, SqL.of hb1, rfl, rfl, _, rfl, ?_⟩
      refine ite2 (fun _ => ?_) (fun _ => ?_)
      · refine ⟨.ref b, rfl, b, _, 0, .ref g, rfl, rfl, SqL.of hb1, rfl, g, _, rfl, .inl (SqL.of hg1), _, _, rfl, rfl, _, rfl, ite2 (fun e => ?_) (fun _ => ?_)⟩
        · have pos := of_decide_eq_true e
          rw [List.length_map] at pos
          obtain ⟨z, r, rfl⟩ : ∃ z r, gs = z :: r := by
            cases gs with
            | nil => simp at pos
            | cons z r => exact ⟨z, r, rfl⟩
          refine ⟨.ref b, rfl, b, _, 0, .ref g, rfl, rfl, SqL.of hb1, rfl, .inl ⟨rfl, _, SqL.of hg1⟩, g, _, 0, 0, .int z, rfl, rfl, hg1, by decide, by decide, ?_, rfl, ?_⟩
          · simp [seqIndex?]
          · refine ⟨.ref b, rfl, b, [.ref g, .int x, .ref m, .int (c + 1)], 1, 1, rfl, rfl, by rw [upd_ne bg]; exact hb1, rfl, rfl, z, r, upd_same, ?_, ?_, ?_⟩
            · rw [upd_ne bg.symm, upd_same]
              rfl
            · simp at gl
              omega
            · intro d o e n1 n2
              rw [upd_ne n1, upd_ne n2]
              exact kp1 d o e n1 n2
        · exact ⟨rfl, x, gs, hb1, hg1, gl, kp1⟩
      · exact ⟨rfl, x, gs, hb1, hg1, gl, kp1⟩
    · rintro σ H1 ⟨rfl, x1, gs1, hb1, hg1, gl1, kp1⟩
      have hm1 : H1 m = some (.lst (ms.map V.int)) := kp1 _ _ hm bm.symm gm.symm
      -- if box[1] > 0
      refine ⟨.ref b, rfl, b, _, 1, .int x1, rfl, rfl, SqL.of hb1, rfl, _, _, rfl, rfl, _, rfl, ite2 (fun _ => ?_) (fun _ => ?_)⟩
      · refine ⟨.ref b, rfl, b, _, 1, .int x1, rfl, rfl, SqL.of hb1, rfl, .int size, rfl, _, _, rfl, rfl, (by show 0 < size; omega), ?_⟩
        refine ⟨.ref b, rfl, b, _, 1, .int x1, rfl, rfl, SqL.of hb1, rfl, .int size, rfl, _, _, rfl, rfl, ⟨by omega, by omega⟩, .ref b, rfl, b, _, 1, 1, rfl, rfl, hb1, rfl, ?_⟩
        refine ⟨.int (x1 % size), rfl, q _ _ (Int.emod_nonneg _ (by omega)) (Int.emod_lt_of_pos _ (by omega)) ⟨⟨x1 / size, c + 1, gs1, ms, upd_same, ?_, ?_, by omega, by omega, gl1, mlen⟩, bg, bm, gm⟩ ?_⟩
        · rw [upd_ne bg.symm]
          exact hg1
        · rw [upd_ne bm.symm]
          exact hm1
        · intro d o e n1 n2
          rw [upd_ne n1]
          exact kp1 d o e n1 n2
      · -- the cell
        have mx0 : (0 : Int) < (if ((ms.map V.int).length : Int) > 1 then ((ms.map V.int).length : Int) else 1) := by
          split <;> omega
        refine ⟨.ref b, rfl, b, _, 2, .ref m, rfl, rfl, SqL.of hb1, rfl, .ref b, rfl, b, _, 3, .int (c + 1), rfl, rfl, SqL.of hb1, rfl, _, _, rfl, rfl, .inl ⟨by decide, by decide⟩, by show 1 ≤ sizeLine; decide, fun l1 nl1 => ?_⟩
        have ne1 : m ≠ l1 := ne_of_none hm1 nl1
        refine ⟨m, l1, ms.map V.int, [.int (7 * (c + 1))], rfl, rfl, by rw [upd_ne ne1]; exact hm1, upd_same, ?_, fun l2 nl2 => ?_⟩
        · rw [List.length_map]
          have : (63 : Nat) + 1 ≤ sizeLine := by decide
          show ms.length + 1 ≤ sizeLine
          omega
        have hb2 : upd (upd H1 l1 (.lst [.int (7 * (c + 1))])) l2 (.lst (ms.map V.int ++ [.int (7 * (c + 1))])) b = some (.lst [.ref g, .int x1, .ref m, .int (c + 1)]) := by
          rw [upd_ne (ne_of_none (by rw [upd_ne (ne_of_none hb1 nl1)]; exact hb1) nl2), upd_ne (ne_of_none hb1 nl1)]
          exact hb1
        have s2' : Same H1 (upd (upd H1 l1 (.lst [.int (7 * (c + 1))])) l2 (.lst (ms.map V.int ++ [.int (7 * (c + 1))]))) := (same_new nl1).trans (same_new nl2)
        have at2 : upd (upd H1 l1 (.lst [.int (7 * (c + 1))])) l2 (.lst (ms.map V.int ++ [.int (7 * (c + 1))])) l2 = some (.lst (ms.map V.int ++ [.int (7 * (c + 1))])) := upd_same
        generalize upd (upd H1 l1 (.lst [.int (7 * (c + 1))])) l2 (.lst (ms.map V.int ++ [.int (7 * (c + 1))])) = H2 at hb2 s2' at2
        have hm2 := s2' _ _ hm1
        have idx : ∃ z : Int, atI (ms.map V.int ++ [V.int (7 * (c + 1))]) ((c + 1) % (if ((ms.map V.int).length : Int) > 1 then ((ms.map V.int).length : Int) else 1)) = some (.int z) := by
          have e : ms.map V.int ++ [V.int (7 * (c + 1))] = (ms ++ [7 * (c + 1)]).map V.int := by rw [List.map_append]; rfl
          rw [e]
          refine int_at _ (Int.emod_nonneg _ (by omega)) ?_
          refine Int.lt_of_lt_of_le (Int.emod_lt_of_pos (c + 1) mx0) ?_
          rw [List.length_map, List.length_append, List.length_singleton]
          split <;> omega
        obtain ⟨z, idx⟩ := idx
        refine ⟨.ref b, rfl, b, _, 3, .int (c + 1), rfl, rfl, SqL.of hb2, rfl, .ref b, rfl, b, _, 2, .ref m, rfl, rfl, SqL.of hb2, rfl, m, _, rfl, .inl (SqL.of hm2), _, _, rfl, _, _, rfl, rfl, mx0, l2, _, _, .int z, rfl, rfl, SqL.of at2, idx, ?_⟩
        -- the loop
        refine while_by (fun σ H3 => H3 = H2 ∧ ∃ fo re : Int, σ = [some (.ref b), some (.int size), some (.int fo), some (.int z), some (.int re)] ∧ (re = 1 ∧ fo = 0 ∨ re = 1000000007))
          (fun (σ : L2.St) _ => match σ[4]? with | some (some (V.int r)) => if r = 1 then 1 else 0 | _ => 0) ⟨rfl, 0, 1, rfl, .inl ⟨rfl, rfl⟩⟩ ?_
          (fun σ H Q Q' hq ⟨v, e, v', e', i, j, e1, e2, b, eb, h⟩ => ⟨v, e, v', e', i, j, e1, e2, b, eb, hq _ _ h⟩)
        rintro σ H3 ⟨rfl, fo, re, rfl, hre⟩
        refine ⟨.int re, rfl, .int size, rfl, _, _, rfl, rfl, _, rfl, ite2 (fun e => ?_) (fun _ => ?_)⟩
        · have lt : re < size := of_decide_eq_true e
          obtain ⟨rfl, rfl⟩ : re = 1 ∧ fo = 0 := by
            rcases hre with h | h
            · exact h
            · omega
          refine ⟨.int 0, rfl, _, _, rfl, rfl, .inl ⟨by decide, by decide⟩, .int z, rfl, .ref b, rfl, b, _, 3, .int (c + 1), rfl, rfl, SqL.of hb2, rfl, .int 0, rfl, _, _, rfl, rfl, (by show (0 : Int) < 89; decide), _, _, rfl, rfl, .inl ⟨by decide, by decide⟩, _, _, rfl, rfl, z, _, rfl, ?_, ?_, fun v => ?_⟩
          · show 0 ≤ c + 1 + 1000 * (0 % 89)
            omega
          · show c + 1 + 1000 * (0 % 89) ≤ 10000000
            omega
          · refine ⟨_, _, rfl, rfl, .int 1, rfl, _, _, rfl, rfl, .inl ⟨by decide, by decide⟩, ⟨rfl, _, 1 * 1000000007, rfl, .inr rfl⟩, ?_⟩
            show (if (1 * 1000000007 : Int) = 1 then 1 else 0) < (if (1 : Int) = 1 then 1 else 0)
            decide
        · refine ⟨.int fo, rfl, .int size, rfl, _, _, rfl, rfl, (by show 0 < size; omega), q _ _ (Int.emod_nonneg _ (by omega)) (Int.emod_lt_of_pos _ (by omega)) ⟨⟨x1, c + 1, gs1, ms, hb2, s2' _ _ hg1, hm2, by omega, by omega, gl1, mlen⟩, bg, bm, gm⟩ ?_⟩
          exact kp1.trans (Same.keep s2')
end
end Moot
namespace Moot
open PySem PySem.Spec PyProof.Rows L2
/-! texts of one sign -/
def sg (c : Nat) : Str := ⟨#[c]⟩
theorem sg_inj {c d : Nat} (h : sg c = sg d) : c = d := by
  have := congrArg (fun s : Str => s.cps.toList) h
  simpa [sg] using this
theorem glue_one : ∀ (cs : List Nat) (acc : Array Nat), (cs.map sg).foldl (fun a p => a ++ Str.empty.cps ++ p.cps) acc = acc ++ cs.toArray
  | [], acc => by simp
  | c :: cs, acc => by
    rw [List.map_cons, List.foldl_cons, glue_one cs]
    simp [Str.empty, sg]
theorem join_signs (cs : List Nat) : Txt.join Str.empty (cs.map sg) = ⟨cs.toArray⟩ := by
  unfold Txt.join Builtin.Str.glued
  cases cs with
  | nil => rfl
  | cons c cs =>
    show (⟨(cs.map sg).foldl _ (sg c).cps⟩ : Str) = _
    rw [glue_one]
    simp [sg]
/-- a name: one to eight letters -/
structure Nm (x : Str) : Prop where
  lo : 1 ≤ x.cps.size
  hi : x.cps.size ≤ 8
  low : ∀ c ∈ x.cps.toList, 97 ≤ c ∧ c ≤ 122
theorem Nm.ok {x : Str} (h : Nm x) : PyData.strOk x = true := by
  unfold PyData.strOk
  rw [Array.all_eq_true]
  intro i hi
  have := h.low x.cps[i] (by simp)
  simp
  omega
abbrev abc : Str := "abcdefghijklmnopqrstuvwxyz"
theorem abc_list : abc.cps.toList = (List.range 26).map (· + 97) := by decide +kernel
theorem abc_size : abc.cps.size = 26 := by decide +kernel
theorem abc_at {i : Nat} (h : i < 26) : abc.cps.toList[i]? = some (i + 97) := by
  rw [abc_list, List.getElem?_map, List.getElem?_range h]
  rfl
theorem sg_nm {c : Nat} (h : c < 26) : Nm (sg (c + 97)) := ⟨by simp [sg], by simp [sg], fun d m => by
  have : d = c + 97 := by simpa [sg] using m
  omega⟩
theorem nm_of {cs : List Nat} (h1 : 1 ≤ cs.length) (h2 : cs.length ≤ 8) (h : ∀ c ∈ cs, 97 ≤ c ∧ c ≤ 122) : Nm ⟨cs.toArray⟩ := ⟨by simpa using h1, by simpa using h2, fun c m => h c (by simpa using m)⟩
theorem inV_str (z : Str) (xs : List Str) : inV (.str z) (xs.map V.str) = decide (z ∈ xs) := by
  unfold inV
  rw [List.any_map]
  rw [Bool.eq_iff_iff, List.any_eq_true, decide_eq_true_eq]
  constructor
  · rintro ⟨y, m, e⟩
    have : y = z := by simpa [eqV] using e
    exact this ▸ m
  · intro m
    exact ⟨z, m, by simp [eqV]⟩
theorem flats (xs : List Str) : (xs.map V.str).all flatV = true := by
  rw [List.all_map]
  exact List.all_eq_true.mpr fun _ _ => rfl
/-- some letter is not among fewer than 26 names -/
theorem letter_left (xs : List Str) (h : xs.length < 26) : ∃ c, c < 26 ∧ sg (c + 97) ∉ xs := by
  rcases Classical.em (∃ c, c < 26 ∧ sg (c + 97) ∉ xs) with h' | h'
  · exact h'
  · exfalso
    have all : ∀ y ∈ (List.range 26).map (fun c => sg (c + 97)), y ∈ xs := fun y m => by
      obtain ⟨c, hc, rfl⟩ := List.mem_map.mp m
      rcases Classical.em (sg (c + 97) ∈ xs) with k | k
      · exact k
      · exact absurd ⟨c, List.mem_range.mp hc, k⟩ h'
    have nd : ((List.range 26).map (fun c => sg (c + 97))).Nodup := by
      refine List.Pairwise.map _ (fun a b n e => n ?_) (List.nodup_range (n := 26))
      have := sg_inj e
      omega
    have : ∀ (l D : List Str), l.Nodup → (∀ y ∈ l, y ∈ D) → l.length ≤ D.length := by
      intro l
      induction l with
      | nil => intros; exact Nat.zero_le _
      | cons y l ih =>
        intro D n s
        obtain ⟨n1, n2⟩ := List.nodup_cons.mp n
        have my := s y List.mem_cons_self
        have := ih (D.erase y) n2 fun z mz => (List.mem_erase_of_ne fun (e : z = y) => n1 (e ▸ mz)).mpr (s z (List.mem_cons_of_mem _ mz))
        have e := List.length_erase_of_mem my
        have := List.length_pos_of_mem my
        rw [List.length_cons]
        omega
    have := this _ xs nd all
    rw [List.length_map, List.length_range] at this
    omega
theorem Box.ne {H : Hp} {b g m p : Addr} {n : Nat} (B : Box H b g m n) (h : H p = none) : p ≠ b ∧ p ≠ g ∧ p ≠ m := by
  obtain ⟨o1, h1⟩ := B.b_in
  obtain ⟨o2, h2⟩ := B.g_in
  obtain ⟨o3, h3⟩ := B.m_in
  exact ⟨(ne_of_none h1 h).symm, (ne_of_none h2 h).symm, (ne_of_none h3 h).symm⟩
theorem Keep.free {b g p : Addr} {H H' : Hp} (k : Keep b g H H') (p1 : p ≠ b) (p2 : p ≠ g) (h : H' p = none) : H p = none := by
  cases e : H p with
  | none => rfl
  | some o =>
    rw [k p o e p1 p2] at h
    cases h
theorem one_two_eight {v : Int} (h0 : 0 ≤ v) (h1 : v < 3) : ∃ s : Int, atI [V.int 1, V.int 2, V.int 8] v = some (.int s) ∧ 1 ≤ s ∧ s ≤ 8 := by
  have c : v = 0 ∨ v = 1 ∨ v = 2 := by omega
  rcases c with rfl | rfl | rfl
  · exact ⟨1, rfl, by decide, by decide⟩
  · exact ⟨2, rfl, by decide, by decide⟩
  · exact ⟨8, rfl, by decide, by decide⟩
theorem erase_map {α β : Type} (f : α → β) : ∀ (l : List α) (k : Nat), (l.map f).eraseIdx k = (l.eraseIdx k).map f
  | [], _ => rfl
  | _ :: _, 0 => rfl
  | x :: l, k + 1 => by
    show f x :: (l.map f).eraseIdx k = f x :: (l.eraseIdx k).map f
    rw [erase_map f l k]
theorem seq_at {n : Nat} {v : Int} (h0 : 0 ≤ v) (h1 : v < n) : seqIndex? v n = some v.toNat := by
  have e : ixN n v = some v.toNat := by
    unfold ixN
    rw [if_pos h0, if_pos (by omega)]
  exact (ixN_seq e).1
section
variable {P : Program} {w : World} {K : PySem.W.Frag} {mg : Str → Option Value} {base : Heap}
/-! _law_names -/
abbrev sNames : Stmt := top 18
abbrev nNames : List Str := ["_law_box_here", "_law_many", "_law_letters", "_law_found", "_law_k", "_law_size", "_law_name_here", "_law_j", "_law_one"]
theorem scNames : FnScope nNames ["_law_box_here", "_law_many"] (defScope sNames) := ⟨rfl, rfl, rfl, by decide +kernel, rfl, by decide +kernel, by decide +kernel⟩
/-- that many names, none twice -/
def spNames : Sp := fun vs H Q _ => ∃ (b g m : Addr) (n : Nat) (many : Nat), vs = [.ref b, .int many] ∧ Box H b g m n ∧ n ≤ 900000 ∧ many ≤ 8 ∧
  ∀ (p : Addr) (xs : List Str) (H' : Hp), H p = none → H' p = some (.lst (xs.map V.str)) → xs.length = many → xs.Nodup → (∀ x ∈ xs, Nm x) → Box H' b g m (n + 100) → Keep b g H H' → Q (.ref p) H'
theorem ok_names {f fT : Addr} {fd fdT : FuncData} {k : Nat} (F : Fun K "_law_names" "_law_names" sNames f fd) (FT : Fun K "_law_take" "_law_take" sTake fT fdT) (bT : Binds K fdT ["_law_box_here", "_law_size"] []) (gT : mg "_law_take" = some (.ref fT))
    (GT : FnOk P w K mg base CX0 k fT fdT ["_law_box_here", "_law_size"] spTake) (mr : mg "range" = none) : FnOk P w K mg base CX0 (k + 1) f fd ["_law_box_here", "_law_many"] spNames := by
  refine F.ok scNames (fun vs H Q E h => ?_) (fun cdv A outer s H vs Q E hr h => ?_)
  · obtain ⟨b, g, m, n, many, rfl, _⟩ := h
    rfl
  · obtain ⟨b, g, m, n, many, rfl, B, hn, hmany, q⟩ := h
    refine ⟨_, pss_cons (ps_set (i := 2) scNames.nd rfl (Or.inr rfl) pe_str)
      (pss_cons (ps_set (i := 3) scNames.nd rfl (Or.inr rfl) (pe_lst pa_nil))
      (pss_cons (ps_for PassesOwn.never rfl (pi_range1 rfl mr (pa_cons (pv 1) pa_nil)) (pg_name (i := 4) scNames.nd rfl (Or.inl rfl))
        (pss_cons (ps_set (i := 5) scNames.nd rfl (Or.inl rfl) (pe_op op_add pe_int (pe_call GT hr (by rfl) gT FT.kp bT .nil pass0 (pa_cons (pv 0) (pa_cons (pe_ix ix_list (pe_lst (pa_cons pe_int (pa_cons pe_int (pa_cons pe_int pa_nil)))) (pe_call GT hr (by rfl) gT FT.kp bT .nil pass0 (pa_cons (pv 0) (pa_cons pe_int pa_nil))) (fun _ _ => rfl)) pa_nil)))))
        (pss_cons (ps_set (i := 6) scNames.nd rfl (Or.inl rfl) (pe_join pe_str (pe_lc (own := [("_law_j", 7)]) (g := gName 7) (tt := tYes) (by rfl) scNames.nd (pi_range1 rfl mr (pa_cons (pv 5) pa_nil)) (blkOk_by (N := nNames) (sc := defScope sNames) (by decide +kernel))
            (fun _ _ _ _ _ => pg_name (i := 7) scNames.nd rfl (Or.inl rfl)) (fun _ _ _ _ _ => pts_nil) (fun _ _ _ _ _ => pe_ix ix_str (pv 2) (pe_call GT hr (by rfl) gT FT.kp bT .nil pass0 (pa_cons (pv 0) (pa_cons pe_int pa_nil))) (fun _ _ => rfl)))))
        (pss_one (ps_expr (pe_bm PySem.F.plainAttrs_list PySem.F.slot_list_append PySem.F.type_list_append mt_append (pv 3) (pa_cons (pe_ifExp (pt_cmpR op_notIn_seq (pv 6) (pv 3) (by rfl)) (pv 6)
            (pe_ix ix_list (pe_lc (own := [("_law_one", 8)]) (g := gName 8) (by rfl) scNames.nd (pi_str (pv 2)) (blkOk_by (N := nNames) (sc := defScope sNames) (by decide +kernel))
              (fun _ _ _ _ _ => pg_name (i := 8) scNames.nd rfl (Or.inl rfl)) (fun _ _ _ _ _ => pts_one (pt_cmpR (show OpR _ (compareOp .NotIn) (rIn K true) from op_notIn_seq) (pv 8) (pv 3) (by rfl))) (fun _ _ _ _ _ => pv 8)) pe_int (fun _ _ => rfl))) pa_nil)))))))
      (pss_one (ps_ret (pv 3))))), ?_⟩
    -- letters, found
    refine ⟨Nat.zero_le _, fun p np => ?_⟩
    obtain ⟨pb, pg, pm⟩ := B.ne np
    refine ⟨.int many, rfl, many, rfl, by omega, by omega, for_range (lo := 0) (n := (many : Int).toNat) (fun i σ H1 => ∃ (xs : List Str) (y4 y5 y6 y7 y8 : Option V), σ = [some (.ref b), some (.int many), some (.str abc), some (.ref p), y4, y5, y6, y7, y8] ∧
      Box H1 b g m (n + 12 * i) ∧ Keep b g H H1 ∧ H1 p = some (.lst (xs.map V.str)) ∧ xs.length = i ∧ xs.Nodup ∧ ∀ x ∈ xs, Nm x) ?_ ?_ ?_⟩
    · exact ⟨[], none, none, none, none, none, rfl, B.store pb pg pm, Same.keep (same_new np), upd_same, rfl, List.nodup_nil, fun x m => by simp at m⟩
    · rintro i σ H1 hi ⟨xs, y4, y5, y6, y7, y8, rfl, B1, K1, h1, len, nd, nm⟩
      have hi8 : i < 8 := by omega
      -- the size
      refine ⟨.ref b, rfl, by show 3 ≤ sizeLine; decide, fun l1 nl1 => ?_⟩
      have B1' := B1.same (same_new (o := .lst [.int 1, .int 2, .int 8]) nl1)
      obtain ⟨lb, lg, lm⟩ := B1.ne nl1
      refine ⟨.ref b, rfl, b, g, m, _, 3, rfl, B1', by omega, by decide, by decide, fun v1 H2 v0 v3 B2 K2 => ?_⟩
      have hl2 : H2 l1 = some (.lst [.int 1, .int 2, .int 8]) := K2 _ _ upd_same lb lg
      obtain ⟨sz, at1, sz1, sz8⟩ := one_two_eight v0 v3
      refine ⟨l1, _, v1, .int sz, rfl, rfl, SqL.of hl2, at1, b, g, m, _, sz, rfl, B2, by omega, sz1, by omega, fun v2 H3 v20 v2s B3 K3 => ?_⟩
      have K13 : Keep b g H1 H3 := ((Same.keep (same_new nl1)).trans K2).trans K3
      refine ⟨_, _, rfl, rfl, ?_⟩
      -- the name
      refine ⟨⟨_, rfl⟩, .int (1 + v2), rfl, 1 + v2, rfl, by omega, by omega, fun D nD => ?_⟩
      obtain ⟨Db, Dg, Dm⟩ := B3.ne nD
      have abcAt : ∀ v : Int, 0 ≤ v → v < 26 → atI abc.cps.toList v = some (v.toNat + 97) := fun v a0 a1 => by
        obtain ⟨j, rfl⟩ := Int.eq_ofNat_of_zero_le a0
        exact atI_nat (abc_at (by omega))
      refine lc_range (lo := 0) (n := (1 + v2).toNat) (fun j H4 => Box H4 b g m (n + 12 * i + 2 + j) ∧ Keep b g H3 H4 ∧ ∃ cs : List Nat, H4 D = some (.lst ((cs.map sg).map V.str)) ∧ cs.length = j ∧ ∀ c ∈ cs, 97 ≤ c ∧ c ≤ 122) ?_ ?_ ?_
      · exact ⟨B3.store Db Dg Dm, Same.keep (same_new nD), [], upd_same, rfl, fun c m => by simp at m⟩
      · rintro j H4 hj ⟨B4, K4, cs, hD, lcs, low⟩
        refine ⟨rfl, .str abc, rfl, .ref b, rfl, b, g, m, _, 26, rfl, B4, by omega, by decide, by decide, fun v H5 a0 a1 B5 K5 => ?_⟩
        refine ⟨abc, v, v.toNat + 97, rfl, rfl, by show abc.cps.size ≤ sizeLine; rw [abc_size]; decide, abcAt v a0 a1, _, K5 _ _ hD Db Dg, ?_, ?_⟩
        · rw [List.length_map, List.length_map]
          exact small1000 (by omega)
        · refine ⟨(B5.store Db Dg Dm).more (by omega), fun d o e n1 n2 => ?_, cs ++ [v.toNat + 97], ?_, ?_, ?_⟩
          · rw [upd_ne (ne_of_none e nD)]
            exact K5 _ _ (K4 _ _ e n1 n2) n1 n2
          · rw [upd_same, List.map_append, List.map_append]
            rfl
          · rw [List.length_append, lcs]
            rfl
          · intro c mc
            rcases List.mem_append.mp mc with mc | mc
            · exact low c mc
            · have := List.mem_singleton.mp mc
              omega
      · rintro H4 ⟨B4, K4, cs, hD, lcs, low⟩
        have K14 : Keep b g H1 H4 := K13.trans K4
        have hp4 : H4 p = some (.lst (xs.map V.str)) := K14 _ _ h1 pb pg
        have lc8 : cs.length ≤ 8 := by omega
        have lc1 : 1 ≤ cs.length := by omega
        refine ⟨Str.empty, D, cs.map sg, rfl, rfl, .inl (SqL.of hD), ?_, ?_⟩
        · have : ((cs.map sg).map (·.length)).sum = cs.length := by
            clear lcs low hD lc8 lc1
            induction cs with
            | nil => rfl
            | cons c cs ih =>
              rw [List.map_cons, List.map_cons, List.sum_cons, ih, List.length_cons]
              show 1 + cs.length = _
              omega
          rw [this]
          show cs.length + _ * 0 ≤ _
          omega
        rw [join_signs]
        have nmN : Nm ⟨cs.toArray⟩ := nm_of lc1 lc8 low
        generalize (⟨cs.toArray⟩ : Str) = name at nmN ⊢
        refine ⟨.ref p, rfl, .inl ⟨rfl, _, SqL.of hp4⟩, .str name, rfl, .ref p, rfl, p, _, rfl, .inl (SqL.of hp4), rfl, flats xs, _, rfl, ?_⟩
        have put : ∀ (z : Str) (H5 : Hp), Nm z → z ∉ xs → Same H4 H5 → Box (upd H5 p (.lst (xs.map V.str ++ [.str z]))) b g m (n + 12 * (i + 1)) ∧ Keep b g H (upd H5 p (.lst (xs.map V.str ++ [.str z]))) ∧
            upd H5 p (.lst (xs.map V.str ++ [.str z])) p = some (.lst ((xs ++ [z]).map V.str)) ∧ (xs ++ [z]).length = i + 1 ∧ (xs ++ [z]).Nodup ∧ ∀ x ∈ xs ++ [z], Nm x := fun z H5 nz out s5 => by
          refine ⟨((B4.same s5).store pb pg pm).more (by omega), ?_, ?_, ?_, ?_, ?_⟩
          · intro d o e n1 n2
            rw [upd_ne (ne_of_none e np)]
            exact s5 _ _ (K14 _ _ (K1 _ _ e n1 n2) n1 n2)
          · rw [upd_same, List.map_append]
            rfl
          · rw [List.length_append, len]
            rfl
          · exact List.nodup_append.mpr ⟨nd, List.nodup_cons.mpr ⟨by simp, List.nodup_nil⟩, fun a ma c mc e => out (by rw [← List.mem_singleton.mp mc, ← e]; exact ma)⟩
          · intro x mx
            rcases List.mem_append.mp mx with mx | mx
            · exact nm x mx
            · rw [List.mem_singleton.mp mx]
              exact nz
        have room : (xs.map V.str).length < sizeLine := by
          rw [List.length_map, len]
          exact small1000 (by omega)
        rw [inV_str]
        by_cases inn : name ∈ xs
        · rw [decide_eq_true inn]
          refine iteF ?_
          refine ⟨.str abc, rfl, abc, rfl, fun D2 nD2 => ?_⟩
          refine lc_it walk_str (fun j H5 => Same H4 H5 ∧ H5 D2 = some (.lst (((((List.range 26).take j).filter fun c => decide (sg (c + 97) ∉ xs)).map fun c => sg (c + 97)).map V.str))) ?_ (fun _ _ _ _ => trivial) ?_ ?_
          · exact ⟨same_new nD2, upd_same⟩
          · rintro j x H5 H6 hj ⟨s5, hD2⟩ ⟨rfl, c, hc, rfl⟩
            have hj26 : j < 26 := by
              rw [abc_size] at hj
              exact hj
            have ec : c = j + 97 := by
              have := abc_at hj26
              rw [Array.getElem?_toList] at this
              exact Option.some.inj (hc.symm.trans this)
            subst ec
            have hp5 := s5 _ _ hp4
            have tk : (List.range 26).take (j + 1) = (List.range 26).take j ++ [j] := by
              rw [List.take_add_one, List.getElem?_range hj26]
              rfl
            refine ⟨rfl, .str (sg (j + 97)), rfl, .ref p, rfl, p, _, rfl, .inl (SqL.of hp5), rfl, flats xs, _, rfl, ?_⟩
            rw [inV_str]
            by_cases isIn : sg (j + 97) ∈ xs
            · rw [decide_eq_true isIn]
              refine iteF ⟨s5, ?_⟩
              rw [hD2, tk, List.filter_append]
              simp [isIn]
            · rw [decide_eq_false isIn]
              refine iteT ⟨.str (sg (j + 97)), rfl, _, hD2, ?_, fun d o e => ?_, ?_⟩
              · rw [List.length_map, List.length_map]
                refine small1000 (Nat.le_trans (List.length_filter_le _ _) ?_)
                rw [List.length_take]
                omega
              · rw [upd_ne (ne_of_none e nD2)]
                exact s5 d o e
              · rw [upd_same, tk, List.filter_append]
                simp [isIn]
          · rintro H5 ⟨s5, hD2⟩
            obtain ⟨c, hc, out⟩ := letter_left xs (by omega)
            have e26 : (List.range 26).take abc.cps.size = List.range 26 := by
              rw [abc_size]
              rfl
            rw [e26] at hD2
            have mem : c ∈ (List.range 26).filter fun c => decide (sg (c + 97) ∉ xs) := List.mem_filter.mpr ⟨List.mem_range.mpr hc, decide_eq_true out⟩
            obtain ⟨d, r, er⟩ : ∃ d r, ((List.range 26).filter fun c => decide (sg (c + 97) ∉ xs)) = d :: r := by
              cases h : ((List.range 26).filter fun c => decide (sg (c + 97) ∉ xs)) with
              | nil => rw [h] at mem; simp at mem
              | cons d r => exact ⟨d, r, rfl⟩
            have hd : d < 26 ∧ sg (d + 97) ∉ xs := by
              have : d ∈ (List.range 26).filter fun c => decide (sg (c + 97) ∉ xs) := by rw [er]; exact List.mem_cons_self
              obtain ⟨m1, m2⟩ := List.mem_filter.mp this
              exact ⟨List.mem_range.mp m1, of_decide_eq_true m2⟩
            rw [er] at hD2
            exact ⟨D2, _, 0, .str (sg (d + 97)), rfl, rfl, SqL.of hD2, atI_nat (j := 0) rfl, p, _, _, rfl, rfl, s5 _ _ hp4, room, xs ++ [sg (d + 97)], _, _, _, _, _, rfl, put _ H5 (sg_nm hd.1) hd.2 s5⟩
        · rw [decide_eq_false inn]
          refine iteT ?_
          exact ⟨.str name, rfl, p, _, _, rfl, rfl, hp4, room, xs ++ [name], _, _, _, _, _, rfl, put name H4 nmN inn (Same.refl _)⟩
    · rintro σ H1 ⟨xs, y4, y5, y6, y7, y8, rfl, B1, K1, h1, len, nd, nm⟩
      exact ⟨.ref p, rfl, q p xs H1 np h1 (by omega) nd nm (B1.more (by omega)) K1⟩
/-- len by a reading over K alone -/
abbrev rLen (K : PySem.W.Frag) : List V → Hp → VK → Prop := fun xs H Q => ∃ p ys, xs = [.ref p] ∧ (SqL K H p ys ∨ SqT K H p ys) ∧ Q (.int ys.length) H
/-! _law_some -/
abbrev sSome : Stmt := top 19
abbrev nSome : List Str := ["_law_box_here", "_law_values", "_law_left", "_law_k"]
theorem scSome : FnScope nSome ["_law_box_here", "_law_values"] (defScope sSome) := ⟨rfl, rfl, rfl, by decide +kernel, rfl, by decide +kernel, by decide +kernel⟩
/-- at least one of them, none more often than before -/
def spSome (K : PySem.W.Frag) : Sp := fun vs H Q _ => ∃ (b g m vp : Addr) (n : Nat) (xs : List Str), vs = [.ref b, .ref vp] ∧ Box H b g m n ∧ n ≤ 900000 ∧ SqL K H vp (xs.map V.str) ∧ 1 ≤ xs.length ∧ xs.length ≤ 100 ∧
  ∀ (p : Addr) (ys zs : List Str) (H' : Hp), H p = none → H' p = some (.lst (ys.map V.str)) → 1 ≤ ys.length → (ys ++ zs).Perm xs → Box H' b g m (n + 1 + xs.length) → Keep b g H H' → Q (.ref p) H'
theorem ok_some {f fT : Addr} {fd fdT : FuncData} {k : Nat} (F : Fun K "_law_some" "_law_some" sSome f fd) (FT : Fun K "_law_take" "_law_take" sTake fT fdT) (bT : Binds K fdT ["_law_box_here", "_law_size"] []) (gT : mg "_law_take" = some (.ref fT))
    (GT : FnOk P w K mg base CX0 k fT fdT ["_law_box_here", "_law_size"] spTake) (mr : mg "range" = none) (ml : mg "len" = none) (mls : mg "list" = none) : FnOk P w K mg base CX0 (k + 1) f fd ["_law_box_here", "_law_values"] (spSome K) := by
  refine F.ok scSome (fun vs H Q E h => ?_) (fun cdv A outer s H vs Q E hr h => ?_)
  · obtain ⟨b, g, m, vp, n, xs, rfl, _⟩ := h
    rfl
  · obtain ⟨b, g, m, vp, n, xs, rfl, B, hn, hv, x1, x2, q⟩ := h
    refine ⟨_, pss_cons (ps_set (i := 2) scSome.nd rfl (Or.inr rfl) (pe_callTy call_list_of (by rfl) mls (by decide +kernel) (pa_cons (pv 1) pa_nil)))
      (pss_one (ps_ret (pe_lc (own := [("_law_k", 3)]) (g := gName 3) (tt := tYes) (by rfl) scSome.nd
        (pi_range1 rfl mr (pa_cons (pe_op op_add pe_int (pe_call GT hr (by rfl) gT FT.kp bT .nil pass0 (pa_cons (pv 0) (pa_cons (pe_callB call_len_seq (by rfl) ml PySem.boot_len (pa_cons (pv 2) pa_nil)) pa_nil)))) pa_nil)) (blkOk_by (N := nSome) (sc := defScope sSome) (by decide +kernel))
        (fun _ _ _ _ _ => pg_name (i := 3) scSome.nd rfl (Or.inl rfl)) (fun _ _ _ _ _ => pts_nil)
        (fun _ _ _ _ _ => (show PE _ _ (tBM K "list" rPopAt _ _) from pe_bm PySem.F.plainAttrs_list PySem.F.slot_list_pop PySem.F.type_list_pop mt_popAt (pv 2) (pa_cons (pe_call GT hr (by rfl) gT FT.kp bT .nil pass0 (pa_cons (pv 0) (pa_cons
          (pe_callB (show CallR _ (.builtin "len") (rLen K) from call_len_seq) (by rfl) ml PySem.boot_len (pa_cons (pv 2) pa_nil)) pa_nil))) pa_nil)))))), ?_⟩
    refine ⟨.ref vp, rfl, vp, _, rfl, .inl hv, fun l nl => ?_⟩
    obtain ⟨lb, lg, lm⟩ := B.ne nl
    have s1 : Same H (upd H l (.lst (xs.map V.str))) := same_new nl
    have lx : (xs.map V.str).length = xs.length := List.length_map _
    refine ⟨.ref b, rfl, .ref l, rfl, l, _, rfl, .inl (SqL.of upd_same), b, g, m, n, _, rfl, B.same s1, by omega, by omega, by omega, fun v0 H1 a0 a1 B1 K1 => ?_⟩
    refine ⟨_, _, rfl, rfl, 1 + v0, rfl, by omega, by omega, fun D nD => ?_⟩
    obtain ⟨Db, Dg, Dm⟩ := B1.ne nD
    have hl1 : H1 l = some (.lst (xs.map V.str)) := K1 _ _ upd_same lb lg
    have Dl : D ≠ l := (ne_of_none hl1 nD).symm
    have K01 : Keep b g H H1 := (Same.keep s1).trans K1
    have fD : H D = none := K01.free Db Dg nD
    refine lc_range (lo := 0) (n := (1 + v0).toNat) (fun j H4 => Box H4 b g m (n + 1 + j) ∧ Keep b g H H4 ∧ ∃ ys zs : List Str, H4 D = some (.lst (ys.map V.str)) ∧ H4 l = some (.lst (zs.map V.str)) ∧ ys.length = j ∧ (ys ++ zs).Perm xs) ?_ ?_ ?_
    · refine ⟨B1.store Db Dg Dm, K01.trans (Same.keep (same_new nD)), [], xs, upd_same, ?_, rfl, List.Perm.refl _⟩
      rw [upd_ne Dl.symm]
      exact hl1
    · rintro j H4 hj ⟨B4, K4, ys, zs, hD, hl, ly, pm⟩
      have total := pm.length_eq
      rw [List.length_append] at total
      have lz : (zs.map V.str).length = zs.length := List.length_map _
      refine ⟨rfl, .ref l, rfl, .inl ⟨rfl, _, SqL.of hl⟩, .ref b, rfl, .ref l, rfl, l, _, rfl, .inl (SqL.of hl), b, g, m, _, _, rfl, B4, by omega, by omega, by omega, fun v H5 c0 c1 B5 K5 => ?_⟩
      have hl5 := K5 _ _ hl lb lg
      have hD5 := K5 _ _ hD Db Dg
      have hv : v.toNat < zs.length := by omega
      refine ⟨l, _, v, v.toNat, .str zs[v.toNat], rfl, rfl, hl5, by omega, by omega, seq_at c0 c1, ?_, ys.map V.str, ?_, ?_, ?_⟩
      · rw [List.getElem?_map, List.getElem?_eq_getElem hv]
        rfl
      · rw [upd_ne Dl]
        exact hD5
      · rw [List.length_map]
        exact small1000 (by omega)
      · refine ⟨((B5.store lb lg lm).store Db Dg Dm).more (by omega), fun d o e n1 n2 => ?_, ys ++ [zs[v.toNat]], zs.eraseIdx v.toNat, ?_, ?_, ?_, ?_⟩
        · rw [upd_ne (ne_of_none e fD), upd_ne (ne_of_none e nl)]
          exact K5 _ _ (K4 _ _ e n1 n2) n1 n2
        · rw [upd_same, List.map_append]
          rfl
        · rw [upd_ne Dl.symm, upd_same, erase_map]
        · rw [List.length_append, ly]
          rfl
        · refine List.Perm.trans ?_ pm
          rw [List.append_assoc]
          exact List.Perm.append_left ys (erase_perm zs v.toNat _ (List.getElem?_eq_getElem hv))
    · rintro H4 ⟨B4, K4, ys, zs, hD, hl, ly, pm⟩
      exact q D ys zs H4 fD hD (by omega) pm (B4.more (by omega)) K4
/-! _law_count -/
abbrev sCount : Stmt := top 20
abbrev nCount : List Str := ["_law_box_here", "_law_many"]
theorem scCount : FnScope nCount ["_law_box_here", "_law_many"] (defScope sCount) := ⟨rfl, rfl, rfl, by decide +kernel, rfl, by decide +kernel, by decide +kernel⟩
def spCount : Sp := fun vs H Q _ => ∃ (b g m : Addr) (n : Nat) (many : Int), vs = [.ref b, .int many] ∧ Box H b g m n ∧ n ≤ 900000 ∧ 1 ≤ many ∧ many ≤ 1000 ∧
  ∀ (c : Int) (H' : Hp), 1 ≤ c → c ≤ many → Box H' b g m (n + 2) → Keep b g H H' → Q (.int c) H'
theorem ok_count {f fT : Addr} {fd fdT : FuncData} {k : Nat} (F : Fun K "_law_count" "_law_count" sCount f fd) (FT : Fun K "_law_take" "_law_take" sTake fT fdT) (bT : Binds K fdT ["_law_box_here", "_law_size"] []) (gT : mg "_law_take" = some (.ref fT))
    (GT : FnOk P w K mg base CX0 k fT fdT ["_law_box_here", "_law_size"] spTake) (mn : mg "min" = none) : FnOk P w K mg base CX0 (k + 1) f fd ["_law_box_here", "_law_many"] spCount := by
  refine F.ok scCount (fun vs H Q E h => ?_) (fun cdv A outer s H vs Q E hr h => ?_)
  · obtain ⟨b, g, m, n, many, rfl, _⟩ := h
    rfl
  · obtain ⟨b, g, m, n, many, rfl, B, hn, m1, m2, q⟩ := h
    refine ⟨_, pss_one (ps_ret (pe_ix ix_list (pe_lst (pa_cons pe_int (pa_cons (pv 1) (pa_cons
        (pe_callB (call_min2 rfl) (by rfl) mn (by decide +kernel) (pa_cons (pv 1) (pa_cons (pe_op op_add (pe_op op_fdiv (pe_op op_mul pe_int (pv 1)) pe_int) pe_int) pa_nil)))
        (pa_cons (pe_op op_add pe_int (pe_call GT hr (by rfl) gT FT.kp bT .nil pass0 (pa_cons (pv 0) (pa_cons (pv 1) pa_nil)))) pa_nil)))))
      (pe_call GT hr (by rfl) gT FT.kp bT .nil pass0 (pa_cons (pv 0) (pa_cons pe_int pa_nil))) (fun _ _ => rfl))), ?_⟩
    refine ⟨_, rfl, _, rfl, _, rfl, _, _, rfl, rfl, .inl ⟨by decide, by decide⟩, _, _, rfl, rfl, ⟨by decide, by decide⟩, _, _, rfl, rfl, _, _, rfl, .ref b, rfl, .int many, rfl, b, g, m, n, many, rfl, B, by omega, m1, m2, fun v H1 v0 vs B1 K1 => ?_⟩
    refine ⟨_, _, rfl, rfl, by show 4 ≤ sizeLine; decide, fun l nl => ?_⟩
    obtain ⟨lb, lg, lm⟩ := B1.ne nl
    refine ⟨.ref b, rfl, b, g, m, _, 4, rfl, B1.same (same_new nl), by omega, by decide, by decide, fun v2 H2 a0 a1 B2 K2 => ?_⟩
    have hl := K2 _ _ upd_same lb lg
    have KK : Keep b g H H2 := (K1.trans (Same.keep (same_new nl))).trans K2
    have c : v2 = 0 ∨ v2 = 1 ∨ v2 = 2 ∨ v2 = 3 := by omega
    rcases c with rfl | rfl | rfl | rfl
    · exact ⟨l, _, 0, _, rfl, rfl, SqL.of hl, atI_nat (j := 0) rfl, q 1 H2 (by decide) m1 B2 KK⟩
    · exact ⟨l, _, 1, _, rfl, rfl, SqL.of hl, atI_nat (j := 1) rfl, q many H2 m1 (Int.le_refl _) B2 KK⟩
    · refine ⟨l, _, 2, _, rfl, rfl, SqL.of hl, atI_nat (j := 2) rfl, q _ H2 ?_ ?_ B2 KK⟩
      · split <;> omega
      · split <;> omega
    · exact ⟨l, _, 3, _, rfl, rfl, SqL.of hl, atI_nat (j := 3) rfl, q _ H2 (by omega) (by omega) B2 KK⟩
end
end Moot
namespace Moot
open PySem PySem.Spec PyProof.Rows L2
/-! requirements -/
/-- a part: a name, or a count of names -/
abbrev Part := Str ⊕ (Int × List Str)
def PartAt (H : Hp) (v : V) : Part → Prop
  | .inl x => v = .str x
  | .inr (c, ns) => ∃ q p, v = .ref q ∧ H q = some (.tup [.int c, .ref p]) ∧ H p = some (.tup (ns.map V.str))
inductive Parts (H : Hp) : List V → List Part → Prop
  | nil : Parts H [] []
  | cons {v : V} {vs : List V} {p : Part} {ps : List Part} : PartAt H v p → Parts H vs ps → Parts H (v :: vs) (p :: ps)
def ReqAt (H : Hp) (r : Addr) (c : Int) (ps : List Part) : Prop := ∃ p vs, H r = some (.tup [.int c, .ref p]) ∧ H p = some (.tup vs) ∧ Parts H vs ps
/-- tuples stay -/
def Tups (H H' : Hp) : Prop := ∀ a xs, H a = some (.tup xs) → H' a = some (.tup xs)
theorem Same.tups {H H' : Hp} (s : Same H H') : Tups H H' := fun a _ h => s a _ h
theorem Tups.refl (H : Hp) : Tups H H := fun _ _ h => h
theorem Tups.trans {H H1 H2 : Hp} (a : Tups H H1) (b : Tups H1 H2) : Tups H H2 := fun c xs h => b c xs (a c xs h)
theorem Keep.tups {H H' : Hp} {b g m : Addr} {n : Nat} (k : Keep b g H H') (B : Box H b g m n) : Tups H H' := fun a xs h => by
  obtain ⟨x, c, gs, ms, hb, hg, _⟩ := B.ex
  refine k a _ h (fun e => ?_) fun e => ?_
  · rw [e, hb] at h
    cases h
  · rw [e, hg] at h
    cases h
theorem tups_store {H : Hp} {p : Addr} {xs ys : List V} (h : H p = some (.lst xs)) : Tups H (upd H p (.lst ys)) := fun a zs e => by
  rw [upd_ne (fun c => by rw [c, h] at e; cases e)]
  exact e
theorem PartAt.tups {H H' : Hp} {v : V} {p : Part} (h : PartAt H v p) (t : Tups H H') : PartAt H' v p := by
  cases p with
  | inl x => exact h
  | inr y =>
    obtain ⟨c, ns⟩ := y
    obtain ⟨q, p, e, h1, h2⟩ := h
    exact ⟨q, p, e, t _ _ h1, t _ _ h2⟩
theorem Parts.tups {H H' : Hp} {vs : List V} {ps : List Part} (h : Parts H vs ps) (t : Tups H H') : Parts H' vs ps := by
  induction h with
  | nil => exact .nil
  | cons a _ ih => exact .cons (a.tups t) ih
theorem ReqAt.tups {H H' : Hp} {r : Addr} {c : Int} {ps : List Part} (h : ReqAt H r c ps) (t : Tups H H') : ReqAt H' r c ps := by
  obtain ⟨p, vs, h1, h2, h3⟩ := h
  exact ⟨p, vs, t _ _ h1, t _ _ h2, h3.tups t⟩
theorem Parts.length {H : Hp} {vs : List V} {ps : List Part} (h : Parts H vs ps) : vs.length = ps.length := by
  induction h with
  | nil => rfl
  | cons _ _ ih => rw [List.length_cons, List.length_cons, ih]
theorem Parts.at {H : Hp} {vs : List V} {ps : List Part} (h : Parts H vs ps) : ∀ {i : Nat} {v : V}, vs[i]? = some v → ∃ p, ps[i]? = some p ∧ PartAt H v p := by
  induction h with
  | nil => intro i v e; simp at e
  | cons a _ ih =>
    intro i v e
    cases i with
    | zero =>
      cases Option.some.inj e
      exact ⟨_, rfl, a⟩
    | succ i => exact ih (i := i) e
theorem Parts.names {H : Hp} : ∀ ns : List Str, Parts H (ns.map V.str) (ns.map Sum.inl)
  | [] => .nil
  | _ :: ns => .cons rfl (Parts.names ns)
/-- an inner requirement is one -/
theorem PartAt.req {H : Hp} {v : V} {c : Int} {ns : List Str} (h : PartAt H v (.inr (c, ns))) : ∃ q, v = .ref q ∧ ReqAt H q c (ns.map Sum.inl) := by
  obtain ⟨q, p, e, h1, h2⟩ := h
  exact ⟨q, e, p, _, h1, h2, Parts.names ns⟩
/-- the names as they are written -/
def namesOf : List Part → List Str
  | [] => []
  | .inl x :: r => x :: namesOf r
  | .inr (_, ns) :: r => ns ++ namesOf r
theorem namesOf_append : ∀ a b : List Part, namesOf (a ++ b) = namesOf a ++ namesOf b
  | [], _ => rfl
  | .inl x :: a, b => by
    show x :: namesOf (a ++ b) = x :: (namesOf a ++ namesOf b)
    rw [namesOf_append a b]
  | .inr (c, ns) :: a, b => by
    show ns ++ namesOf (a ++ b) = (ns ++ namesOf a) ++ namesOf b
    rw [namesOf_append a b, List.append_assoc]
theorem namesOf_names : ∀ ns : List Str, namesOf (ns.map Sum.inl) = ns
  | [] => rfl
  | x :: ns => by
    show x :: namesOf (ns.map Sum.inl) = x :: ns
    rw [namesOf_names ns]
theorem namesOf_take {ps : List Part} {i : Nat} {p : Part} (h : ps[i]? = some p) : namesOf (ps.take (i + 1)) = namesOf (ps.take i) ++ namesOf [p] := by
  rw [List.take_add_one, h, namesOf_append]
  rfl
theorem namesOf_le (ps : List Part) (i : Nat) : (namesOf (ps.take i)).length ≤ (namesOf ps).length := by
  have e := namesOf_append (ps.take i) (ps.drop i)
  rw [List.take_append_drop] at e
  rw [e, List.length_append]
  omega
/-- which sets satisfy -/
def satP (S : List Str) : Part → Bool
  | .inl x => decide (x ∈ S)
  | .inr (c, ns) => decide (c ≤ ((ns.countP fun x => decide (x ∈ S) : Nat) : Int))
def sat (S : List Str) (c : Int) (ps : List Part) : Bool := decide (c ≤ ((ps.countP (satP S) : Nat) : Int))
theorem sat_names (S : List Str) (c : Int) (ns : List Str) : sat S c (ns.map Sum.inl) = satP S (.inr (c, ns)) := by
  unfold sat
  rw [List.countP_map]
  rfl
/-- only the members count -/
theorem satP_same {S S' : List Str} {p : Part} (h : ∀ x ∈ namesOf [p], x ∈ S ↔ x ∈ S') : satP S p = satP S' p := by
  cases p with
  | inl x =>
    have := h x (List.mem_cons_self)
    show decide _ = decide _
    rw [decide_eq_decide]
    exact this
  | inr y =>
    obtain ⟨c, ns⟩ := y
    have e : ns.countP (fun x => decide (x ∈ S)) = ns.countP (fun x => decide (x ∈ S')) := by
      refine List.countP_congr fun x m => ?_
      rw [decide_eq_true_eq, decide_eq_true_eq]
      exact h x (by show x ∈ ns ++ []; rw [List.append_nil]; exact m)
    show decide _ = decide _
    rw [e]
theorem sat_same {S S' : List Str} {c : Int} {ps : List Part} (h : ∀ x ∈ namesOf ps, x ∈ S ↔ x ∈ S') : sat S c ps = sat S' c ps := by
  have e : ps.countP (satP S) = ps.countP (satP S') := by
    refine List.countP_congr fun p m => ?_
    have : satP S p = satP S' p := satP_same fun x mx => h x (by
      obtain ⟨a, b, rfl⟩ := List.append_of_mem m
      rw [namesOf_append, show p :: b = [p] ++ b from rfl, namesOf_append]
      exact List.mem_append_right _ (List.mem_append_left _ mx))
    rw [this]
  unfold sat
  rw [e]
/-- isinstance(part, str) -/
theorem isi_part {K : PySem.W.Frag} {H : Hp} {v : V} {p : Part} (h : PartAt H v p) : ∃ t : Value, TyX K H v t ∧ PySem.W.kitOne K t (.type "str") = some p.isLeft := by
  cases p with
  | inl x =>
    cases h
    exact ⟨.type "str", .base (.str x), kit_ty (r := true) (by decide +kernel)⟩
  | inr y =>
    obtain ⟨c, ns⟩ := y
    obtain ⟨a, p, rfl, h1, h2⟩ := h
    exact ⟨.type "tuple", .base (.tup h1), kit_ty (r := false) (by decide +kernel)⟩
section
variable {P : Program} {w : World} {K : PySem.W.Frag} {mg : Str → Option Value} {base : Heap}
/-! node_set -/
abbrev sNs : Stmt := top 1
theorem scNs : FnScope ["names"] ["names"] (defScope sNs) := ⟨rfl, rfl, rfl, by decide +kernel, rfl, by decide +kernel, by decide +kernel⟩
def spNs (K : PySem.W.Frag) : Sp := fun vs H Q _ => ∃ (l : Addr) (zs : List Str), vs = [.ref l] ∧ SqL K H l (zs.map V.str) ∧ zs.length < 64 ∧
  ∀ (p : Addr) (ys : List Str) (H' : Hp), Same H H' → H p = none → H' p = some (.tup (ys.map V.str)) → sortedS ys = true → ys.Nodup → (∀ x, x ∈ ys ↔ x ∈ zs) → Q (.ref p) H'
theorem ok_ns {f : Addr} {fd : FuncData} {k : Nat} (F : Fun K "node_set" "node_set" sNs f fd) (mt : mg "tuple" = none) (mso : mg "sorted" = none) (mse : mg "set" = none) : FnOk P w K mg base CX0 (k + 1) f fd ["names"] (spNs K) := by
  refine F.ok scNs (fun vs H Q E h => ?_) (fun cdv A outer s H vs Q E hr h => ?_)
  · obtain ⟨l, zs, rfl, _⟩ := h
    rfl
  · obtain ⟨l, zs, rfl, hl, few, q⟩ := h
    refine ⟨_, pss_one (ps_ret (pe_callTy call_tuple_of (by rfl) mt (by decide +kernel) (pa_cons (pe_callB (cr_txtSorted rfl) (by rfl) mso (by decide +kernel)
      (pa_cons (pe_callTy (cr_txtSet rfl) (by rfl) mse (by decide +kernel) (pa_cons (pv 0) pa_nil)) pa_nil)) pa_nil))), ?_⟩
    refine ⟨.ref l, rfl, l, zs, rfl, hl, few, fun a m na hm => ?_⟩
    refine ⟨a, _, m, rfl, upd_same, by omega, fun ys p srt nd mem len np => ?_⟩
    refine ⟨p, _, rfl, .inl ⟨SqL.of upd_same, fun t nt => ?_⟩⟩
    have s1 := same_new (o := TxtSet P w a (fun k => decide (k ∈ zs)) m) na
    have s2 := same_new (o := .lst (ys.map V.str)) np
    have s3 := same_new (o := .tup (ys.map V.str)) nt
    exact q t ys _ ((s1.trans s2).trans s3) ((s1.trans s2).free nt) upd_same srt nd fun x => (mem x).trans (by simp)
end
end Moot
namespace Moot
open PySem PySem.Spec PyProof.Rows L2
/-- a set of names, as a list or a tuple -/
def NodesAt (K : PySem.W.Frag) (H : Hp) (p : Addr) (S : List Str) : Prop := SqL K H p (S.map V.str) ∨ SqT K H p (S.map V.str)
theorem Same.seqT {K : PySem.W.Frag} {H H' : Hp} {a : Addr} {xs : List V} (e : Same H H') (h : SqT K H a xs) : SqT K H' a xs := by
  rcases h with (h | ⟨o, h⟩) | h
  · exact .inl (.inl (e _ _ h))
  · exact .inl (.inr ⟨o, e _ _ h⟩)
  · exact .inr h
theorem NodesAt.same {K : PySem.W.Frag} {H H' : Hp} {p : Addr} {S : List Str} (h : NodesAt K H p S) (s : Same H H') : NodesAt K H' p S := h.imp (Same.seq s) (Same.seqT s)
/-- what the built-in names are -/
structure Blt (mg : Str → Option Value) : Prop where
  isi : mg "isinstance" = none
  str : mg "str" = none
  len : mg "len" = none
  tup : mg "tuple" = none
  lst : mg "list" = none
  srt : mg "sorted" = none
  set : mg "set" = none
  rng : mg "range" = none
  int : mg "int" = none
  bool : mg "bool" = none
  sum : mg "sum" = none
  min : mg "min" = none
  max : mg "max" = none
section
variable {P : Program} {w : World} {K : PySem.W.Frag} {mg : Str → Option Value} {base : Heap}
theorem fn_none {CX : CXT} {f : Addr} {fd : FuncData} {ps : List Str} {sp : Sp} (k : Nat) (h : ∀ vs H Q E, ¬ sp vs H Q E) : FnOk P w K mg base CX k f fd ps sp :=
  ⟨fun vs H Q E y => absurd y (h vs H Q E), fun _ _ _ H _ _ vs Q E _ _ _ _ y => absurd y (h vs H Q E)⟩
/-! names_with_repetition -/
abbrev sNwr : Stmt := top 7
abbrev nNwr : List Str := ["requirement", "names", "part"]
theorem scNwr : FnScope nNwr ["requirement"] (defScope sNwr) := ⟨rfl, rfl, rfl, by decide +kernel, rfl, by decide +kernel, by decide +kernel⟩
def spNwr (D : List Part → Prop) : Sp := fun vs H Q _ => ∃ (r : Addr) (c : Int) (ps : List Part), vs = [.ref r] ∧ ReqAt H r c ps ∧ D ps ∧ (namesOf ps).length ≤ 1000 ∧
  ∀ (p : Addr) (H' : Hp), Same H H' → H p = none → H' p = some (.lst ((namesOf ps).map V.str)) → Q (.ref p) H'
theorem ok_nwr {D0 D : List Part → Prop} {f : Addr} {fd : FuncData} {k : Nat} (F : Fun K "names_with_repetition" "names_with_repetition" sNwr f fd) (bN : Binds K fd ["requirement"] []) (gN : mg "names_with_repetition" = some (.ref f)) (T : Blt mg)
    (G : FnOk P w K mg base CX0 k f fd ["requirement"] (spNwr D0)) (imp : ∀ ps, D ps → ∀ c ns, Sum.inr (c, ns) ∈ ps → D0 (ns.map Sum.inl)) : FnOk P w K mg base CX0 (k + 1) f fd ["requirement"] (spNwr D) := by
  refine F.ok scNwr (fun vs H Q E h => ?_) (fun cdv A outer s H vs Q E hr h => ?_)
  · obtain ⟨r, c, ps, rfl, _⟩ := h
    rfl
  · obtain ⟨r, c, ps, rfl, R, hD, few, q⟩ := h
    refine ⟨_, pss_cons (ps_set (i := 1) scNwr.nd rfl (Or.inl rfl) (pe_lst pa_nil))
      (pss_cons (ps_for PassesOwn.never rfl (pi_tup (pe_ix ix_tup (pv 0) pe_int (fun _ _ => rfl))) (pg_name (i := 2) scNwr.nd rfl (Or.inl rfl))
        (pss_one (ps_if (pt_val (pe_callB call_isi (by rfl) T.isi (by decide +kernel) (pa_cons (pv 2) (pa_cons (pe_bltn (v := .ty "str") (by rfl) T.str (by decide +kernel) rfl) pa_nil))))
          (pss_one (ps_expr (pe_bm PySem.F.plainAttrs_list PySem.F.slot_list_append PySem.F.type_list_append mt_append (pv 1) (pa_cons (pv 2) pa_nil))))
          (pss_one (ps_expr (pe_bm PySem.F.plainAttrs_list PySem.F.slot_list_extend PySem.F.type_list_extend mt_extend (pv 1) (pa_cons (pe_call G hr (by rfl) gN F.kp bN .nil pass0 (pa_cons (pv 2) pa_nil)) pa_nil)))))))
      (pss_one (ps_ret (pv 1)))), ?_⟩
    obtain ⟨pp, vs, hr1, hp1, PS⟩ := R
    refine ⟨Nat.zero_le _, fun l nl => ?_⟩
    have s1 : Same H (upd H l (.lst [])) := same_new nl
    refine ⟨.ref r, rfl, r, _, 1, .ref pp, rfl, rfl, SqT.of (s1 _ _ hr1), atI_nat (j := 1) rfl, pp, rfl, ⟨_, SqT.of (s1 _ _ hp1)⟩, for_tup (K := K) (a := pp) (xs := vs) (fun i σ H1 => ∃ y2 : Option V, σ = [some (.ref r), some (.ref l), y2] ∧
      Same H H1 ∧ H1 l = some (.lst ((namesOf (ps.take i)).map V.str))) ⟨none, rfl, s1, upd_same⟩ (fun i σ H1 _ ⟨_, _, s2, _⟩ => SqT.of (s2 _ _ hp1)) ?_ ?_⟩
    · rintro i x σ H1 hx ⟨y2, rfl, s2, h1⟩
      obtain ⟨p, hp, pa⟩ := PS.at hx
      have pa1 := pa.tups (Same.tups s2)
      have e := namesOf_take hp
      have le := namesOf_le ps (i + 1)
      have le0 := namesOf_le ps i
      obtain ⟨ty, ty1, ty2⟩ := isi_part (K := K) pa1
      refine ⟨x, rfl, _, _, ty, .type "str", _, rfl, .ty _, ty1, ty2, _, rfl, ?_⟩
      cases p with
      | inl z =>
        cases pa
        refine iteT ⟨.ref l, rfl, .inl ⟨rfl, _, SqL.of h1⟩, .str z, rfl, l, _, _, rfl, rfl, h1, ?_, _, rfl, fun d o c => ?_, ?_⟩
        · rw [List.length_map]
          exact small1000 (by omega)
        · rw [upd_ne (ne_of_none c nl)]
          exact s2 d o c
        · rw [upd_same, e, List.map_append]
          rfl
      | inr y =>
        obtain ⟨c', ns⟩ := y
        obtain ⟨q', rfl, R'⟩ := pa1.req
        have mem : Sum.inr (c', ns) ∈ ps := List.mem_of_getElem? hp
        have en : namesOf (ns.map Sum.inl) = ns := namesOf_names ns
        have e1 : namesOf [(Sum.inr (c', ns) : Part)] = ns := List.append_nil ns
        rw [e1] at e
        have lens := congrArg List.length e
        rw [List.length_append] at lens
        refine iteF ⟨.ref l, rfl, .inl ⟨rfl, _, SqL.of h1⟩, .ref q', rfl, q', c', ns.map Sum.inl, rfl, R', imp ps hD c' ns mem, by rw [en]; omega, fun p2 H2 s3 np2 h2 => ?_⟩
        rw [en] at h2
        refine ⟨l, p2, _, _, rfl, rfl, s3 _ _ h1, h2, ?_, _, rfl, fun d o c => ?_, ?_⟩
        · rw [List.length_map, List.length_map]
          exact Nat.le_of_lt (small1000 (by omega))
        · rw [upd_ne (ne_of_none c nl)]
          exact s3 _ _ (s2 d o c)
        · rw [upd_same, e, List.map_append]
    · rintro σ H1 ⟨y2, rfl, s2, h1⟩
      rw [PS.length, List.take_length] at h1
      exact ⟨.ref l, rfl, q l H1 s2 nl h1⟩
/-! names_in -/
abbrev sNin : Stmt := top 8
theorem scNin : FnScope ["requirement"] ["requirement"] (defScope sNin) := ⟨rfl, rfl, rfl, by decide +kernel, rfl, by decide +kernel, by decide +kernel⟩
def spNin : Sp := fun vs H Q _ => ∃ (r : Addr) (c : Int) (ps : List Part), vs = [.ref r] ∧ ReqAt H r c ps ∧ (namesOf ps).length < 64 ∧
  ∀ (p : Addr) (ys : List Str) (H' : Hp), Same H H' → H p = none → H' p = some (.tup (ys.map V.str)) → sortedS ys = true → ys.Nodup → (∀ x, x ∈ ys ↔ x ∈ namesOf ps) → Q (.ref p) H'
theorem ok_nin {f fN fW : Addr} {fd fdN fdW : FuncData} {k : Nat} (F : Fun K "names_in" "names_in" sNin f fd) (FN : Fun K "node_set" "node_set" sNs fN fdN) (bN : Binds K fdN ["names"] []) (gN : mg "node_set" = some (.ref fN))
    (FW : Fun K "names_with_repetition" "names_with_repetition" sNwr fW fdW) (bW : Binds K fdW ["requirement"] []) (gW : mg "names_with_repetition" = some (.ref fW)) (GN : FnOk P w K mg base CX0 k fN fdN ["names"] (spNs K)) (GW : FnOk P w K mg base CX0 k fW fdW ["requirement"] (spNwr fun _ => True)) :
    FnOk P w K mg base CX0 (k + 1) f fd ["requirement"] spNin := by
  refine F.ok scNin (fun vs H Q E h => ?_) (fun cdv A outer s H vs Q E hr h => ?_)
  · obtain ⟨r, c, ps, rfl, _⟩ := h
    rfl
  · obtain ⟨r, c, ps, rfl, R, few, q⟩ := h
    refine ⟨_, pss_one (ps_ret (pe_call GN hr (by rfl) gN FN.kp bN .nil pass0 (pa_cons (pe_call GW hr (by rfl) gW FW.kp bW .nil pass0 (pa_cons (pv 0) pa_nil)) pa_nil))), ?_⟩
    refine ⟨.ref r, rfl, r, c, ps, rfl, R, trivial, by omega, fun l H1 s1 nl h1 => ?_⟩
    exact ⟨l, _, rfl, SqL.of h1, few, fun p ys H2 s2 np h2 a1 a2 a3 => q p ys H2 (s1.trans s2) (s1.free np) h2 a1 a2 a3⟩
/-! satisfies_part -/
abbrev sSp : Stmt := top 9
theorem scSp : FnScope ["part", "nodes"] ["part", "nodes"] (defScope sSp) := ⟨rfl, rfl, rfl, by decide +kernel, rfl, by decide +kernel, by decide +kernel⟩
def spSp (K : PySem.W.Frag) (D : Part → Prop) : Sp := fun vs H Q _ => ∃ (v : V) (p : Part) (np : Addr) (S : List Str), vs = [v, .ref np] ∧ PartAt H v p ∧ D p ∧ NodesAt K H np S ∧ ∀ H', Same H H' → Q (.bl (satP S p)) H'
def spSat (K : PySem.W.Frag) (D : List Part → Prop) : Sp := fun vs H Q _ => ∃ (r : Addr) (c : Int) (ps : List Part) (np : Addr) (S : List Str), vs = [.ref r, .ref np] ∧ ReqAt H r c ps ∧ D ps ∧ ps.length ≤ 1000 ∧ NodesAt K H np S ∧ ∀ H', Same H H' → Q (.bl (sat S c ps)) H'
abbrev sSat : Stmt := top 10
theorem ok_sp {D0 : List Part → Prop} {D : Part → Prop} {f fS : Addr} {fd fdS : FuncData} {k : Nat} (F : Fun K "satisfies_part" "satisfies_part" sSp f fd) (FS : Fun K "satisfies" "satisfies" sSat fS fdS) (bS : Binds K fdS ["requirement", "nodes"] []) (gS : mg "satisfies" = some (.ref fS)) (T : Blt mg)
    (G : FnOk P w K mg base CX0 k fS fdS ["requirement", "nodes"] (spSat K D0)) (imp : ∀ c ns, D (.inr (c, ns)) → D0 (ns.map Sum.inl) ∧ ns.length ≤ 1000) : FnOk P w K mg base CX0 (k + 1) f fd ["part", "nodes"] (spSp K D) := by
  refine F.ok scSp (fun vs H Q E h => ?_) (fun cdv A outer s H vs Q E hr h => ?_)
  · obtain ⟨v, p, np, S, rfl, _⟩ := h
    rfl
  · obtain ⟨v, p, np, S, rfl, pa, hD, N, q⟩ := h
    refine ⟨_, pss_cons (ps_if (pt_val (pe_callB call_isi (by rfl) T.isi (by decide +kernel) (pa_cons (pv 0) (pa_cons (pe_bltn (v := .ty "str") (by rfl) T.str (by decide +kernel) rfl) pa_nil))))
        (pss_one (ps_ret (pe_cmpR op_in_seq (pv 0) (pv 1) (by rfl)))) pss_nil)
      (pss_one (ps_ret (pe_call G hr (by rfl) gS FS.kp bS .nil pass0 (pa_cons (pv 0) (pa_cons (pv 1) pa_nil))))), ?_⟩
    obtain ⟨ty, ty1, ty2⟩ := isi_part (K := K) pa
    refine ⟨v, rfl, _, _, ty, .type "str", _, rfl, .ty _, ty1, ty2, _, rfl, ?_⟩
    cases p with
    | inl z =>
      cases pa
      refine iteT ⟨.str z, rfl, .ref np, rfl, np, _, rfl, N, rfl, flats S, ?_⟩
      have e : inV (.str z) (S.map V.str) = satP S (.inl z) := inV_str z S
      rw [if_neg Bool.false_ne_true, e]
      exact q H (Same.refl H)
    | inr y =>
      obtain ⟨c, ns⟩ := y
      obtain ⟨r, rfl, R⟩ := pa.req
      obtain ⟨i1, i2⟩ := imp c ns hD
      refine iteF ⟨.ref r, rfl, .ref np, rfl, r, c, _, np, S, rfl, R, i1, by rw [List.length_map]; exact i2, N, fun H' s' => ?_⟩
      rw [sat_names]
      exact q H' s'
/-! satisfies -/
abbrev nSat : List Str := ["requirement", "nodes", "count", "parts", "satisfied", "part"]
theorem scSat : FnScope nSat ["requirement", "nodes"] (defScope sSat) := ⟨rfl, rfl, rfl, by decide +kernel, rfl, by decide +kernel, by decide +kernel⟩
theorem ok_sat {D0 : Part → Prop} {D : List Part → Prop} {f fP : Addr} {fd fdP : FuncData} {k : Nat} (F : Fun K "satisfies" "satisfies" sSat f fd) (FP : Fun K "satisfies_part" "satisfies_part" sSp fP fdP) (bP : Binds K fdP ["part", "nodes"] []) (gP : mg "satisfies_part" = some (.ref fP)) (T : Blt mg)
    (G : FnOk P w K mg base CX0 k fP fdP ["part", "nodes"] (spSp K D0)) (imp : ∀ ps, D ps → ∀ p ∈ ps, D0 p) : FnOk P w K mg base CX0 (k + 1) f fd ["requirement", "nodes"] (spSat K D) := by
  refine F.ok scSat (fun vs H Q E h => ?_) (fun cdv A outer s H vs Q E hr h => ?_)
  · obtain ⟨r, c, ps, np, S, rfl, _⟩ := h
    rfl
  · obtain ⟨r, c, ps, np, S, rfl, R, hD, few, N, q⟩ := h
    refine ⟨_, pss_cons (ps_asg (pv 0) (pg_tup (by rfl) (pgs_cons (pg_name (i := 2) scSat.nd rfl (Or.inl rfl)) (pgs_cons (pg_name (i := 3) scSat.nd rfl (Or.inl rfl)) pgs_nil))))
      (pss_cons (ps_setLc (i := 4) (own := [("part", 5)]) (g := gName 5) (by rfl) scSat.nd rfl rfl (sw_true rfl rfl rfl (by decide +kernel)) (pi_tup (pv 3)) (blkOk_by (N := nSat) (sc := defScope sSat) (by decide +kernel))
        (fun _ _ _ _ _ => pg_name (i := 5) scSat.nd rfl (Or.inl rfl)) (fun _ _ _ _ _ => pts_one (pt_val (pe_call G hr (by rfl) gP FP.kp bP .nil pass0 (pa_cons (pv 5) (pa_cons (pv 1) pa_nil))))) (fun _ _ _ _ _ => pv 5))
      (pss_one (ps_ret (pe_cmpR op_ge (pe_callB call_len_seq (by rfl) T.len PySem.boot_len (pa_cons (pv 4) pa_nil)) (pv 2) (nomark _))))), ?_⟩
    obtain ⟨pp, vs, hr1, hp1, PS⟩ := R
    refine ⟨.ref r, rfl, r, _, rfl, SqT.of hr1, rfl, _, _, rfl, _, _, rfl, rfl, ?_⟩
    refine ⟨.ref pp, rfl, pp, rfl, ⟨_, SqT.of hp1⟩, fun l nl => lc_tup (K := K) (a := pp) (xs := vs) (fun i H1 => Same H H1 ∧ ∃ us : List V, H1 l = some (.lst us) ∧ us.length = (ps.take i).countP (satP S)) ?_ (fun i H1 _ h => SqT.of (h.1 _ _ hp1)) ?_ ?_⟩
    · exact ⟨same_new nl, [], upd_same, rfl⟩
    · rintro i x H1 hx ⟨s1, us, h1, hl⟩
      obtain ⟨p, hp, pa⟩ := PS.at hx
      have tk : (ps.take (i + 1)).countP (satP S) = (ps.take i).countP (satP S) + (if satP S p = true then 1 else 0) := by
        rw [List.take_add_one, hp, List.countP_append]
        show _ + List.countP (satP S) [p] = _
        rw [List.countP_singleton]
      have le : (ps.take i).countP (satP S) ≤ 1000 := by
        refine Nat.le_trans List.countP_le_length ?_
        rw [List.length_take]
        omega
      refine ⟨rfl, x, rfl, .ref np, rfl, x, p, np, S, rfl, pa.tups (Same.tups s1), imp ps hD p (List.mem_of_getElem? hp), N.same s1, fun H2 s2 => ⟨_, rfl, ?_⟩⟩
      cases c' : satP S p with
      | true =>
        rw [c', if_pos rfl] at tk
        refine iteT ⟨x, rfl, us, s2 _ _ h1, small1000 (by omega), fun d o e => ?_, us ++ [x], upd_same, ?_⟩
        · rw [upd_ne (ne_of_none e nl)]
          exact s2 _ _ (s1 d o e)
        · rw [List.length_append, hl, tk]
          rfl
      | false =>
        rw [c', if_neg Bool.false_ne_true] at tk
        exact iteF ⟨s1.trans s2, us, s2 _ _ h1, by rw [hl, tk]; rfl⟩
    · rintro H1 ⟨s1, us, h1, hl⟩
      rw [PS.length, List.take_length] at hl
      refine ⟨.ref l, rfl, l, us, rfl, .inl (SqL.of h1), .int c, rfl, _, _, rfl, rfl, ?_⟩
      rw [hl]
      exact q H1 s1
end
end Moot
namespace Moot
open PySem PySem.Spec PyProof.Rows L2
/-- the names that are left -/
def outs (S : List Str) (ps : List Part) : List Str := (namesOf ps).filter fun x => decide (x ∉ S)
def blk (S : List Str) (c : Int) (ps : List Part) : Bool := !sat (outs S ps) c ps
theorem sat_outs {S zs : List Str} {c : Int} {ps : List Part} (h : ∀ x, x ∈ zs ↔ x ∈ namesOf ps) : sat (zs.filter fun x => decide (x ∉ S)) c ps = sat (outs S ps) c ps := by
  refine sat_same fun x _ => ?_
  unfold outs
  rw [List.mem_filter, List.mem_filter, h x]
/-- every inner one is short -/
def Short (ps : List Part) : Prop := ∀ c ns, Sum.inr (c, ns) ∈ ps → ns.length ≤ 1000
def ShortP (p : Part) : Prop := ∀ c ns, p = .inr (c, ns) → ns.length ≤ 1000
theorem Short.p {ps : List Part} (h : Short ps) : ∀ p ∈ ps, ShortP p := fun p m c ns e => h c ns (e ▸ m)
def AllNames (ps : List Part) : Prop := ∀ p ∈ ps, p.isLeft = true
theorem allNames (ns : List Str) : AllNames (ns.map Sum.inl) := fun p m => by
  obtain ⟨x, _, rfl⟩ := List.mem_map.mp m
  rfl
theorem nodup_le : ∀ {l D : List Str}, l.Nodup → (∀ y ∈ l, y ∈ D) → l.length ≤ D.length
  | [], _, _, _ => Nat.zero_le _
  | y :: l, D, n, s => by
    obtain ⟨n1, n2⟩ := List.nodup_cons.mp n
    have my := s y List.mem_cons_self
    have := nodup_le (D := D.erase y) n2 fun z mz => (List.mem_erase_of_ne fun (e : z = y) => n1 (e ▸ mz)).mpr (s z (List.mem_cons_of_mem _ mz))
    have e := List.length_erase_of_mem my
    have := List.length_pos_of_mem my
    rw [List.length_cons]
    omega
section
variable {P : Program} {w : World} {K : PySem.W.Frag} {mg : Str → Option Value} {base : Heap}
/-- satisfies, for all requirements -/
theorem ok_sat_all {f fP : Addr} {fd fdP : FuncData} (F : Fun K "satisfies" "satisfies" sSat f fd) (b : Binds K fd ["requirement", "nodes"] []) (g : mg "satisfies" = some (.ref f)) (FP : Fun K "satisfies_part" "satisfies_part" sSp fP fdP) (bP : Binds K fdP ["part", "nodes"] []) (gP : mg "satisfies_part" = some (.ref fP)) (T : Blt mg) :
    FnOk P w K mg base CX0 4 f fd ["requirement", "nodes"] (spSat K Short) := by
  have g0 : FnOk P w K mg base CX0 0 f fd ["requirement", "nodes"] (spSat K fun _ => False) := fn_none 0 fun vs H Q E ⟨r, c, ps, np, S, _, _, h, _⟩ => h
  have g1 : FnOk P w K mg base CX0 1 fP fdP ["part", "nodes"] (spSp K fun p => p.isLeft = true) := ok_sp FP F b g T g0 fun c ns h => by cases h
  have g2 : FnOk P w K mg base CX0 2 f fd ["requirement", "nodes"] (spSat K AllNames) := ok_sat F FP bP gP T g1 fun ps h => h
  have g3 : FnOk P w K mg base CX0 3 fP fdP ["part", "nodes"] (spSp K ShortP) := ok_sp FP F b g T g2 fun c ns h => ⟨allNames ns, h c ns rfl⟩
  exact ok_sat F FP bP gP T g3 fun ps h => h.p
/-- names_with_repetition, for all -/
theorem ok_nwr_all {f : Addr} {fd : FuncData} (F : Fun K "names_with_repetition" "names_with_repetition" sNwr f fd) (b : Binds K fd ["requirement"] []) (g : mg "names_with_repetition" = some (.ref f)) (T : Blt mg) : FnOk P w K mg base CX0 2 f fd ["requirement"] (spNwr fun _ => True) := by
  have g0 : FnOk P w K mg base CX0 0 f fd ["requirement"] (spNwr fun _ => False) := fn_none 0 fun vs H Q E ⟨r, c, ps, _, _, h, _⟩ => h
  have g1 : FnOk P w K mg base CX0 1 f fd ["requirement"] (spNwr AllNames) := ok_nwr F b g T g0 fun ps h c ns m => by
    have := h _ m
    cases this
  exact ok_nwr F b g T g1 fun ps _ c ns m => allNames ns
/-! blocks -/
abbrev sBlk : Stmt := top 11
abbrev nBlk : List Str := ["requirement", "nodes", "outside", "name"]
theorem scBlk : FnScope nBlk ["requirement", "nodes"] (defScope sBlk) := ⟨rfl, rfl, rfl, by decide +kernel, rfl, by decide +kernel, by decide +kernel⟩
def spBlk (K : PySem.W.Frag) : Sp := fun vs H Q _ => ∃ (r : Addr) (c : Int) (ps : List Part) (np : Addr) (S : List Str), vs = [.ref r, .ref np] ∧ ReqAt H r c ps ∧ Short ps ∧ ps.length ≤ 1000 ∧ (namesOf ps).length < 64 ∧ NodesAt K H np S ∧ ∀ H', Same H H' → Q (.bl (blk S c ps)) H'
theorem ok_blk {f fN fS : Addr} {fd fdN fdS : FuncData} {k : Nat} (F : Fun K "blocks" "blocks" sBlk f fd) (FN : Fun K "names_in" "names_in" sNin fN fdN) (bN : Binds K fdN ["requirement"] []) (gN : mg "names_in" = some (.ref fN)) (FS : Fun K "satisfies" "satisfies" sSat fS fdS) (bS : Binds K fdS ["requirement", "nodes"] []) (gS : mg "satisfies" = some (.ref fS))
    (GN : FnOk P w K mg base CX0 k fN fdN ["requirement"] spNin) (GS : FnOk P w K mg base CX0 k fS fdS ["requirement", "nodes"] (spSat K Short)) : FnOk P w K mg base CX0 (k + 1) f fd ["requirement", "nodes"] (spBlk K) := by
  refine F.ok scBlk (fun vs H Q E h => ?_) (fun cdv A outer s H vs Q E hr h => ?_)
  · obtain ⟨r, c, ps, np, S, rfl, _⟩ := h
    rfl
  · obtain ⟨r, c, ps, np, S, rfl, R, sh, few, fewN, N, q⟩ := h
    refine ⟨_, pss_cons (ps_setLc (i := 2) (own := [("name", 3)]) (g := gName 3) (by rfl) scBlk.nd rfl rfl (sw_true rfl rfl rfl (by decide +kernel)) (pi_tup (pe_call GN hr (by rfl) gN FN.kp bN .nil pass0 (pa_cons (pv 0) pa_nil))) (blkOk_by (N := nBlk) (sc := defScope sBlk) (by decide +kernel))
        (fun _ _ _ _ _ => pg_name (i := 3) scBlk.nd rfl (Or.inl rfl)) (fun _ _ _ _ _ => pts_one (pt_cmpR (show OpR _ (compareOp .NotIn) (rIn K true) from op_notIn_seq) (pv 3) (pv 1) (by rfl))) (fun _ _ _ _ _ => pv 3))
      (pss_one (ps_ret (pe_not (pe_call GS hr (by rfl) gS FS.kp bS .nil pass0 (pa_cons (pv 0) (pa_cons (pv 2) pa_nil)))))), ?_⟩
    refine ⟨.ref r, rfl, r, c, ps, rfl, R, fewN, fun t ys H1 s1 nt h1 srt nd mem => ?_⟩
    have few1 : ys.length ≤ 1000 := by
      have := nodup_le nd fun x m => (mem x).mp m
      omega
    refine ⟨t, rfl, ⟨_, SqT.of h1⟩, fun l nl => lc_tup (K := K) (a := t) (xs := ys.map V.str) (fun i H2 => Same H1 H2 ∧ H2 l = some (.lst (((ys.take i).filter fun x => decide (x ∉ S)).map V.str))) ?_ (fun i H2 _ h => SqT.of (h.1 _ _ h1)) ?_ ?_⟩
    · exact ⟨same_new nl, upd_same⟩
    · rintro i x H2 hx ⟨s2, h2⟩
      rw [List.getElem?_map] at hx
      obtain ⟨z, hz, rfl⟩ := Option.map_eq_some_iff.mp hx
      have tk : (ys.take (i + 1)).filter (fun x => decide (x ∉ S)) = (ys.take i).filter (fun x => decide (x ∉ S)) ++ [z].filter (fun x => decide (x ∉ S)) := by
        rw [List.take_add_one, hz, List.filter_append]
        rfl
      refine ⟨rfl, .str z, rfl, .ref np, rfl, np, _, rfl, (N.same s1).same s2, rfl, flats S, _, rfl, ?_⟩
      rw [inV_str]
      by_cases isIn : z ∈ S
      · rw [decide_eq_true isIn]
        refine iteF ⟨s2, ?_⟩
        rw [h2, tk]
        simp [isIn]
      · rw [decide_eq_false isIn]
        refine iteT ⟨.str z, rfl, _, h2, ?_, fun d o e => ?_, ?_⟩
        · rw [List.length_map]
          refine small1000 (Nat.le_trans (List.length_filter_le _ _) ?_)
          rw [List.length_take]
          omega
        · rw [upd_ne (ne_of_none e nl)]
          exact s2 d o e
        · rw [upd_same, tk]
          simp [isIn]
    · rintro H2 ⟨s2, h2⟩
      rw [List.length_map, List.take_length] at h2
      have s12 := s1.trans s2
      refine ⟨.ref r, rfl, .ref l, rfl, r, c, ps, l, _, rfl, R.tups (Same.tups s12), sh, few, .inl (SqL.of h2), fun H3 s3 => ⟨_, rfl, ?_⟩⟩
      rw [sat_outs mem]
      exact q H3 (s12.trans s3)
/-! _law_names_in -/
abbrev sLni : Stmt := top 22
abbrev nLni : List Str := ["_law_requirement_here", "_law_found", "_law_part"]
theorem scLni : FnScope nLni ["_law_requirement_here"] (defScope sLni) := ⟨rfl, rfl, rfl, by decide +kernel, rfl, by decide +kernel, by decide +kernel⟩
theorem ok_lni {f : Addr} {fd : FuncData} {k : Nat} (F : Fun K "_law_names_in" "_law_names_in" sLni f fd) (T : Blt mg) : FnOk P w K mg base CX0 (k + 1) f fd ["_law_requirement_here"] (spNwr fun _ => True) := by
  refine F.ok scLni (fun vs H Q E h => ?_) (fun cdv A outer s H vs Q E hr h => ?_)
  · obtain ⟨r, c, ps, rfl, _⟩ := h
    rfl
  · obtain ⟨r, c, ps, rfl, R, hD, few, q⟩ := h
    refine ⟨_, pss_cons (ps_set (i := 1) scLni.nd rfl (Or.inl rfl) (pe_lst pa_nil))
      (pss_cons (ps_for PassesOwn.never rfl (pi_tup (pe_ix ix_tup (pv 0) pe_int (fun _ _ => rfl))) (pg_name (i := 2) scLni.nd rfl (Or.inl rfl))
        (pss_one (ps_expr (pe_bm PySem.F.plainAttrs_list PySem.F.slot_list_extend PySem.F.type_list_extend mt_extend (pv 1) (pa_cons
          (pe_ifExp (pt_val (pe_callB call_isi (by rfl) T.isi (by decide +kernel) (pa_cons (pv 2) (pa_cons (pe_bltn (v := .ty "str") (by rfl) T.str (by decide +kernel) rfl) pa_nil))))
            (pe_lst (pa_cons (pv 2) pa_nil)) (pe_callTy call_list_of (by rfl) T.lst (by decide +kernel) (pa_cons (pe_ix ix_tup (pv 2) pe_int (fun _ _ => rfl)) pa_nil))) pa_nil)))))
      (pss_one (ps_ret (pv 1)))), ?_⟩
    obtain ⟨pp, vs, hr1, hp1, PS⟩ := R
    refine ⟨Nat.zero_le _, fun l nl => ?_⟩
    have s1 : Same H (upd H l (.lst [])) := same_new nl
    refine ⟨.ref r, rfl, r, _, 1, .ref pp, rfl, rfl, SqT.of (s1 _ _ hr1), atI_nat (j := 1) rfl, pp, rfl, ⟨_, SqT.of (s1 _ _ hp1)⟩, for_tup (K := K) (a := pp) (xs := vs) (fun i σ H1 => ∃ y2 : Option V, σ = [some (.ref r), some (.ref l), y2] ∧
      Same H H1 ∧ H1 l = some (.lst ((namesOf (ps.take i)).map V.str))) ⟨none, rfl, s1, upd_same⟩ (fun i σ H1 _ ⟨_, _, s2, _⟩ => SqT.of (s2 _ _ hp1)) ?_ ?_⟩
    · rintro i x σ H1 hx ⟨y2, rfl, s2, h1⟩
      obtain ⟨p, hp, pa⟩ := PS.at hx
      have pa1 := pa.tups (Same.tups s2)
      have e := namesOf_take hp
      have le := namesOf_le ps (i + 1)
      obtain ⟨ty, ty1, ty2⟩ := isi_part (K := K) pa1
      have lens := congrArg List.length e
      rw [List.length_append] at lens
      -- what stands behind extend
      have fin : ∀ (t : Addr) (H2 : Hp), Same H1 H2 → H2 t = some (.lst ((namesOf [p]).map V.str)) → ∃ l' b xs zs, V.ref l = .ref l' ∧ [V.ref t] = [.ref b] ∧ H2 l' = some (.lst xs) ∧ H2 b = some (.lst zs) ∧ xs.length + zs.length ≤ sizeLine ∧
          ∃ y2 : Option V, [some (.ref r), some (.ref l), some x] = [some (.ref r), some (.ref l), y2] ∧ Same H (upd H2 l' (.lst (xs ++ zs))) ∧ (upd H2 l' (.lst (xs ++ zs))) l = some (.lst ((namesOf (ps.take (i + 1))).map V.str)) := fun t H2 s3 h2 => by
        refine ⟨l, t, _, _, rfl, rfl, s3 _ _ h1, h2, ?_, some x, rfl, fun d o c => ?_, ?_⟩
        · rw [List.length_map, List.length_map]
          exact Nat.le_of_lt (small1000 (by omega))
        · rw [upd_ne (ne_of_none c nl)]
          exact s3 _ _ (s2 d o c)
        · rw [upd_same, e, List.map_append]
      refine ⟨.ref l, rfl, .inl ⟨rfl, _, SqL.of h1⟩, x, rfl, _, _, ty, .type "str", _, rfl, .ty _, ty1, ty2, _, rfl, ?_⟩
      cases p with
      | inl z =>
        cases pa
        exact iteT ⟨.str z, rfl, by show 1 ≤ sizeLine; decide, fun t nt => fin t _ (same_new nt) upd_same⟩
      | inr y =>
        obtain ⟨c', ns⟩ := y
        obtain ⟨a, p', rfl, g1, g2⟩ := pa1
        have e1 : namesOf [(Sum.inr (c', ns) : Part)] = ns := List.append_nil ns
        rw [e1] at fin
        exact iteF ⟨.ref a, rfl, a, _, 1, .ref p', rfl, rfl, SqT.of g1, atI_nat (j := 1) rfl, p', _, rfl, .inr (SqT.of g2), fun t nt => fin t _ (same_new nt) upd_same⟩
    · rintro σ H1 ⟨y2, rfl, s2, h1⟩
      rw [PS.length, List.take_length] at h1
      exact ⟨.ref l, rfl, q l H1 s2 nl h1⟩
end
end Moot
namespace Moot
open PySem PySem.Spec PyProof.Rows L2
section
variable {P : Program} {w : World} {K : PySem.W.Frag} {mg : Str → Option Value} {base : Heap}
/-! _law_satisfies -/
abbrev sLsat : Stmt := top 23
abbrev nLsat : List Str := ["_law_requirement_here", "_law_nodes", "_law_many", "_law_part"]
theorem scLsat : FnScope nLsat ["_law_requirement_here", "_law_nodes"] (defScope sLsat) := ⟨rfl, rfl, rfl, by decide +kernel, rfl, by decide +kernel, by decide +kernel⟩
theorem ok_lsat {D0 D : List Part → Prop} {f : Addr} {fd : FuncData} {k : Nat} (F : Fun K "_law_satisfies" "_law_satisfies" sLsat f fd) (b : Binds K fd ["_law_requirement_here", "_law_nodes"] []) (g : mg "_law_satisfies" = some (.ref f)) (T : Blt mg)
    (G : FnOk P w K mg base CX0 k f fd ["_law_requirement_here", "_law_nodes"] (spSat K D0)) (imp : ∀ ps, D ps → ∀ c ns, Sum.inr (c, ns) ∈ ps → D0 (ns.map Sum.inl) ∧ ns.length ≤ 1000) : FnOk P w K mg base CX0 (k + 1) f fd ["_law_requirement_here", "_law_nodes"] (spSat K D) := by
  refine F.ok scLsat (fun vs H Q E h => ?_) (fun cdv A outer s H vs Q E hr h => ?_)
  · obtain ⟨r, c, ps, np, S, rfl, _⟩ := h
    rfl
  · obtain ⟨r, c, ps, np, S, rfl, R, hD, few, N, q⟩ := h
    refine ⟨_, pss_cons (ps_set (i := 2) scLsat.nd rfl (Or.inl rfl) pe_int)
      (pss_cons (ps_for PassesOwn.never rfl (pi_tup (pe_ix ix_tup (pv 0) pe_int (fun _ _ => rfl))) (pg_name (i := 3) scLsat.nd rfl (Or.inl rfl))
        (pss_one (ps_set (i := 2) scLsat.nd rfl (Or.inl rfl) (pe_op op_add (pv 2) (pe_callTy call_int1 (by rfl) T.int (by decide +kernel) (pa_cons
          (pe_ifExp (pt_val (pe_callB call_isi (by rfl) T.isi (by decide +kernel) (pa_cons (pv 3) (pa_cons (pe_bltn (v := .ty "str") (by rfl) T.str (by decide +kernel) rfl) pa_nil))))
            (pe_cmpR op_in_seq (pv 3) (pv 1) (by rfl)) (pe_call G hr (by rfl) g F.kp b .nil pass0 (pa_cons (pv 3) (pa_cons (pv 1) pa_nil)))) pa_nil))))))
      (pss_one (ps_ret (pe_cmpR op_ge (pv 2) (pe_ix ix_tup (pv 0) pe_int (fun _ _ => rfl)) (nomark _))))), ?_⟩
    obtain ⟨pp, vs, hr1, hp1, PS⟩ := R
    refine ⟨.ref r, rfl, r, _, 1, .ref pp, rfl, rfl, SqT.of hr1, atI_nat (j := 1) rfl, pp, rfl, ⟨_, SqT.of hp1⟩, for_tup (K := K) (a := pp) (xs := vs) (fun i σ H1 => ∃ y3 : Option V, σ = [some (.ref r), some (.ref np), some (.int ((ps.take i).countP (satP S) : Nat)), y3] ∧ Same H H1)
      ⟨none, rfl, Same.refl H⟩ (fun i σ H1 _ ⟨_, _, s2⟩ => SqT.of (s2 _ _ hp1)) ?_ ?_⟩
    · rintro i x σ H1 hx ⟨y3, rfl, s1⟩
      obtain ⟨p, hp, pa⟩ := PS.at hx
      have pa1 := pa.tups (Same.tups s1)
      obtain ⟨ty, ty1, ty2⟩ := isi_part (K := K) pa1
      have tk : (ps.take (i + 1)).countP (satP S) = (ps.take i).countP (satP S) + (if satP S p = true then 1 else 0) := by
        rw [List.take_add_one, hp, List.countP_append]
        show _ + List.countP (satP S) [p] = _
        rw [List.countP_singleton]
      have tkI : ((ps.take i).countP (satP S) : Nat) + (if satP S p = true then (1 : Int) else 0) = (((ps.take (i + 1)).countP (satP S) : Nat) : Int) := by
        rw [tk]
        split <;> simp
      refine ⟨_, rfl, x, rfl, _, _, ty, .type "str", _, rfl, .ty _, ty1, ty2, _, rfl, ?_⟩
      cases p with
      | inl z =>
        cases pa
        refine iteT ⟨.str z, rfl, .ref np, rfl, np, _, rfl, N.same s1, rfl, flats S, .inr ⟨_, rfl, _, _, rfl, rfl, some (.str z), ?_, s1⟩⟩
        have e : inV (.str z) (S.map V.str) = satP S (.inl z) := inV_str z S
        rw [if_neg Bool.false_ne_true, e]
        show ([some (.ref r), some (.ref np), some (.int (((ps.take i).countP (satP S) : Nat) + (if satP S (.inl z) = true then (1 : Int) else 0))), some (.str z)] : List (Option V)) = _
        rw [tkI]
      | inr y =>
        obtain ⟨c', ns⟩ := y
        obtain ⟨a, rfl, R'⟩ := pa1.req
        obtain ⟨i1, i2⟩ := imp ps hD c' ns (List.mem_of_getElem? hp)
        refine iteF ⟨.ref a, rfl, .ref np, rfl, a, c', _, np, S, rfl, R', i1, by rw [List.length_map]; exact i2, N.same s1, fun H2 s2 => .inr ⟨_, rfl, _, _, rfl, rfl, some (.ref a), ?_, s1.trans s2⟩⟩
        rw [sat_names]
        show ([some (.ref r), some (.ref np), some (.int (((ps.take i).countP (satP S) : Nat) + (if satP S (.inr (c', ns)) = true then (1 : Int) else 0))), some (.ref a)] : List (Option V)) = _
        rw [tkI]
    · rintro σ H1 ⟨y3, rfl, s1⟩
      refine ⟨_, rfl, .ref r, rfl, r, _, 0, .int c, rfl, rfl, SqT.of (s1 _ _ hr1), atI_nat (j := 0) rfl, _, _, rfl, rfl, ?_⟩
      rw [PS.length, List.take_length]
      exact q H1 s1
theorem ok_lsat_all {f : Addr} {fd : FuncData} (F : Fun K "_law_satisfies" "_law_satisfies" sLsat f fd) (b : Binds K fd ["_law_requirement_here", "_law_nodes"] []) (g : mg "_law_satisfies" = some (.ref f)) (T : Blt mg) : FnOk P w K mg base CX0 2 f fd ["_law_requirement_here", "_law_nodes"] (spSat K Short) := by
  have g0 : FnOk P w K mg base CX0 0 f fd ["_law_requirement_here", "_law_nodes"] (spSat K fun _ => False) := fn_none 0 fun vs H Q E ⟨r, c, ps, np, S, _, _, h, _⟩ => h
  have g1 : FnOk P w K mg base CX0 1 f fd ["_law_requirement_here", "_law_nodes"] (spSat K AllNames) := ok_lsat F b g T g0 fun ps h c ns m => by
    have := h _ m
    cases this
  exact ok_lsat F b g T g1 fun ps h c ns m => ⟨allNames ns, h c ns m⟩
/-! _law_blocks -/
abbrev sLblk : Stmt := top 24
abbrev nLblk : List Str := ["_law_requirement_here", "_law_nodes", "_law_others", "_law_name_here"]
theorem scLblk : FnScope nLblk ["_law_requirement_here", "_law_nodes"] (defScope sLblk) := ⟨rfl, rfl, rfl, by decide +kernel, rfl, by decide +kernel, by decide +kernel⟩
theorem ok_lblk {f fN fS : Addr} {fd fdN fdS : FuncData} {k : Nat} (F : Fun K "_law_blocks" "_law_blocks" sLblk f fd) (FN : Fun K "_law_names_in" "_law_names_in" sLni fN fdN) (bN : Binds K fdN ["_law_requirement_here"] []) (gN : mg "_law_names_in" = some (.ref fN))
    (FS : Fun K "_law_satisfies" "_law_satisfies" sLsat fS fdS) (bS : Binds K fdS ["_law_requirement_here", "_law_nodes"] []) (gS : mg "_law_satisfies" = some (.ref fS))
    (GN : FnOk P w K mg base CX0 k fN fdN ["_law_requirement_here"] (spNwr fun _ => True)) (GS : FnOk P w K mg base CX0 k fS fdS ["_law_requirement_here", "_law_nodes"] (spSat K Short)) : FnOk P w K mg base CX0 (k + 1) f fd ["_law_requirement_here", "_law_nodes"] (spBlk K) := by
  refine F.ok scLblk (fun vs H Q E h => ?_) (fun cdv A outer s H vs Q E hr h => ?_)
  · obtain ⟨r, c, ps, np, S, rfl, _⟩ := h
    rfl
  · obtain ⟨r, c, ps, np, S, rfl, R, sh, few, fewN, N, q⟩ := h
    refine ⟨_, pss_cons (ps_setLc (i := 2) (own := [("_law_name_here", 3)]) (g := gName 3) (by rfl) scLblk.nd rfl rfl (sw_true rfl rfl rfl (by decide +kernel)) (pi_list (pe_call GN hr (by rfl) gN FN.kp bN .nil pass0 (pa_cons (pv 0) pa_nil))) (blkOk_by (N := nLblk) (sc := defScope sLblk) (by decide +kernel))
        (fun _ _ _ _ _ => pg_name (i := 3) scLblk.nd rfl (Or.inl rfl)) (fun _ _ _ _ _ => pts_one (pt_cmpR (show OpR _ (compareOp .NotIn) (rIn K true) from op_notIn_seq) (pv 3) (pv 1) (by rfl))) (fun _ _ _ _ _ => pv 3))
      (pss_one (ps_ret (pe_not (pe_call GS hr (by rfl) gS FS.kp bS .nil pass0 (pa_cons (pv 0) (pa_cons (pv 2) pa_nil)))))), ?_⟩
    refine ⟨.ref r, rfl, r, c, ps, rfl, R, trivial, by omega, fun t H1 s1 nt h1 => ?_⟩
    refine ⟨t, rfl, ⟨_, SqL.of h1⟩, fun l nl => lc_list (K := K) (a := t) (xs := (namesOf ps).map V.str) (fun i H2 => Same H1 H2 ∧ H2 l = some (.lst ((((namesOf ps).take i).filter fun x => decide (x ∉ S)).map V.str))) ?_ (fun i H2 _ h => SqL.of (h.1 _ _ h1)) ?_ ?_⟩
    · exact ⟨same_new nl, upd_same⟩
    · rintro i x H2 hx ⟨s2, h2⟩
      rw [List.getElem?_map] at hx
      obtain ⟨z, hz, rfl⟩ := Option.map_eq_some_iff.mp hx
      have tk : ((namesOf ps).take (i + 1)).filter (fun x => decide (x ∉ S)) = ((namesOf ps).take i).filter (fun x => decide (x ∉ S)) ++ [z].filter (fun x => decide (x ∉ S)) := by
        rw [List.take_add_one, hz, List.filter_append]
        rfl
      refine ⟨rfl, .str z, rfl, .ref np, rfl, np, _, rfl, (N.same s1).same s2, rfl, flats S, _, rfl, ?_⟩
      rw [inV_str]
      by_cases isIn : z ∈ S
      · rw [decide_eq_true isIn]
        refine iteF ⟨s2, ?_⟩
        rw [h2, tk]
        simp [isIn]
      · rw [decide_eq_false isIn]
        refine iteT ⟨.str z, rfl, _, h2, ?_, fun d o e => ?_, ?_⟩
        · rw [List.length_map]
          refine small1000 (Nat.le_trans (List.length_filter_le _ _) ?_)
          rw [List.length_take]
          omega
        · rw [upd_ne (ne_of_none e nl)]
          exact s2 d o e
        · rw [upd_same, tk]
          simp [isIn]
    · rintro H2 ⟨s2, h2⟩
      rw [List.length_map, List.take_length] at h2
      have s12 := s1.trans s2
      exact ⟨.ref r, rfl, .ref l, rfl, r, c, ps, l, outs S ps, rfl, R.tups (Same.tups s12), sh, few, .inl (SqL.of h2), fun H3 s3 => ⟨_, rfl, q H3 (s12.trans s3)⟩⟩
/-! _law_listed -/
abbrev sLis : Stmt := top 27
abbrev nLis : List Str := ["_law_parts", "_law_part"]
theorem scLis : FnScope nLis ["_law_parts"] (defScope sLis) := ⟨rfl, rfl, rfl, by decide +kernel, rfl, by decide +kernel, by decide +kernel⟩
def spLis : Sp := fun vs H Q _ => ∃ (l : Addr) (us : List V) (ps : List Part), vs = [.ref l] ∧ H l = some (.lst us) ∧ Parts H us ps ∧ ps.length ≤ 900 ∧ ∀ (v : Int) (H' : Hp), Same H H' → Q (.int v) H'
theorem ok_lis {f : Addr} {fd : FuncData} {k : Nat} (F : Fun K "_law_listed" "_law_listed" sLis f fd) (T : Blt mg) : FnOk P w K mg base CX0 (k + 1) f fd ["_law_parts"] spLis := by
  refine F.ok scLis (fun vs H Q E h => ?_) (fun cdv A outer s H vs Q E hr h => ?_)
  · obtain ⟨l, us, ps, rfl, _⟩ := h
    rfl
  · obtain ⟨l, us, ps, rfl, hl, PS, few, q⟩ := h
    refine ⟨_, pss_one (ps_ret (pe_callB (cr_sum rfl) (by rfl) T.sum (by decide +kernel) (pa_cons
      (pe_lc (own := [("_law_part", 1)]) (g := gName 1) (tt := tYes) (by rfl) scLis.nd (pi_list (pv 0)) (blkOk_by (N := nLis) (sc := defScope sLis) (by decide +kernel))
        (fun _ _ _ _ _ => pg_name (i := 1) scLis.nd rfl (Or.inl rfl)) (fun _ _ _ _ _ => pts_nil)
        (fun _ _ _ _ _ => pe_ifExp (pt_val (pe_callB (show CallR _ (.builtin "isinstance") (rIsi K) from call_isi) (by rfl) T.isi (by decide +kernel) (pa_cons (pv 1) (pa_cons (pe_bltn (v := .ty "str") (by rfl) T.str (by decide +kernel) rfl) pa_nil)))) pe_int
          (pe_callB (show CallR _ (.builtin "len") (rLen K) from call_len_seq) (by rfl) T.len PySem.boot_len (pa_cons (pe_ix (show IxR _ (rIxT K) from ix_tup) (pv 1) pe_int (fun _ _ => rfl)) pa_nil)))) pa_nil))), ?_⟩
    refine ⟨.ref l, rfl, l, rfl, ⟨_, SqL.of hl⟩, fun D nD => lc_list (K := K) (a := l) (xs := us) (fun i H1 => Same H H1 ∧ ∃ ns : List Int, H1 D = some (.lst (ns.map V.int)) ∧ ns.length = i) ?_ (fun i H1 _ h => SqL.of (h.1 _ _ hl)) ?_ ?_⟩
    · exact ⟨same_new nD, [], upd_same, rfl⟩
    · rintro i x H1 hx ⟨s1, ns, hD, ln⟩
      have lt := (List.getElem?_eq_some_iff.mp hx).1
      rw [PS.length] at lt
      obtain ⟨p, hp, pa⟩ := PS.at hx
      have pa1 := pa.tups (Same.tups s1)
      obtain ⟨ty, ty1, ty2⟩ := isi_part (K := K) pa1
      have room : (ns.map V.int).length < sizeLine := by
        rw [List.length_map]
        exact small1000 (by omega)
      have fin : ∀ z : Int, Same H (upd H1 D (.lst (ns.map V.int ++ [.int z]))) ∧ ∃ ns : List Int, upd H1 D (.lst (_ ++ [.int z])) D = some (.lst (ns.map V.int)) ∧ ns.length = i + 1 := fun z => by
        refine ⟨fun d o e => ?_, ns ++ [z], ?_, ?_⟩
        · rw [upd_ne (ne_of_none e nD)]
          exact s1 d o e
        · rw [upd_same, List.map_append]
          rfl
        · rw [List.length_append, ln]
          rfl
      refine ⟨rfl, x, rfl, _, _, ty, .type "str", _, rfl, .ty _, ty1, ty2, _, rfl, ?_⟩
      cases p with
      | inl z => exact iteT ⟨_, hD, room, fin 1⟩
      | inr y =>
        obtain ⟨c', ms⟩ := y
        obtain ⟨a, p', rfl, g1, g2⟩ := pa1
        exact iteF ⟨.ref a, rfl, a, _, 1, .ref p', rfl, rfl, SqT.of g1, atI_nat (j := 1) rfl, p', _, rfl, .inr (SqT.of g2), _, hD, room, fin _⟩
    · rintro H1 ⟨s1, ns, hD, ln⟩
      exact ⟨D, ns, rfl, SqL.of hD, q _ H1 s1⟩
end
end Moot
namespace Moot
open PySem PySem.Spec PyProof.Rows L2
/-! parts as data -/
def partD : Part → PyData
  | .inl x => .str x
  | .inr (c, ns) => .tuple [.int c, .tuple (ns.map PyData.str)]
theorem dp_strs {K : PySem.W.Frag} {H : Hp} : ∀ ns : List Str, DpAll K H (ns.map V.str) (ns.map PyData.str)
  | [] => .nil
  | x :: ns => .cons (.str x) (dp_strs ns)
theorem PartAt.dp {K : PySem.W.Frag} {H : Hp} {v : V} {p : Part} (h : PartAt H v p) : Dp K H v (partD p) := by
  cases p with
  | inl x =>
    cases h
    exact .str x
  | inr y =>
    obtain ⟨c, ns⟩ := y
    obtain ⟨q, p, rfl, h1, h2⟩ := h
    exact .tup (SqT.of h1) (.cons (.int c) (.cons (.tup (SqT.of h2) (dp_strs ns)) .nil))
theorem Parts.dp {K : PySem.W.Frag} {H : Hp} {vs : List V} {ps : List Part} (h : Parts H vs ps) : DpAll K H vs (ps.map partD) := by
  induction h with
  | nil => exact .nil
  | cons a _ ih => exact .cons a.dp ih
/-- a drawn part of a requirement over the names xs -/
def Good (xs : List Str) : Part → Prop
  | .inl x => x ∈ xs
  | .inr (c, ns) => 1 ≤ ns.length ∧ ns.length ≤ 8 ∧ 1 ≤ c ∧ c ≤ ns.length ∧ (xs.Nodup → ns.Nodup) ∧ ∀ y ∈ ns, y ∈ xs
theorem lay_strs : ∀ {ns : List Str}, (∀ y ∈ ns, PyData.strOk y = true) → PyData.canLayAll0 (ns.map PyData.str) = true
  | [], _ => rfl
  | x :: ns, h => by
    show (PyData.strOk x && PyData.canLayAll0 (ns.map PyData.str)) = true
    rw [h x List.mem_cons_self, lay_strs fun y m => h y (List.mem_cons_of_mem _ m)]
    rfl
theorem depth_strs : ∀ ns : List Str, PyData.depthAll (ns.map PyData.str) = 0
  | [] => rfl
  | x :: ns => by
    show max 0 (PyData.depthAll (ns.map PyData.str)) = 0
    rw [depth_strs ns]
    rfl
theorem Good.lay {xs : List Str} (ok : ∀ x ∈ xs, PyData.strOk x = true) {p : Part} (h : Good xs p) : PyData.canLay0 (partD p) = true ∧ PyData.depth (partD p) ≤ 2 := by
  cases p with
  | inl x => exact ⟨ok x h, Nat.zero_le _⟩
  | inr y =>
    obtain ⟨c, ns⟩ := y
    have l := lay_strs fun y m => ok y (h.2.2.2.2.2 y m)
    refine ⟨?_, ?_⟩
    · show (true && (PyData.canLayAll0 (ns.map PyData.str) && true)) = true
      rw [l]
      rfl
    · show max 0 (max (PyData.depthAll (ns.map PyData.str) + 1) 0) + 1 ≤ 2
      rw [depth_strs]
      decide
theorem goods_lay {xs : List Str} (ok : ∀ x ∈ xs, PyData.strOk x = true) : ∀ {ps : List Part}, (∀ p ∈ ps, Good xs p) → PyData.canLayAll0 (ps.map partD) = true ∧ PyData.depthAll (ps.map partD) ≤ 2
  | [], _ => ⟨rfl, Nat.zero_le _⟩
  | p :: ps, h => by
    obtain ⟨a1, a2⟩ := Good.lay ok (h p List.mem_cons_self)
    obtain ⟨b1, b2⟩ := goods_lay ok fun q m => h q (List.mem_cons_of_mem _ m)
    refine ⟨?_, ?_⟩
    · show (PyData.canLay0 (partD p) && PyData.canLayAll0 (ps.map partD)) = true
      rw [a1, b1]
      rfl
    · show max (PyData.depth (partD p)) (PyData.depthAll (ps.map partD)) ≤ 2
      omega
theorem shaped_part {xs : List Str} (ok : ∀ x ∈ xs, PyData.strOk x = true) {p : Part} (h : Good xs p) : SeqAt.shaped (partD p) = true := by
  obtain ⟨a1, a2⟩ := Good.lay ok h
  unfold SeqAt.shaped
  rw [a1, decide_eq_true (by omega : PyData.depth (partD p) ≤ 64)]
  rfl
theorem shaped_parts {xs : List Str} (ok : ∀ x ∈ xs, PyData.strOk x = true) {ps : List Part} (h : ∀ p ∈ ps, Good xs p) : SeqAt.shaped (.list (ps.map partD)) = true := by
  obtain ⟨a1, a2⟩ := goods_lay ok h
  unfold SeqAt.shaped
  have d : PyData.depth (.list (ps.map partD)) ≤ 64 := by
    show PyData.depthAll (ps.map partD) + 1 ≤ 64
    omega
  rw [decide_eq_true d]
  show (PyData.canLayAll0 (ps.map partD) && true) = true
  rw [a1]
  rfl
/-- a drawn list of parts -/
structure Fine (xs : List Str) (len names : Nat) (ps : List Part) : Prop where
  all : ∀ p ∈ ps, Good xs p
  len : ps.length ≤ len
  nam : (namesOf ps).length ≤ names
theorem Parts.append {H : Hp} {us vs : List V} {ps qs : List Part} (h : Parts H us ps) (h2 : Parts H vs qs) : Parts H (us ++ vs) (ps ++ qs) := by
  induction h with
  | nil => exact h2
  | cons a _ ih => exact .cons a ih
theorem Parts.cut {H : Hp} {us : List V} {ps : List Part} (h : Parts H us ps) : ∀ j, Parts H (us.take j) (ps.take j) ∧ Parts H (us.drop j) (ps.drop j) := by
  induction h with
  | nil => intro j; exact ⟨by simpa using Parts.nil, by simpa using Parts.nil⟩
  | cons a b ih =>
    intro j
    cases j with
    | zero => exact ⟨.nil, .cons a b⟩
    | succ j => exact ⟨.cons a (ih j).1, (ih j).2⟩
theorem five {v : Int} (h0 : 0 ≤ v) (h1 : v < 5) : ∃ s : Int, atI [V.int 0, V.int 0, V.int 1, V.int 2, V.int 4] v = some (.int s) ∧ 0 ≤ s ∧ s ≤ 4 := by
  have c : v = 0 ∨ v = 1 ∨ v = 2 ∨ v = 3 ∨ v = 4 := by omega
  rcases c with rfl | rfl | rfl | rfl | rfl
  · exact ⟨0, rfl, by decide, by decide⟩
  · exact ⟨0, rfl, by decide, by decide⟩
  · exact ⟨1, rfl, by decide, by decide⟩
  · exact ⟨2, rfl, by decide, by decide⟩
  · exact ⟨4, rfl, by decide, by decide⟩
theorem cut_to (ys : List Str) {j : Int} (h : 0 ≤ j) : cutV (ys.map V.str) none (some j) = (ys.take j.toNat).map V.str := by
  obtain ⟨n, rfl⟩ := Int.eq_ofNat_of_zero_le h
  unfold cutV
  rw [HT.sIx_none, HT.sIx_nat]
  show ((ys.map V.str).drop 0).take (min n (ys.map V.str).length - 0) = _
  rw [List.drop_zero, Nat.sub_zero, List.map_take, List.length_map]
  show _ = (ys.map V.str).take n
  rw [List.take_eq_take_iff, List.length_map]
  omega
/-- the drawn names do not stand at the box -/
theorem Box.apart {H : Hp} {b g m p : Addr} {n : Nat} {xs : List Str} (B : Box H b g m n) (h : H p = some (.lst (xs.map V.str))) (h1 : 1 ≤ xs.length) : p ≠ b ∧ p ≠ g := by
  obtain ⟨x, c, gs, ms, hb, hg, _⟩ := B.ex
  cases xs with
  | nil => simp at h1
  | cons x xs =>
    refine ⟨fun e => ?_, fun e => ?_⟩
    · rw [e, hb] at h
      have := congrArg (fun o => match o with | some (HO.lst (v :: _)) => v | _ => V.non) h
      cases this
    · rw [e, hg] at h
      cases gs with
      | nil => cases h
      | cons z gs =>
        have := congrArg (fun o => match o with | some (HO.lst (v :: _)) => v | _ => V.non) h
        cases this
section
variable {P : Program} {w : World} {K : PySem.W.Frag} {mg : Str → Option Value} {base : Heap}
/-! _law_requirement -/
abbrev sReq : Stmt := top 21
abbrev nReq : List Str := ["_law_box_here", "_law_names_here", "_law_parts", "_law_k", "_law_inner", "_law_part"]
theorem scReq : FnScope nReq ["_law_box_here", "_law_names_here"] (defScope sReq) := ⟨rfl, rfl, rfl, by decide +kernel, rfl, by decide +kernel, by decide +kernel⟩
def spReq : Sp := fun vs H Q _ => ∃ (b g m vp : Addr) (n : Nat) (xs : List Str), vs = [.ref b, .ref vp] ∧ Box H b g m n ∧ n ≤ 800000 ∧ H vp = some (.lst (xs.map V.str)) ∧ 1 ≤ xs.length ∧ xs.length ≤ 8 ∧ (∀ x ∈ xs, Nm x) ∧
  ∀ (r : Addr) (c : Int) (ps : List Part) (H' : Hp), ReqAt H' r c ps → Fine xs 12 40 ps → 1 ≤ c → c ≤ ps.length → Box H' b g m (n + 100) → Keep b g H H' → Q (.ref r) H'
theorem ok_req {f fT fS fC fL : Addr} {fd fdT fdS fdC fdL : FuncData} {k : Nat} (F : Fun K "_law_requirement" "_law_requirement" sReq f fd)
    (FT : Fun K "_law_take" "_law_take" sTake fT fdT) (bT : Binds K fdT ["_law_box_here", "_law_size"] []) (gT : mg "_law_take" = some (.ref fT)) (GT : FnOk P w K mg base CX0 k fT fdT ["_law_box_here", "_law_size"] spTake)
    (FS : Fun K "_law_some" "_law_some" sSome fS fdS) (bS : Binds K fdS ["_law_box_here", "_law_values"] []) (gS : mg "_law_some" = some (.ref fS)) (GS : FnOk P w K mg base CX0 k fS fdS ["_law_box_here", "_law_values"] (spSome K))
    (FC : Fun K "_law_count" "_law_count" sCount fC fdC) (bC : Binds K fdC ["_law_box_here", "_law_many"] []) (gC : mg "_law_count" = some (.ref fC)) (GC : FnOk P w K mg base CX0 k fC fdC ["_law_box_here", "_law_many"] spCount)
    (FL : Fun K "_law_listed" "_law_listed" sLis fL fdL) (bL : Binds K fdL ["_law_parts"] []) (gL : mg "_law_listed" = some (.ref fL)) (GL : FnOk P w K mg base CX0 k fL fdL ["_law_parts"] spLis) (hk : 1 ≤ k) (T : Blt mg) :
    FnOk P w K mg base CX0 (k + 1) f fd ["_law_box_here", "_law_names_here"] spReq := by
  refine F.ok scReq (fun vs H Q E h => ?_) (fun cdv A outer s H vs Q E hr h => ?_)
  · obtain ⟨b, g, m, vp, n, xs, rfl, _⟩ := h
    rfl
  · obtain ⟨b, g, m, vp, n, xs, rfl, B, hn, hv, x1, x8, nm, q⟩ := h
    have hu : (A.deeper (envOfC "_law_requirement" (defScope sReq) s.heap.objs.size f cdv)).units + 65 < cLine := by
      have := hr.un
      omega
    refine ⟨_, pss_cons (ps_set (i := 2) scReq.nd rfl (Or.inl rfl) (pe_call GS hr (by rfl) gS FS.kp bS .nil pass0 (pa_cons (pv 0) (pa_cons (pv 1) pa_nil))))
      (pss_cons (ps_for PassesOwn.never rfl (pi_range1 rfl T.rng (pa_cons (pe_ix ix_list (pe_lst (pa_cons pe_int (pa_cons pe_int (pa_cons pe_int (pa_cons pe_int (pa_cons pe_int pa_nil)))))) (pe_call GT hr (by rfl) gT FT.kp bT .nil pass0 (pa_cons (pv 0) (pa_cons pe_int pa_nil))) (fun _ _ => rfl)) pa_nil)) (pg_name (i := 3) scReq.nd rfl (Or.inl rfl))
        (pss_cons (ps_set (i := 4) scReq.nd rfl (Or.inl rfl) (pe_slice sl_list (pe_call GS hr (by rfl) gS FS.kp bS .nil pass0 (pa_cons (pv 0) (pa_cons (pv 1) pa_nil))) po_none (po_some (pe_op op_add pe_int (pe_call GT hr (by rfl) gT FT.kp bT .nil pass0 (pa_cons (pv 0) (pa_cons pe_int pa_nil)))))))
        (pss_cons (ps_set (i := 5) scReq.nd rfl (Or.inl rfl) (pe_tup (pa_cons (pe_call GC hr (by rfl) gC FC.kp bC .nil pass0 (pa_cons (pv 0) (pa_cons (pe_callB call_len_seq (by rfl) T.len PySem.boot_len (pa_cons (pv 4) pa_nil)) pa_nil)))
            (pa_cons (pe_callTy call_tuple_of (by rfl) T.tup (by decide +kernel) (pa_cons (pv 4) pa_nil)) pa_nil))))
        (pss_one (ps_if (PW.pt (pw_and (pt_cmpR (op_notInD hu) (pv 5) (pv 2) (by rfl)) (pw_and1 (pt_cmpR op_lt (pe_call GL hr (by rfl) gL FL.kp bL .nil pass0 (pa_cons (pe_op op_cat (pv 2) (pe_lst (pa_cons (pv 5) pa_nil))) pa_nil)) pe_int (nomark _)))))
          (pss_one (ps_expr (pe_bm PySem.F.plainAttrs_list PySem.F.slot_list_insert PySem.F.type_list_insert mt_insert (pv 2) (pa_cons (pe_call GT hr (by rfl) gT FT.kp bT .nil pass0 (pa_cons (pv 0) (pa_cons (pe_op op_add (pe_callB call_len_seq (by rfl) T.len PySem.boot_len (pa_cons (pv 2) pa_nil)) pe_int) pa_nil))) (pa_cons (pv 5) pa_nil))))) pss_nil)))))
      (pss_cons (ps_setLc (i := 4) (own := [("_law_part", 5)]) (g := gName 5) (by rfl) scReq.nd rfl rfl (sw_true rfl rfl rfl (by decide +kernel)) (pi_list (pv 2)) (blkOk_by (N := nReq) (sc := defScope sReq) (by decide +kernel))
        (fun _ _ _ _ _ => pg_name (i := 5) scReq.nd rfl (Or.inl rfl)) (fun _ _ _ _ _ => pts_one (pt_not (pt_val (pe_callB (show CallR _ (.builtin "isinstance") (rIsi K) from call_isi) (by rfl) T.isi (by decide +kernel) (pa_cons (pv 5) (pa_cons (pe_bltn (v := .ty "str") (by rfl) T.str (by decide +kernel) rfl) pa_nil)))))) (fun _ _ _ _ _ => pv 5))
      (C8.pss_cut (ps_if (PW.pt (pw_and (pt_cmpR op_gt (pe_callB call_len_seq (by rfl) T.len PySem.boot_len (pa_cons (pv 4) pa_nil)) pe_int (nomark _)) (pw_and1 (pt_cmpR op_eq (pe_call GT hr (by rfl) gT FT.kp bT .nil pass0 (pa_cons (pv 0) (pa_cons pe_int pa_nil))) pe_int (nomark _)))))
        (pss_one (ps_set (i := 2) scReq.nd rfl (Or.inl rfl) (pv 4))) pss_nil)
      (pss_one (ps_ret (pe_tup (pa_cons (pe_call GC hr (by rfl) gC FC.kp bC .nil pass0 (pa_cons (pv 0) (pa_cons (pe_callB call_len_seq (by rfl) T.len PySem.boot_len (pa_cons (pv 2) pa_nil)) pa_nil)))
            (pa_cons (pe_callTy call_tuple_of (by rfl) T.tup (by decide +kernel) (pa_cons (pv 2) pa_nil)) pa_nil)))))))), ?_⟩
    have okx : ∀ x ∈ xs, PyData.strOk x = true := fun x mx => (nm x mx).ok
    obtain ⟨vb, vg⟩ := B.apart hv x1
    have sub : ∀ {ys zs : List Str}, (ys ++ zs).Perm xs → ys.length ≤ 8 ∧ (∀ y ∈ ys, y ∈ xs) ∧ (xs.Nodup → ys.Nodup) := fun {ys zs} pm => by
      have e := pm.length_eq
      rw [List.length_append] at e
      exact ⟨by omega, fun y my => pm.mem_iff.mp (List.mem_append_left _ my), fun nd => (List.nodup_append.mp (pm.nodup_iff.mpr nd)).1⟩
    -- parts = _law_some(..)
    refine ⟨.ref b, rfl, .ref vp, rfl, b, g, m, vp, n, xs, rfl, B, by omega, SqL.of hv, x1, by omega, fun l ys zs H1 nl h1 y1 pm B1 K1 => ?_⟩
    obtain ⟨lb, lg, lm⟩ := B.ne nl
    obtain ⟨y8, ysub, _⟩ := sub pm
    -- how often
    refine ⟨by show 5 ≤ sizeLine; decide, fun l5 n5 => ?_⟩
    obtain ⟨l5b, l5g, l5m⟩ := B1.ne n5
    refine ⟨.ref b, rfl, b, g, m, _, 5, rfl, B1.same (same_new n5), by omega, by decide, by decide, fun v0 H2 a0 a1 B2 K2 => ?_⟩
    obtain ⟨cnt, at5, c0, c4⟩ := five a0 a1
    have K12 : Keep b g H1 H2 := (Same.keep (same_new n5)).trans K2
    refine ⟨l5, _, v0, .int cnt, rfl, rfl, SqL.of (K2 _ _ upd_same l5b l5g), at5, cnt, rfl, by omega, by omega, for_range (lo := 0) (n := cnt.toNat) (fun i σ H3 => ∃ (us : List V) (ps : List Part) (y3 y4 y5 : Option V), σ = [some (.ref b), some (.ref vp), some (.ref l), y3, y4, y5] ∧
      Box H3 b g m (n + 10 + 14 * i) ∧ Keep b g H H3 ∧ H3 l = some (.lst us) ∧ Parts H3 us ps ∧ Fine xs (8 + i) (8 + 8 * i) ps ∧ 1 ≤ ps.length) ?_ ?_ ?_⟩
    · refine ⟨ys.map V.str, ys.map Sum.inl, none, none, none, rfl, B2.more (by omega), K1.trans K12, K12 _ _ h1 lb lg, Parts.names ys, ⟨fun p mp => ?_, ?_, ?_⟩, by rw [List.length_map]; exact y1⟩
      · obtain ⟨y, my, rfl⟩ := List.mem_map.mp mp
        exact ysub y my
      · rw [List.length_map]
        omega
      · rw [namesOf_names]
        omega
    · rintro i σ H3 hi ⟨us, ps, y3, y4, y5, rfl, B3, K3, h3, PS, fine, one⟩
      have i4 : i < 4 := by omega
      have hv3 := K3 _ _ hv vb vg
      -- inner = _law_some(..)[:..]
      refine ⟨.ref b, rfl, .ref vp, rfl, b, g, m, vp, _, xs, rfl, B3, by omega, SqL.of hv3, x1, by omega, fun l2 ys2 zs2 H4 nl2 h4 y21 pm2 B4 K4 => ?_⟩
      obtain ⟨y28, y2sub, y2nd⟩ := sub pm2
      obtain ⟨l2b, l2g, l2m⟩ := B3.ne nl2
      refine ⟨.ref b, rfl, b, g, m, _, 4, rfl, B4, by omega, by decide, by decide, fun v1 H5 e0 e1 B5 K5 => ?_⟩
      refine ⟨_, _, rfl, rfl, 1 + v1, rfl, l2, _, rfl, SqL.of (K5 _ _ h4 l2b l2g), fun l3 nl3 => ?_⟩
      rw [cut_to ys2 (by omega)]
      have is1 : 1 ≤ (ys2.take (1 + v1).toNat).length := by
        rw [List.length_take]
        omega
      have is8 : (ys2.take (1 + v1).toNat).length ≤ 8 := by
        rw [List.length_take]
        omega
      have isub : ∀ y ∈ ys2.take (1 + v1).toNat, y ∈ xs := fun y my => y2sub y (List.mem_of_mem_take my)
      have isnd : xs.Nodup → (ys2.take (1 + v1).toNat).Nodup := fun nd => (y2nd nd).sublist (List.take_sublist _ _)
      generalize ys2.take (1 + v1).toNat = is at is1 is8 isub isnd
      obtain ⟨l3b, l3g, l3m⟩ := B5.ne nl3
      have il : (is.map V.str).length = is.length := List.length_map _
      -- part = (.., tuple(inner))
      refine ⟨.ref b, rfl, .ref l3, rfl, l3, _, rfl, .inl (SqL.of upd_same), b, g, m, _, _, rfl, B5.same (same_new nl3), by omega, by omega, by omega, fun c' H7 d0 d1 B7 K7 => ?_⟩
      have h7 : H7 l3 = some (.lst (is.map V.str)) := K7 _ _ upd_same l3b l3g
      refine ⟨.ref l3, rfl, l3, _, rfl, .inl ⟨SqL.of h7, fun t1 nt1 => ⟨by show 2 ≤ sizeLine; decide, fun t2 nt2 => ?_⟩⟩⟩
      have K37 : Keep b g H3 H7 := ((K4.trans K5).trans (Same.keep (same_new nl3))).trans K7
      have s9 : Same H7 (upd (upd H7 t1 (.tup (is.map V.str))) t2 (.tup [.int c', .ref t1])) := (same_new nt1).trans (same_new nt2)
      have t12 : t1 ≠ t2 := ne_of_none (upd_same (H := H7) (o := .tup (is.map V.str))) nt2
      have pt : PartAt (upd (upd H7 t1 (.tup (is.map V.str))) t2 (.tup [.int c', .ref t1])) (.ref t2) (.inr (c', is)) := ⟨t2, t1, rfl, upd_same, by rw [upd_ne t12, upd_same]⟩
      generalize upd (upd H7 t1 (.tup (is.map V.str))) t2 (.tup [.int c', .ref t1]) = H9 at s9 pt ⊢
      have K39 : Keep b g H3 H9 := K37.trans (Same.keep s9)
      have tup39 : Tups H3 H9 := K39.tups B3
      have h9 : H9 l = some (.lst us) := K39 _ _ h3 lb lg
      have PS9 := PS.tups tup39
      have B9 : Box H9 b g m (n + 10 + 14 * i + 13) := (B7.same s9).more (by omega)
      have good : Good xs (.inr (c', is)) := ⟨is1, is8, d0, by omega, isnd, isub⟩
      have goods : ∀ p ∈ ps ++ [Sum.inr (c', is)], Good xs p := fun p mp => by
        rcases List.mem_append.mp mp with mp | mp
        · exact fine.all p mp
        · rw [List.mem_singleton.mp mp]
          exact good
      have ulen := PS.length
      have pl := fine.len
      have room : us.length < sizeLine := small1000 (by omega)
      have skip : ∀ H', Same H9 H' → ∃ (us : List V) (ps : List Part) (y3' y4 y5 : Option V), [some (.ref b), some (.ref vp), some (.ref l), some (.int (0 + i)), some (.ref l3), some (.ref t2)] = [some (.ref b), some (.ref vp), some (.ref l), y3', y4, y5] ∧
          Box H' b g m (n + 10 + 14 * (i + 1)) ∧ Keep b g H H' ∧ H' l = some (.lst us) ∧ Parts H' us ps ∧ Fine xs (8 + (i + 1)) (8 + 8 * (i + 1)) ps ∧ 1 ≤ ps.length := fun H' s' =>
        ⟨us, ps, _, _, _, rfl, (B9.same s').more (by omega), (K3.trans K39).trans (Same.keep s'), s' _ _ h9, PS9.tups (Same.tups s'), ⟨fine.all, by have := fine.len; omega, by have := fine.nam; omega⟩, one⟩
      refine ⟨.ref t2, rfl, .ref l, rfl, _, _, pt.dp, .lst (SqL.of h9) PS9.dp, shaped_part okx good, shaped_parts okx fine.all, _, rfl, ite2 (fun _ => ?_) (fun _ => skip H9 (Same.refl _))⟩
      refine ⟨.ref l, rfl, .ref t2, rfl, by show 1 ≤ sizeLine; decide, fun l7 nl7 => ⟨l, l7, us, [.ref t2], rfl, rfl, same_new nl7 _ _ h9, upd_same, ?_, fun l8 nl8 => ?_⟩⟩
      · show us.length + 1 ≤ sizeLine
        omega
      have s8 := (same_new (o := .lst [.ref t2]) nl7).trans (same_new (o := .lst (us ++ [.ref t2])) nl8)
      refine ⟨l8, _, ps ++ [Sum.inr (c', is)], rfl, upd_same, (PS9.append (.cons pt .nil)).tups (Same.tups s8), ?_, fun v H10 s10 => ?_⟩
      · rw [List.length_append]
        show ps.length + 1 ≤ 900
        omega
      have s910 := s8.trans s10
      refine ⟨_, _, rfl, rfl, _, rfl, ite2 (fun _ => ?_) (fun _ => skip H10 s910)⟩
      -- parts.insert(.., part)
      have h10 := s910 _ _ h9
      refine ⟨.ref l, rfl, .inl ⟨rfl, _, SqL.of h10⟩, .ref b, rfl, .ref l, rfl, l, _, rfl, .inl (SqL.of h10), _, _, rfl, rfl, b, g, m, _, _, rfl, B9.same s910, by omega, by omega, by omega, fun v2 H11 f0 f1 B11 K11 => ?_⟩
      have h11 := K11 _ _ h10 lb lg
      have tup11 : Tups H9 H11 := (Same.tups s910).trans (K11.tups (B9.same s910))
      have PS11 := PS9.tups tup11
      have pt11 := pt.tups tup11
      have cutp := PS11.cut v2.toNat
      have whole : ps.take v2.toNat ++ ps.drop v2.toNat = ps := List.take_append_drop _ _
      have namesN : (namesOf (ps.take v2.toNat ++ [Sum.inr (c', is)] ++ ps.drop v2.toNat)).length = (namesOf ps).length + is.length := by
        have e := congrArg (fun q => (namesOf q).length) whole
        rw [namesOf_append, List.length_append] at e
        rw [namesOf_append, namesOf_append, List.length_append, List.length_append, show namesOf [(Sum.inr (c', is) : Part)] = is from List.append_nil is]
        omega
      have lensN : (ps.take v2.toNat ++ [Sum.inr (c', is)] ++ ps.drop v2.toNat).length = ps.length + 1 := by
        have e := congrArg List.length whole
        rw [List.length_append] at e
        rw [List.length_append, List.length_append, List.length_singleton]
        omega
      refine ⟨.ref t2, rfl, l, us, v2, .ref t2, rfl, rfl, h11, room, f0, by omega, us.take v2.toNat ++ [.ref t2] ++ us.drop v2.toNat, ps.take v2.toNat ++ [Sum.inr (c', is)] ++ ps.drop v2.toNat, _, _, _, rfl, (B11.store lb lg lm).more (by omega), ?_, upd_same, ?_, ⟨?_, ?_, ?_⟩, ?_⟩
      · intro d o e n1 n2
        rw [upd_ne (ne_of_none e nl)]
        exact K11 _ _ (s910 _ _ (K39 _ _ (K3 _ _ e n1 n2) n1 n2)) n1 n2
      · exact ((cutp.1.append (.cons pt11 .nil)).append cutp.2).tups (tups_store h11)
      · intro p mp
        rcases List.mem_append.mp mp with mp | mp
        · rcases List.mem_append.mp mp with mp | mp
          · exact fine.all p (List.mem_of_mem_take mp)
          · rw [List.mem_singleton.mp mp]
            exact good
        · exact fine.all p (List.mem_of_mem_drop mp)
      · rw [lensN]
        omega
      · rw [namesN]
        have := fine.nam
        omega
      · rw [lensN]
        omega
    · rintro σ H3 ⟨us, ps, y3, y4, y5, rfl, B3, K3, h3, PS, fine, one⟩
      have cn : cnt.toNat ≤ 4 := by omega
      refine ⟨.ref l, rfl, l, rfl, ⟨_, SqL.of h3⟩, fun D nD => lc_list (K := K) (a := l) (xs := us) (fun i H4 => Same H3 H4 ∧ ∃ (vs : List V) (qs : List Part), H4 D = some (.lst vs) ∧ Parts H4 vs qs ∧ (∀ p ∈ qs, Good xs p) ∧ qs.length ≤ i ∧ (namesOf qs).length ≤ (namesOf (ps.take i)).length) ?_ (fun i H4 _ h => SqL.of (h.1 _ _ h3)) ?_ ?_⟩
      · exact ⟨same_new nD, [], [], upd_same, .nil, fun p mp => by simp at mp, Nat.le_refl _, Nat.le_refl _⟩
      · rintro i x H4 hx ⟨s4, vs, qs, hD, QS, gq, ql, qn⟩
        have lt := (List.getElem?_eq_some_iff.mp hx).1
        rw [PS.length] at lt
        have pl := fine.len
        obtain ⟨p, hp, pa⟩ := PS.at hx
        have pa4 := pa.tups (Same.tups s4)
        obtain ⟨ty, ty1, ty2⟩ := isi_part (K := K) pa4
        have nt := namesOf_take hp
        have ntl := congrArg List.length nt
        rw [List.length_append] at ntl
        refine ⟨rfl, x, rfl, _, _, ty, .type "str", _, rfl, .ty _, ty1, ty2, _, rfl, ?_⟩
        cases p with
        | inl z => exact iteF ⟨s4, vs, qs, hD, QS, gq, by omega, by omega⟩
        | inr y =>
          refine iteT ⟨x, rfl, vs, hD, ?_, fun d o e => ?_, vs ++ [x], qs ++ [Sum.inr y], upd_same, ?_, ?_, ?_, ?_⟩
          · rw [QS.length]
            exact small1000 (by omega)
          · rw [upd_ne (ne_of_none e nD)]
            exact s4 d o e
          · exact (QS.append (.cons pa4 .nil)).tups (tups_store hD)
          · intro p mp
            rcases List.mem_append.mp mp with mp | mp
            · exact gq p mp
            · rw [List.mem_singleton.mp mp]
              exact fine.all _ (List.mem_of_getElem? hp)
          · rw [List.length_append]
            exact Nat.succ_le_succ ql
          · rw [namesOf_append, List.length_append]
            omega
      · rintro H4 ⟨s4, vs, qs, hD, QS, gq, ql, qn⟩
        rw [PS.length] at ql qn
        rw [List.take_length] at qn
        have fl := fine.len
        have fnm := fine.nam
        have h4 := s4 _ _ h3
        have K4 : Keep b g H H4 := K3.trans (Same.keep s4)
        have B4 : Box H4 b g m (n + 66) := (B3.same s4).more (by omega)
        obtain ⟨Db, Dg, Dm⟩ := B3.ne nD
        refine ⟨fun σ H5 => ∃ (l' : Addr) (us' : List V) (ps' : List Part) (z3 z4 z5 : Option V), σ = [some (.ref b), some (.ref vp), some (.ref l'), z3, z4, z5] ∧ l' ≠ b ∧ l' ≠ g ∧ Box H5 b g m (n + 67) ∧ Keep b g H H5 ∧ H5 l' = some (.lst us') ∧ Parts H5 us' ps' ∧ Fine xs 12 40 ps' ∧ 1 ≤ ps'.length, ?_, ?_⟩
        · have stay : ∀ H5, Keep b g H4 H5 → Box H5 b g m (n + 67) → ∃ (l' : Addr) (us' : List V) (ps' : List Part) (z3 z4 z5 : Option V), [some (.ref b), some (.ref vp), some (.ref l), y3, some (.ref D), y5] = [some (.ref b), some (.ref vp), some (.ref l'), z3, z4, z5] ∧ l' ≠ b ∧ l' ≠ g ∧ Box H5 b g m (n + 67) ∧ Keep b g H H5 ∧ H5 l' = some (.lst us') ∧ Parts H5 us' ps' ∧ Fine xs 12 40 ps' ∧ 1 ≤ ps'.length := fun H5 K5 B5 =>
            ⟨l, us, ps, _, _, _, rfl, lb, lg, B5, K4.trans K5, K5 _ _ h4 lb lg, (PS.tups (Same.tups s4)).tups (K5.tups B4), ⟨fine.all, by omega, by omega⟩, one⟩
          refine ⟨.ref D, rfl, D, _, rfl, .inl (SqL.of hD), _, _, rfl, rfl, _, rfl, ite2 (fun e => ?_) (fun _ => stay H4 (Keep.refl _ _ _) (B4.more (by omega)))⟩
          have pos := of_decide_eq_true e
          rw [QS.length] at pos
          refine ⟨.ref b, rfl, b, g, m, _, 4, rfl, B4, by omega, by decide, by decide, fun v H5 a0 a1 B5 K5 => ⟨rfl, _, rfl, ite2 (fun _ => ?_) (fun _ => stay H5 K5 B5)⟩⟩
          exact ⟨.ref D, rfl, D, vs, qs, _, _, _, rfl, Db, Dg, B5, K4.trans K5, K5 _ _ hD Db Dg, QS.tups (K5.tups B4), ⟨gq, by omega, by omega⟩, by omega⟩
        · rintro σ H5 ⟨l', us', ps', z3, z4, z5, rfl, l'b, l'g, B5, K5, h5, PS', fine', one'⟩
          have ul := PS'.length
          have fl' := fine'.len
          refine ⟨.ref b, rfl, .ref l', rfl, l', _, rfl, .inl (SqL.of h5), b, g, m, _, _, rfl, B5, by omega, by omega, by omega, fun c H6 e1 e2 B6 K6 => ?_⟩
          refine ⟨.ref l', rfl, l', _, rfl, .inl ⟨SqL.of (K6 _ _ h5 l'b l'g), fun t1 nt1 => ⟨by show 2 ≤ sizeLine; decide, fun t2 nt2 => ?_⟩⟩⟩
          have s8 := (same_new (o := .tup us') nt1).trans (same_new (o := .tup [.int c, .ref t1]) nt2)
          have t12 : t1 ≠ t2 := ne_of_none (upd_same (H := H6) (o := .tup us')) nt2
          refine q t2 c ps' _ ⟨t1, us', upd_same, by rw [upd_ne t12, upd_same], (PS'.tups (K6.tups B5)).tups (Same.tups s8)⟩ fine' e1 (by omega) ((B6.same s8).more (by omega)) ((K5.trans K6).trans (Same.keep s8))
end
end Moot
set_option linter.all false
namespace Moot
open PySem PySem.Spec PyProof.Rows L2
/-! duals -/
def dualP : Part → Part
  | .inl x => .inl x
  | .inr (c, ns) => .inr (ns.length - c + 1, ns)
def dualN (c : Int) (ps : List Part) : Int := ps.length - c + 1
theorem names_dual : ∀ ps : List Part, namesOf (ps.map dualP) = namesOf ps
  | [] => rfl
  | .inl x :: ps => by
    show x :: namesOf (ps.map dualP) = x :: namesOf ps
    rw [names_dual ps]
  | .inr (c, ns) :: ps => by
    show ns ++ namesOf (ps.map dualP) = ns ++ namesOf ps
    rw [names_dual ps]
theorem count_split {α : Type} (p q : α → Bool) : ∀ {l : List α}, (∀ x ∈ l, p x = !q x) → l.countP p + l.countP q = l.length
  | [], _ => rfl
  | x :: l, h => by
    have ih := count_split p q fun y m => h y (List.mem_cons_of_mem x m)
    have e := h x List.mem_cons_self
    rw [List.countP_cons, List.countP_cons, List.length_cons, e]
    cases q x <;> simp <;> omega
theorem satP_dual {T C : List Str} {p : Part} (h : ∀ x ∈ namesOf [p], x ∈ T ↔ x ∉ C) : satP T (dualP p) = !satP C p := by
  cases p with
  | inl x =>
    have := h x List.mem_cons_self
    show decide (x ∈ T) = !decide (x ∈ C)
    by_cases c : x ∈ C <;> simp [c, this]
  | inr y =>
    obtain ⟨c, ns⟩ := y
    have h' : ∀ x ∈ ns, decide (x ∈ T) = !decide (x ∈ C) := fun x m => by
      have := h x (by show x ∈ ns ++ []; rw [List.append_nil]; exact m)
      by_cases c : x ∈ C <;> simp [c, this]
    have e := count_split (fun x => decide (x ∈ T)) (fun x => decide (x ∈ C)) h'
    show decide ((ns.length : Int) - c + 1 ≤ ((ns.countP fun x => decide (x ∈ T) : Nat) : Int)) = !decide (c ≤ ((ns.countP fun x => decide (x ∈ C) : Nat) : Int))
    rw [← decide_not, decide_eq_decide]
    omega
theorem mem_names {ps : List Part} {p : Part} (m : p ∈ ps) {x : Str} (h : x ∈ namesOf [p]) : x ∈ namesOf ps := by
  obtain ⟨a, b, rfl⟩ := List.append_of_mem m
  rw [namesOf_append, show p :: b = [p] ++ b from rfl, namesOf_append]
  exact List.mem_append_right _ (List.mem_append_left _ h)
theorem sat_dual {T C : List Str} {c : Int} {ps : List Part} (h : ∀ x ∈ namesOf ps, x ∈ T ↔ x ∉ C) : sat T (dualN c ps) (ps.map dualP) = !sat C c ps := by
  have e := count_split (fun p => satP T (dualP p)) (satP C) (l := ps) fun p m => satP_dual fun x mx => h x (mem_names m mx)
  unfold sat dualN
  rw [List.countP_map]
  show decide ((ps.length : Int) - c + 1 ≤ ((ps.countP (fun p => satP T (dualP p)) : Nat) : Int)) = _
  rw [← decide_not, decide_eq_decide]
  omega
theorem mem_outs {S : List Str} {ps : List Part} {x : Str} : x ∈ outs S ps ↔ x ∈ namesOf ps ∧ x ∉ S := by
  unfold outs
  rw [List.mem_filter, decide_eq_true_eq]
theorem outs_dual (S : List Str) (ps : List Part) : outs S (ps.map dualP) = outs S ps := by
  unfold outs
  rw [names_dual]
theorem blk_dual (S : List Str) (c : Int) (ps : List Part) : blk S (dualN c ps) (ps.map dualP) = sat S c ps := by
  unfold blk
  rw [outs_dual, sat_dual (C := S) fun x m => by rw [mem_outs]; exact ⟨fun h => h.2, fun h => ⟨m, h⟩⟩, Bool.not_not]
theorem sat_as_blk (S : List Str) (c : Int) (ps : List Part) : sat S (dualN c ps) (ps.map dualP) = blk S c ps := by
  unfold blk
  exact sat_dual fun x m => by
    rw [mem_outs]
    exact ⟨fun h z => z.2 h, fun h => Classical.byContradiction fun n => h ⟨m, n⟩⟩
/-! larger sets -/
theorem satP_mono {S S' : List Str} {p : Part} (h : ∀ x ∈ namesOf [p], x ∈ S → x ∈ S') (k : satP S p = true) : satP S' p = true := by
  cases p with
  | inl x => exact decide_eq_true (h x List.mem_cons_self (of_decide_eq_true k))
  | inr y =>
    obtain ⟨c, ns⟩ := y
    have k' := of_decide_eq_true k
    have le : ns.countP (fun x => decide (x ∈ S)) ≤ ns.countP (fun x => decide (x ∈ S')) := List.countP_mono_left fun x m e =>
      decide_eq_true (h x (by show x ∈ ns ++ []; rw [List.append_nil]; exact m) (of_decide_eq_true e))
    exact decide_eq_true (by omega)
theorem sat_mono {S S' : List Str} {c : Int} {ps : List Part} (h : ∀ x ∈ namesOf ps, x ∈ S → x ∈ S') (k : sat S c ps = true) : sat S' c ps = true := by
  have k' := of_decide_eq_true k
  have le : ps.countP (satP S) ≤ ps.countP (satP S') := List.countP_mono_left fun p m e => satP_mono (fun x mx => h x (mem_names m mx)) e
  exact decide_eq_true (by omega)
theorem blk_mono {S S' : List Str} {c : Int} {ps : List Part} (h : ∀ x ∈ namesOf ps, x ∈ S → x ∈ S') (k : blk S c ps = true) : blk S' c ps = true := by
  unfold blk at k ⊢
  cases e : sat (outs S' ps) c ps with
  | false => rfl
  | true =>
    rw [sat_mono (fun x mx hx => mem_outs.mpr ⟨mx, fun z => (mem_outs.mp hx).2 (h x mx z)⟩) e] at k
    cases k
/-- nobody, and all -/
theorem sat_none {xs : List Str} {c : Int} {ps : List Part} (c1 : 1 ≤ c) (g : ∀ p ∈ ps, Good xs p) : sat [] c ps = false := by
  have e : ps.countP (satP []) = 0 := by
    rw [List.countP_eq_zero]
    intro p m k
    cases p with
    | inl x => exact absurd (of_decide_eq_true (show decide (x ∈ ([] : List Str)) = true from k)) (by simp)
    | inr y =>
      obtain ⟨c', ns⟩ := y
      have k' := of_decide_eq_true k
      have := (g _ m).2.2.1
      have z : ns.countP (fun x => decide (x ∈ ([] : List Str))) = 0 := by simp
      omega
  unfold sat
  rw [e]
  exact decide_eq_false (by omega)
theorem blk_none {xs : List Str} {c : Int} {ps : List Part} (c2 : c ≤ ps.length) (g : ∀ p ∈ ps, Good xs p) : blk [] c ps = false := by
  have all : ∀ x ∈ namesOf ps, x ∈ outs [] ps := fun x m => mem_outs.mpr ⟨m, by simp⟩
  have e : ps.countP (satP (outs [] ps)) = ps.length := by
    rw [List.countP_eq_length]
    intro p m
    cases p with
    | inl x => exact decide_eq_true (all x (mem_names m List.mem_cons_self))
    | inr y =>
      obtain ⟨c', ns⟩ := y
      have z : ns.countP (fun x => decide (x ∈ outs [] ps)) = ns.length := by
        rw [List.countP_eq_length]
        intro x mx
        exact decide_eq_true (all x (mem_names m (by show x ∈ ns ++ []; rw [List.append_nil]; exact mx)))
      have := (g _ m).2.2.2.1
      exact decide_eq_true (by omega)
  unfold blk sat
  rw [e, decide_eq_true (by omega)]
  rfl
/-! all sets of names, and the minimal ones -/
def subStep (acc : List (List Str)) (x : Str) : List (List Str) := acc ++ acc.map (· ++ [x])
def subs (ns : List Str) : List (List Str) := ns.foldl subStep [[]]
theorem subs_snoc (ns : List Str) (x : Str) : subs (ns ++ [x]) = subStep (subs ns) x := by
  unfold subs
  rw [List.foldl_append]
  rfl
theorem subs_take {ns : List Str} {i : Nat} {x : Str} (h : ns[i]? = some x) : subs (ns.take (i + 1)) = subStep (subs (ns.take i)) x := by
  rw [List.take_add_one, h]
  exact subs_snoc _ _
theorem subs_len (ns : List Str) : (subs ns).length = 2 ^ ns.length := by
  have : ∀ n, ∀ ns : List Str, ns.length = n → (subs ns).length = 2 ^ n := by
    intro n
    induction n with
    | zero =>
      intro ns e
      rw [List.eq_nil_of_length_eq_zero e]
      rfl
    | succ n ih =>
      intro ns e
      have ne : ns ≠ [] := fun z => by rw [z] at e; cases e
      obtain ⟨a, x, rfl⟩ : ∃ a x, ns = a ++ [x] := ⟨_, _, (List.dropLast_concat_getLast ne).symm⟩
      rw [List.length_append, List.length_singleton] at e
      rw [subs_snoc, subStep, List.length_append, List.length_map, ih a (by omega), Nat.pow_succ]
      omega
  exact this _ ns rfl
theorem subs_filter (p : Str → Bool) (ns : List Str) : ns.filter p ∈ subs ns := by
  have : ∀ n, ∀ ns : List Str, ns.length = n → ns.filter p ∈ subs ns := by
    intro n
    induction n with
    | zero =>
      intro ns e
      rw [List.eq_nil_of_length_eq_zero e]
      exact List.mem_cons_self
    | succ n ih =>
      intro ns e
      have ne : ns ≠ [] := fun z => by rw [z] at e; cases e
      obtain ⟨a, x, rfl⟩ : ∃ a x, ns = a ++ [x] := ⟨_, _, (List.dropLast_concat_getLast ne).symm⟩
      rw [List.length_append, List.length_singleton] at e
      have k := ih a (by omega)
      rw [subs_snoc, List.filter_append]
      cases hx : p x with
      | true =>
        rw [List.filter_cons_of_pos hx]
        exact List.mem_append_right _ (List.mem_map.mpr ⟨_, k, rfl⟩)
      | false =>
        rw [List.filter_cons_of_neg (by rw [hx]; exact Bool.false_ne_true)]
        show _ ++ [] ∈ _
        rw [List.append_nil]
        exact List.mem_append_left _ k
  exact this _ ns rfl
theorem subs_in {ns s : List Str} (h : s ∈ subs ns) : ∀ x ∈ s, x ∈ ns := by
  have : ∀ n, ∀ ns : List Str, ns.length = n → ∀ s ∈ subs ns, ∀ x ∈ s, x ∈ ns := by
    intro n
    induction n with
    | zero =>
      intro ns e s hs x hx
      rw [List.eq_nil_of_length_eq_zero e] at hs
      rw [List.mem_singleton.mp hs] at hx
      simp at hx
    | succ n ih =>
      intro ns e s hs x hx
      have ne : ns ≠ [] := fun z => by rw [z] at e; cases e
      obtain ⟨a, y, rfl⟩ : ∃ a y, ns = a ++ [y] := ⟨_, _, (List.dropLast_concat_getLast ne).symm⟩
      rw [List.length_append, List.length_singleton] at e
      rw [subs_snoc] at hs
      rcases List.mem_append.mp hs with hs | hs
      · exact List.mem_append_left _ (ih a (by omega) s hs x hx)
      · obtain ⟨t, ht, rfl⟩ := List.mem_map.mp hs
        rcases List.mem_append.mp hx with hx | hx
        · exact List.mem_append_left _ (ih a (by omega) t ht x hx)
        · exact List.mem_append_right _ hx
  exact this _ ns rfl s h
def minStep (kept : List (List Str)) (s : List Str) : List (List Str) := if (kept.any fun m => m.all fun x => decide (x ∈ s)) = true then kept else kept ++ [s]
def mins (l : List (List Str)) : List (List Str) := l.foldl minStep []
theorem mins_take {l : List (List Str)} {i : Nat} {s : List Str} (h : l[i]? = some s) : mins (l.take (i + 1)) = minStep (mins (l.take i)) s := by
  rw [List.take_add_one, h]
  unfold mins
  show List.foldl minStep [] (l.take i ++ [s]) = _
  rw [List.foldl_append]
  rfl
theorem mins_mem : ∀ {l : List (List Str)} {kept : List (List Str)} {m : List Str}, m ∈ l.foldl minStep kept → m ∈ kept ∨ m ∈ l
  | [], _, _, h => .inl h
  | s :: l, kept, m, h => by
    rcases mins_mem (l := l) h with k | k
    · unfold minStep at k
      split at k
      · exact .inl k
      · rcases List.mem_append.mp k with k | k
        · exact .inl k
        · exact .inr (by rw [List.mem_singleton.mp k]; exact List.mem_cons_self)
    · exact .inr (List.mem_cons_of_mem _ k)
theorem mins_keep : ∀ {l : List (List Str)} {kept : List (List Str)} {m : List Str}, m ∈ kept → m ∈ l.foldl minStep kept
  | [], _, _, h => h
  | s :: l, kept, m, h => mins_keep (l := l) (by
    unfold minStep
    split
    · exact h
    · exact List.mem_append_left _ h)
theorem mins_below : ∀ {l : List (List Str)} {kept : List (List Str)} {s : List Str}, s ∈ l → ∃ m ∈ l.foldl minStep kept, ∀ x ∈ m, x ∈ s
  | t :: l, kept, s, h => by
    rcases List.mem_cons.mp h with e | h
    · subst e
      by_cases c : (kept.any fun m => m.all fun x => decide (x ∈ s)) = true
      · obtain ⟨m, hm, k⟩ := List.any_eq_true.mp c
        refine ⟨m, mins_keep (l := s :: l) hm, fun x mx => of_decide_eq_true (List.all_eq_true.mp k x mx)⟩
      · refine ⟨s, mins_keep (l := l) ?_, fun x mx => mx⟩
        unfold minStep
        rw [if_neg c]
        exact List.mem_append_right _ List.mem_cons_self
    · exact mins_below (l := l) h
theorem mins_len : ∀ (l kept : List (List Str)), (l.foldl minStep kept).length ≤ kept.length + l.length
  | [], _ => Nat.le_refl _
  | s :: l, kept => by
    have h := mins_len l (minStep kept s)
    have k : (minStep kept s).length ≤ kept.length + 1 := by
      unfold minStep
      split
      · omega
      · rw [List.length_append]
        exact Nat.le_refl _
    show (l.foldl minStep (minStep kept s)).length ≤ kept.length + (l.length + 1)
    omega
/-- in the program's order -/
def keyD (ns : List Str) : PyData := .tuple [.int ns.length, .tuple (ns.map PyData.str)]
def srt (l : List (List Str)) : List (List Str) := l.mergeSort (PySem.W.dataLe false keyD)
theorem srt_mem {l : List (List Str)} {s : List Str} : s ∈ srt l ↔ s ∈ l := (List.mergeSort_perm l _).mem_iff
theorem srt_len (l : List (List Str)) : (srt l).length = l.length := (List.mergeSort_perm l _).length_eq
theorem srt_map (ps : List Nset) : (ps.mergeSort ordLe).map (·.2) = srt (ps.map (·.2)) := List.map_mergeSort fun a _ b _ => rfl
def least (ns : List Str) (c : Int) (ps : List Part) : List (List Str) := mins ((srt (subs ns)).filter fun s => sat s c ps)
def blocking (ns : List Str) (c : Int) (ps : List Part) : List (List Str) := mins ((srt (subs ns)).filter fun s => blk s c ps)
theorem least_dual (ns : List Str) (c : Int) (ps : List Part) : blocking ns (dualN c ps) (ps.map dualP) = least ns c ps := by
  unfold blocking least
  rw [show (fun s => blk s (dualN c ps) (ps.map dualP)) = fun s => sat s c ps from funext fun s => blk_dual s c ps]
theorem blocking_dual (ns : List Str) (c : Int) (ps : List Part) : least ns (dualN c ps) (ps.map dualP) = blocking ns c ps := by
  unfold blocking least
  rw [show (fun s => sat s (dualN c ps) (ps.map dualP)) = fun s => blk s c ps from funext fun s => sat_as_blk s c ps]
def holds (s : List Str) (sets : List (List Str)) : Bool := sets.any fun m => m.all fun x => decide (x ∈ s)
def met (s : List Str) (sets : List (List Str)) : Bool := sets.all fun m => m.any fun x => decide (x ∈ s)
section
variable {ns : List Str} {c : Int} {ps : List Part} (hn : ∀ x, x ∈ ns ↔ x ∈ namesOf ps)
include hn
theorem holds_iff {s : List Str} (hs : s ∈ subs ns) : holds s (least ns c ps) = sat s c ps := by
  rw [Bool.eq_iff_iff]
  constructor
  · intro h
    obtain ⟨m, mm, k⟩ := List.any_eq_true.mp h
    rcases mins_mem mm with z | z
    · simp at z
    · exact sat_mono (fun x _ mx => of_decide_eq_true (List.all_eq_true.mp k x mx)) (List.mem_filter.mp z).2
  · intro h
    obtain ⟨m, mm, k⟩ := mins_below (kept := []) (l := (srt (subs ns)).filter fun s => sat s c ps) (List.mem_filter.mpr ⟨srt_mem.mpr hs, h⟩)
    exact List.any_eq_true.mpr ⟨m, mm, List.all_eq_true.mpr fun x mx => decide_eq_true (k x mx)⟩
/-- s's other names -/
theorem rest_sub (s : List Str) : (ns.filter fun x => decide (x ∉ s)) ∈ subs ns := subs_filter _ ns
theorem sat_rest (s : List Str) : sat (ns.filter fun x => decide (x ∉ s)) c ps = sat (outs s ps) c ps := sat_same fun x mx => by
  rw [List.mem_filter, mem_outs, hn x, decide_eq_true_eq]
theorem met_least {s : List Str} (hs : s ∈ subs ns) : met s (least ns c ps) = blk s c ps := by
  rw [Bool.eq_iff_iff]
  constructor
  · intro h
    unfold blk
    cases e : sat (outs s ps) c ps with
    | false => rfl
    | true =>
      rw [← sat_rest hn] at e
      obtain ⟨m, mm, k⟩ := mins_below (kept := []) (l := (srt (subs ns)).filter fun s => sat s c ps) (List.mem_filter.mpr ⟨srt_mem.mpr (rest_sub hn s), e⟩)
      obtain ⟨x, mx, kx⟩ := List.any_eq_true.mp (List.all_eq_true.mp h m mm)
      have := List.mem_filter.mp (k x mx)
      exact absurd (of_decide_eq_true kx) (of_decide_eq_true this.2)
  · intro h
    refine List.all_eq_true.mpr fun m mm => ?_
    rcases mins_mem mm with z | z
    · simp at z
    · obtain ⟨z1, z2⟩ := List.mem_filter.mp z
      have inn := subs_in (srt_mem.mp z1)
      cases e : m.any fun x => decide (x ∈ s) with
      | true => rfl
      | false =>
        exfalso
        have out : ∀ x ∈ m, x ∉ s := fun x mx k => by
          have := List.any_eq_false.mp e x mx
          exact this (decide_eq_true k)
        have : sat (outs s ps) c ps = true := sat_mono (fun x mn mx => mem_outs.mpr ⟨mn, out x mx⟩) z2
        unfold blk at h
        rw [this] at h
        cases h
theorem met_blocking {s : List Str} (hs : s ∈ subs ns) : met s (blocking ns c ps) = sat s c ps := by
  have inS := subs_in hs
  rw [Bool.eq_iff_iff]
  constructor
  · intro h
    cases e : sat s c ps with
    | true => rfl
    | false =>
      exfalso
      have b : blk (ns.filter fun x => decide (x ∉ s)) c ps = true := by
        unfold blk
        have : sat (outs (ns.filter fun x => decide (x ∉ s)) ps) c ps = sat s c ps := sat_same fun x mx => by
          rw [mem_outs, List.mem_filter, decide_eq_true_eq, hn x]
          exact ⟨fun k => Classical.byContradiction fun n => k.2 ⟨mx, n⟩, fun k => ⟨mx, fun z => z.2 k⟩⟩
        rw [this, e]
        rfl
      obtain ⟨m, mm, k⟩ := mins_below (kept := []) (l := (srt (subs ns)).filter fun s => blk s c ps) (List.mem_filter.mpr ⟨srt_mem.mpr (rest_sub hn s), b⟩)
      obtain ⟨x, mx, kx⟩ := List.any_eq_true.mp (List.all_eq_true.mp h m mm)
      exact absurd (of_decide_eq_true kx) (of_decide_eq_true (List.mem_filter.mp (k x mx)).2)
  · intro h
    refine List.all_eq_true.mpr fun m mm => ?_
    rcases mins_mem mm with z | z
    · simp at z
    · obtain ⟨z1, z2⟩ := List.mem_filter.mp z
      cases e : m.any fun x => decide (x ∈ s) with
      | true => rfl
      | false =>
        exfalso
        have : sat (outs m ps) c ps = true := sat_mono (fun x mn mx => mem_outs.mpr ⟨mn, fun k => List.any_eq_false.mp e x k (decide_eq_true mx)⟩) h
        unfold blk at z2
        rw [this] at z2
        cases z2
theorem blk_rest (s : List Str) (hs : s ∈ subs ns) : blk (ns.filter fun x => decide (x ∉ s)) c ps = !sat s c ps := by
  unfold blk
  have : sat (outs (ns.filter fun x => decide (x ∉ s)) ps) c ps = sat s c ps := sat_same fun x mx => by
    rw [mem_outs, List.mem_filter, decide_eq_true_eq, hn x]
    exact ⟨fun k => Classical.byContradiction fun n => k.2 ⟨mx, n⟩, fun k => ⟨mx, fun z => z.2 k⟩⟩
  rw [this]
end
/-! one sorted list of the same names -/
theorem lt_tr {a b c : List Nat} (h1 : ltCps b a = false) (h2 : ltCps c b = false) : ltCps c a = false := by
  rw [ltCps_eq] at h1 h2 ⊢
  have h1' : ¬ b < a := of_decide_eq_false h1
  have h2' : ¬ c < b := of_decide_eq_false h2
  exact decide_eq_false (List.not_lt.mpr (List.le_trans (List.not_lt.mp h1') (List.not_lt.mp h2')))
theorem rising_all : ∀ {r : List Str} {x : Str}, risingS x r = true → (∀ y ∈ r, ltCps y.cps.toList x.cps.toList = false) ∧ r.Pairwise fun a b => ltCps b.cps.toList a.cps.toList = false
  | [], _, _ => ⟨fun y m => by simp at m, List.Pairwise.nil⟩
  | z :: r, x, h => by
    have h' : (!ltCps z.cps.toList x.cps.toList && risingS z r) = true := h
    rw [Bool.and_eq_true, Bool.not_eq_true'] at h'
    obtain ⟨a, b⟩ := rising_all h'.2
    refine ⟨fun y m => ?_, List.pairwise_cons.mpr ⟨a, b⟩⟩
    rcases List.mem_cons.mp m with e | m
    · rw [e]
      exact h'.1
    · exact lt_tr h'.1 (a y m)
theorem sorted_pairs {l : List Str} (h : sortedS l = true) : l.Pairwise fun a b => ltCps b.cps.toList a.cps.toList = false := by
  cases l with
  | nil => exact List.Pairwise.nil
  | cons x r => exact List.pairwise_cons.mpr (rising_all h)
theorem sorted_one {a b : List Str} (ha : sortedS a = true) (na : a.Nodup) (hb : sortedS b = true) (nb : b.Nodup) (h : ∀ x, x ∈ a ↔ x ∈ b) : a = b := by
  refine List.Perm.eq_of_pairwise (fun x y _ _ h1 h2 => ?_) (sorted_pairs ha) (sorted_pairs hb) ((List.perm_ext_iff_of_nodup na nb).mpr h)
  rw [ltCps_eq] at h1 h2
  have h1' : ¬ y.cps.toList < x.cps.toList := of_decide_eq_false h1
  have h2' : ¬ x.cps.toList < y.cps.toList := of_decide_eq_false h2
  have e := List.le_antisymm (List.not_lt.mp h1') (List.not_lt.mp h2')
  rcases x with ⟨x⟩
  rcases y with ⟨y⟩
  have : x = y := Array.toList_inj.mp e
  rw [this]
end Moot
set_option linter.all false
namespace Moot
open PySem PySem.Spec PyProof.Rows L2
/-- tuples of names, each at its place -/
def SetsAt (H : Hp) (qs : List Nset) : Prop := ∀ q ∈ qs, H q.1 = some (.tup (q.2.map V.str))
theorem SetsAt.same {H H' : Hp} {qs : List Nset} (h : SetsAt H qs) (s : Same H H') : SetsAt H' qs := fun q m => s _ _ (h q m)
structure Blt2 (mg : Str → Option Value) : Prop where
  all : mg "all" = none
  any : mg "any" = none
theorem subs_short {ns s : List Str} (h : s ∈ subs ns) : s.length ≤ ns.length := by
  have : ∀ n, ∀ ns : List Str, ns.length = n → ∀ s ∈ subs ns, s.length ≤ n := by
    intro n
    induction n with
    | zero =>
      intro ns e s hs
      rw [List.eq_nil_of_length_eq_zero e] at hs
      rw [List.mem_singleton.mp hs]
      exact Nat.le_refl _
    | succ n ih =>
      intro ns e s hs
      have ne : ns ≠ [] := fun z => by rw [z] at e; cases e
      obtain ⟨a, y, rfl⟩ : ∃ a y, ns = a ++ [y] := ⟨_, _, (List.dropLast_concat_getLast ne).symm⟩
      rw [List.length_append, List.length_singleton] at e
      rw [subs_snoc] at hs
      rcases List.mem_append.mp hs with hs | hs
      · exact Nat.le_succ_of_le (ih a (by omega) s hs)
      · obtain ⟨t, ht, rfl⟩ := List.mem_map.mp hs
        rw [List.length_append]
        exact Nat.succ_le_succ (ih a (by omega) t ht)
  exact this _ ns rfl s h
theorem ref_at {qs : List Nset} {i : Nat} {x : V} (h : (qs.map fun q => V.ref q.1)[i]? = some x) : ∃ q, qs[i]? = some q ∧ x = .ref q.1 := by
  rw [List.getElem?_map] at h
  obtain ⟨q, hq, e⟩ := Option.map_eq_some_iff.mp h
  exact ⟨q, hq, e.symm⟩
section
variable {P : Program} {w : World} {K : PySem.W.Frag} {mg : Str → Option Value} {base : Heap}
/-! is_within -/
abbrev sWit : Stmt := top 2
abbrev nWit : List Str := ["small", "large", "name"]
theorem scWit : FnScope nWit ["small", "large"] (defScope sWit) := ⟨rfl, rfl, rfl, by decide +kernel, rfl, by decide +kernel, by decide +kernel⟩
def spWit : Sp := fun vs H Q _ => ∃ (a b : Addr) (m s : List Str), vs = [.ref a, .ref b] ∧ H a = some (.tup (m.map V.str)) ∧ H b = some (.tup (s.map V.str)) ∧ m.length ≤ 900 ∧ ∀ H', Same H H' → Q (.bl (m.all fun x => decide (x ∈ s))) H'
theorem ok_wit {f : Addr} {fd : FuncData} {k : Nat} (F : Fun K "is_within" "is_within" sWit f fd) (T : Blt mg) (T2 : Blt2 mg) : FnOk P w K mg base CX0 (k + 1) f fd ["small", "large"] spWit := by
  refine F.ok scWit (fun vs H Q E h => ?_) (fun cdv A outer s H vs Q E hr h => ?_)
  · obtain ⟨a, b, m, s, rfl, _⟩ := h
    rfl
  · obtain ⟨a, b, m, s, rfl, ha, hb, few, q⟩ := h
    refine ⟨_, pss_one (ps_ret (pe_callB (cr_all rfl) (by rfl) T2.all (by decide +kernel) (pa_cons (pe_lc (own := [("name", 2)]) (g := gName 2) (tt := tYes) (by rfl) scWit.nd (pi_tup (pv 0)) (blkOk_by (N := nWit) (sc := defScope sWit) (by decide +kernel))
      (fun _ _ _ _ _ => pg_name (i := 2) scWit.nd rfl (Or.inl rfl)) (fun _ _ _ _ _ => pts_nil) (fun _ _ _ _ _ => pe_cmpR (show OpR _ (compareOp .In) (rIn K false) from op_in_seq) (pv 2) (pv 1) (by rfl))) pa_nil))), ?_⟩
    refine ⟨.ref a, rfl, a, rfl, ⟨_, SqT.of ha⟩, fun D nD => lc_tup (K := K) (a := a) (xs := m.map V.str) (fun i H1 => Same H H1 ∧ H1 D = some (.lst (((m.take i).map fun x => decide (x ∈ s)).map V.bl))) ?_ (fun i H1 _ h => SqT.of (h.1 _ _ ha)) ?_ ?_⟩
    · exact ⟨same_new nD, upd_same⟩
    · rintro i x H1 hx ⟨s1, hD⟩
      rw [List.getElem?_map] at hx
      obtain ⟨z, hz, rfl⟩ := Option.map_eq_some_iff.mp hx
      have lt := (List.getElem?_eq_some_iff.mp hz).1
      refine ⟨rfl, .str z, rfl, .ref b, rfl, b, _, rfl, .inr (SqT.of (s1 _ _ hb)), rfl, flats s, _, hD, ?_, fun d o e => ?_, ?_⟩
      · rw [List.length_map, List.length_map, List.length_take]
        exact small1000 (by omega)
      · rw [upd_ne (ne_of_none e nD)]
        exact s1 d o e
      · rw [upd_same, List.take_add_one, hz, List.map_append, List.map_append]
        show some (HO.lst (_ ++ [V.bl (if false = true then _ else inV (.str z) (s.map V.str))])) = _
        rw [if_neg Bool.false_ne_true, inV_str]
        rfl
    · rintro H1 ⟨s1, hD⟩
      rw [List.length_map, List.take_length] at hD
      refine ⟨D, _, rfl, SqL.of hD, ?_⟩
      have e : (m.map fun x => decide (x ∈ s)).all id = m.all fun x => decide (x ∈ s) := by rw [List.all_map]; rfl
      rw [e]
      exact q H1 s1
/-! set_order -/
abbrev sOrd : Stmt := top 3
theorem scOrd : FnScope ["nodes"] ["nodes"] (defScope sOrd) := ⟨rfl, rfl, rfl, by decide +kernel, rfl, by decide +kernel, by decide +kernel⟩
theorem ok_ord {f : Addr} {fd : FuncData} {k : Nat} (F : Fun K "set_order" "set_order" sOrd f fd) (T : Blt mg) : FnOk P w K mg base CX0 (k + 1) f fd ["nodes"] spOrd := by
  refine F.ok scOrd (fun vs H Q E h => ?_) (fun cdv A outer s H vs Q E hr h => ?_)
  · obtain ⟨t, ns, rfl, _⟩ := h
    rfl
  · obtain ⟨t, ns, rfl, ht, q⟩ := h
    refine ⟨_, pss_one (ps_ret (pe_tup (pa_cons (pe_callB call_len_seq (by rfl) T.len PySem.boot_len (pa_cons (pv 0) pa_nil)) (pa_cons (pv 0) pa_nil)))), ?_⟩
    refine ⟨.ref t, rfl, t, _, rfl, .inr (SqT.of ht), .ref t, rfl, by show 2 ≤ sizeLine; decide, fun p np => ?_⟩
    refine q p _ (same_new np) np ?_
    rw [upd_same, List.length_map]
/-! subsets -/
abbrev sSub : Stmt := top 4
abbrev nSub : List Str := ["names", "found", "name", "nodes"]
theorem scSub : FnScope nSub ["names"] (defScope sSub) := ⟨rfl, rfl, rfl, by decide +kernel, rfl, by decide +kernel, by decide +kernel⟩
def spSub : Sp := fun vs H Q _ => ∃ (a : Addr) (ns : List Str), vs = [.ref a] ∧ H a = some (.tup (ns.map V.str)) ∧ ns.length ≤ 8 ∧
  ∀ (p : Addr) (qs : List Nset) (H' : Hp), Same H H' → H' p = some (.tup (qs.map fun q => V.ref q.1)) → SetsAt H' qs → qs.map (·.2) = srt (subs ns) → Q (.ref p) H'
theorem ok_sub {f fO : Addr} {fd fdO : FuncData} {k : Nat} (F : Fun K "subsets" "subsets" sSub f fd) (FO : Fun K "set_order" "set_order" sOrd fO fdO) (bO : Binds K fdO ["nodes"] []) (gO : mg "set_order" = some (.ref fO)) (GO : FnOk P w K mg base CX0 k fO fdO ["nodes"] spOrd) (T : Blt mg) :
    FnOk P w K mg base CX0 (k + 3) f fd ["names"] spSub := by
  refine F.ok scSub (fun vs H Q E h => ?_) (fun cdv A outer s H vs Q E hr h => ?_)
  · obtain ⟨a, ns, rfl, _⟩ := h
    rfl
  · obtain ⟨a, ns, rfl, ha, few, q⟩ := h
    refine ⟨_, pss_cons (ps_set (i := 1) scSub.nd rfl (Or.inl rfl) (pe_lst (pa_cons (pe_tup pa_nil) pa_nil)))
      (pss_cons (ps_for PassesOwn.never rfl (pi_tup (pv 0)) (pg_name (i := 2) scSub.nd rfl (Or.inr rfl))
        (pss_one (ps_set (i := 1) scSub.nd rfl (Or.inl rfl) (pe_op op_cat (pv 1) (pe_lc (own := [("nodes", 3)]) (g := gName 3) (tt := tYes) (by rfl) scSub.nd (pi_list (pv 1)) (blkOk_by (N := nSub) (sc := defScope sSub) (by decide +kernel))
          (fun _ _ _ _ _ => pg_name (i := 3) scSub.nd rfl (Or.inl rfl)) (fun _ _ _ _ _ => pts_nil) (fun _ _ _ _ _ => pe_tup (show PA _ _ (StX.tStar K _ _) from StX.pa_star (pv 3) (pa_cons (pv 2) pa_nil))))))))
      (pss_one (ps_ret (pe_callTy call_tuple_of (by rfl) T.tup (by decide +kernel) (pa_cons (pe_callBK (cr_sortBy GO hr bO) (by rfl) T.srt (by decide +kernel) (pa_cons (pv 1) pa_nil) (pk_cons (pe_glob (v := .ref fO) (by rfl) gO rfl) pk_nil)) pa_nil))))), ?_⟩
    -- found = [()]
    refine ⟨by show 0 ≤ sizeLine; decide, fun t0 nt0 => ⟨by show 1 ≤ sizeLine; decide, fun l0 nl0 => ?_⟩⟩
    have s0 := (same_new (o := .tup []) nt0).trans (same_new (o := .lst [.ref t0]) nl0)
    have t0l : t0 ≠ l0 := ne_of_none (upd_same (H := H) (o := .tup [])) nl0
    have ht0 : upd (upd H t0 (.tup [])) l0 (.lst [.ref t0]) t0 = some (.tup []) := by rw [upd_ne t0l, upd_same]
    refine ⟨.ref a, rfl, a, rfl, ⟨_, SqT.of (s0 _ _ ha)⟩, for_tup (K := K) (a := a) (xs := ns.map V.str) (fun i σ H1 => ∃ (fl : Addr) (qs : List Nset) (y2 y3 : Option V), σ = [some (.ref a), some (.ref fl), y2, y3] ∧ Same H H1 ∧ H1 fl = some (.lst (qs.map fun q => V.ref q.1)) ∧ SetsAt H1 qs ∧ qs.map (·.2) = subs (ns.take i)) ?_ (fun i σ H1 _ ⟨_, _, _, _, _, s1, _⟩ => SqT.of (s1 _ _ ha)) ?_ ?_⟩
    · refine ⟨l0, [(t0, [])], none, none, rfl, s0, upd_same, fun q mq => ?_, rfl⟩
      rw [List.mem_singleton.mp mq]
      exact ht0
    · rintro i x σ H1 hx ⟨fl, qs, y2, y3, rfl, s1, h1, st, eq⟩
      rw [List.getElem?_map] at hx
      obtain ⟨z, hz, rfl⟩ := Option.map_eq_some_iff.mp hx
      have lt := (List.getElem?_eq_some_iff.mp hz).1
      have ql : qs.length ≤ 256 := by
        have e := congrArg List.length eq
        rw [List.length_map, subs_len, List.length_take] at e
        have : 2 ^ min i ns.length ≤ 2 ^ 8 := Nat.pow_le_pow_right (by decide) (by omega)
        omega
      have short : ∀ q ∈ qs, q.2.length ≤ 8 := fun q mq => by
        have ms : q.2 ∈ subs (ns.take i) := by rw [← eq]; exact List.mem_map.mpr ⟨q, mq, rfl⟩
        exact Nat.le_trans (subs_short ms) (by rw [List.length_take]; omega)
      refine ⟨.ref fl, rfl, .ref fl, rfl, fl, rfl, ⟨_, SqL.of h1⟩, fun D nD => lc_list (K := K) (a := fl) (xs := qs.map fun q => V.ref q.1) (fun j H2 => Same H1 H2 ∧ ∃ rs : List Nset, H2 D = some (.lst (rs.map fun q => V.ref q.1)) ∧ SetsAt H2 rs ∧ rs.map (·.2) = ((qs.take j).map (·.2)).map (· ++ [z])) ?_ (fun j H2 _ h => SqL.of (h.1 _ _ h1)) ?_ ?_⟩
      · exact ⟨same_new nD, [], upd_same, fun q mq => by simp at mq, rfl⟩
      · rintro j y H2 hy ⟨s2, rs, hD, rt, er⟩
        obtain ⟨q, hq, rfl⟩ := ref_at hy
        have mq := List.mem_of_getElem? hq
        have lj := (List.getElem?_eq_some_iff.mp hq).1
        have hqt := s2 _ _ (st q mq)
        have rl : rs.length ≤ 256 := by
          have e := congrArg List.length er
          rw [List.length_map, List.length_map, List.length_map, List.length_take] at e
          omega
        refine ⟨rfl, .ref q.1, rfl, q.1, _, rfl, .inl (SqT.of hqt), .str z, rfl, ?_, fun t nt => ⟨_, same_new nt _ _ hD, ?_, fun d o e => ?_, rs ++ [(t, q.2 ++ [z])], ?_, fun r mr => ?_, ?_⟩⟩
        · rw [List.length_append, List.length_map]
          exact Nat.le_of_lt (small1000 (by have := short q mq; show q.2.length + 1 ≤ 1000; omega))
        · rw [List.length_map]
          exact small1000 (by omega)
        · rw [upd_ne (ne_of_none e nD), upd_ne (ne_of_none (s2 d o e) nt)]
          exact s2 d o e
        · rw [upd_same, List.map_append]
          rfl
        · have tD : t ≠ D := (ne_of_none hD nt).symm
          rcases List.mem_append.mp mr with mr | mr
          · have hr := rt r mr
            rw [upd_ne (fun c => by rw [c, hD] at hr; cases hr), upd_ne (ne_of_none hr nt)]
            exact hr
          · rw [List.mem_singleton.mp mr]
            show upd (upd H2 t _) D _ t = _
            rw [upd_ne tD, upd_same, List.map_append]
            rfl
        · rw [List.map_append, er, List.take_add_one, hq, List.map_append, List.map_append]
          rfl
      · rintro H2 ⟨s2, rs, hD, rt, er⟩
        rw [List.length_map, List.take_length] at er
        have rl : rs.length ≤ 256 := by
          have e := congrArg List.length er
          rw [List.length_map, List.length_map, List.length_map] at e
          omega
        refine ⟨fl, D, _, _, rfl, rfl, s2 _ _ h1, hD, ?_, fun l2 nl2 => ?_⟩
        · rw [List.length_map, List.length_map]
          exact Nat.le_of_lt (small1000 (by omega))
        · have s3 := same_new (o := .lst (qs.map (fun q => V.ref q.1) ++ rs.map fun q => V.ref q.1)) nl2
          refine ⟨l2, qs ++ rs, _, _, rfl, (s1.trans s2).trans s3, by rw [upd_same, List.map_append], fun q mq => ?_, ?_⟩
          · rcases List.mem_append.mp mq with mq | mq
            · exact s3 _ _ (s2 _ _ (st q mq))
            · exact s3 _ _ (rt q mq)
          · rw [List.map_append, er, eq, subs_take hz]
            rfl
    · rintro σ H1 ⟨fl, qs, y2, y3, rfl, s1, h1, st, eq⟩
      rw [List.length_map, List.take_length] at eq
      have ql : qs.length ≤ 256 := by
        have e := congrArg List.length eq
        rw [List.length_map, subs_len] at e
        have : 2 ^ ns.length ≤ 2 ^ 8 := Nat.pow_le_pow_right (by decide) few
        omega
      refine ⟨.ref fl, rfl, fl, qs, rfl, rfl, SqL.of h1, st, by omega, fun l2 H2 s2 nl2 h2 => ?_⟩
      refine ⟨l2, _, rfl, .inl ⟨SqL.of h2, fun t nt => ?_⟩⟩
      have s3 := same_new (o := .tup ((qs.mergeSort ordLe).map fun q => V.ref q.1)) nt
      refine q t (qs.mergeSort ordLe) _ ((s1.trans s2).trans s3) upd_same (fun r mr => ?_) ?_
      · exact s3 _ _ (s2 _ _ (st r ((List.mergeSort_perm qs _).mem_iff.mp mr)))
      · rw [srt_map, eq]
end
end Moot
set_option linter.all false
namespace Moot
open PySem PySem.Spec PyProof.Rows L2
section
variable {P : Program} {w : World} {K : PySem.W.Frag} {mg : Str → Option Value} {base : Heap}
/-! minimal_sets -/
abbrev sMin : Stmt := top 5
abbrev nMin : List Str := ["sets", "kept", "nodes", "smaller"]
theorem scMin : FnScope nMin ["sets"] (defScope sMin) := ⟨rfl, rfl, rfl, by decide +kernel, rfl, by decide +kernel, by decide +kernel⟩
def spMin : Sp := fun vs H Q _ => ∃ (l : Addr) (qs : List Nset), vs = [.ref l] ∧ H l = some (.lst (qs.map fun q => V.ref q.1)) ∧ SetsAt H qs ∧ qs.length ≤ 300 ∧ (∀ q ∈ qs, q.2.length ≤ 900) ∧
  ∀ (p : Addr) (rs : List Nset) (H' : Hp), Same H H' → H' p = some (.tup (rs.map fun q => V.ref q.1)) → SetsAt H' rs → rs.map (·.2) = mins (qs.map (·.2)) → Q (.ref p) H'
theorem ok_min {f fW : Addr} {fd fdW : FuncData} {k : Nat} (F : Fun K "minimal_sets" "minimal_sets" sMin f fd) (FW : Fun K "is_within" "is_within" sWit fW fdW) (bW : Binds K fdW ["small", "large"] []) (gW : mg "is_within" = some (.ref fW)) (GW : FnOk P w K mg base CX0 k fW fdW ["small", "large"] spWit) (T : Blt mg) (T2 : Blt2 mg) :
    FnOk P w K mg base CX0 (k + 1) f fd ["sets"] spMin := by
  refine F.ok scMin (fun vs H Q E h => ?_) (fun cdv A outer s H vs Q E hr h => ?_)
  · obtain ⟨l, qs, rfl, _⟩ := h
    rfl
  · obtain ⟨l, qs, rfl, hl, st, few, short, q⟩ := h
    refine ⟨_, pss_cons (ps_set (i := 1) scMin.nd rfl (Or.inl rfl) (pe_lst pa_nil))
      (pss_cons (ps_for PassesOwn.never rfl (pi_list (pv 0)) (pg_name (i := 2) scMin.nd rfl (Or.inr rfl))
        (pss_one (ps_if (pt_not (pt_val (pe_callB (cr_any rfl) (by rfl) T2.any (by decide +kernel) (pa_cons (pe_lc (own := [("smaller", 3)]) (g := gName 3) (tt := tYes) (by rfl) scMin.nd (pi_list (pv 1)) (blkOk_by (N := nMin) (sc := defScope sMin) (by decide +kernel))
            (fun _ _ _ _ _ => pg_name (i := 3) scMin.nd rfl (Or.inl rfl)) (fun _ _ _ _ _ => pts_nil) (fun _ _ _ _ _ => pe_call GW hr (by rfl) gW FW.kp bW .nil pass0 (pa_cons (pv 3) (pa_cons (pv 2) pa_nil)))) pa_nil))))
          (pss_one (ps_expr (pe_bm PySem.F.plainAttrs_list PySem.F.slot_list_append PySem.F.type_list_append mt_append (pv 1) (pa_cons (pv 2) pa_nil)))) pss_nil)))
      (pss_one (ps_ret (pe_callTy call_tuple_of (by rfl) T.tup (by decide +kernel) (pa_cons (pv 1) pa_nil))))), ?_⟩
    refine ⟨Nat.zero_le _, fun kp nk => ?_⟩
    have s0 := same_new (o := .lst []) nk
    refine ⟨.ref l, rfl, l, rfl, ⟨_, SqL.of (s0 _ _ hl)⟩, for_list (K := K) (a := l) (xs := qs.map fun q => V.ref q.1) (fun i σ H1 => ∃ (rs : List Nset) (y2 y3 : Option V), σ = [some (.ref l), some (.ref kp), y2, y3] ∧ Same H H1 ∧ H1 kp = some (.lst (rs.map fun q => V.ref q.1)) ∧ (∀ r ∈ rs, r ∈ qs) ∧ rs.map (·.2) = mins ((qs.take i).map (·.2)) ∧ rs.length ≤ i) ?_ (fun i σ H1 _ ⟨_, _, _, _, s1, _⟩ => SqL.of (s1 _ _ hl)) ?_ ?_⟩
    · exact ⟨[], none, none, rfl, s0, upd_same, fun r mr => by simp at mr, rfl, Nat.le_refl _⟩
    · rintro i x σ H1 hx ⟨rs, y2, y3, rfl, s1, hk, sub, er, rl⟩
      obtain ⟨c, hc, rfl⟩ := ref_at hx
      have mc := List.mem_of_getElem? hc
      have lt := (List.getElem?_eq_some_iff.mp hc).1
      have hct := s1 _ _ (st c mc)
      have step : mins ((qs.take (i + 1)).map (·.2)) = minStep (mins ((qs.take i).map (·.2))) c.2 := by
        have e := mins_take (l := qs.map (·.2)) (i := i) (s := c.2) (by rw [List.getElem?_map, hc]; rfl)
        rw [← List.map_take, ← List.map_take] at e
        exact e
      refine ⟨.ref kp, rfl, kp, rfl, ⟨_, SqL.of hk⟩, fun D nD => lc_list (K := K) (a := kp) (xs := rs.map fun q => V.ref q.1) (fun j H2 => Same H1 H2 ∧ H2 D = some (.lst (((rs.take j).map fun r => r.2.all fun x => decide (x ∈ c.2)).map V.bl))) ?_ (fun j H2 _ h => SqL.of (h.1 _ _ hk)) ?_ ?_⟩
      · exact ⟨same_new nD, upd_same⟩
      · rintro j y H2 hy ⟨s2, hD⟩
        obtain ⟨r, hr', rfl⟩ := ref_at hy
        have mr := List.mem_of_getElem? hr'
        have lj := (List.getElem?_eq_some_iff.mp hr').1
        refine ⟨rfl, .ref r.1, rfl, .ref c.1, rfl, r.1, c.1, r.2, c.2, rfl, s2 _ _ (s1 _ _ (st r (sub r mr))), s2 _ _ hct, short r (sub r mr), fun H3 s3 => ⟨_, s3 _ _ hD, ?_, fun d o e => ?_, ?_⟩⟩
        · rw [List.length_map, List.length_map, List.length_take]
          exact small1000 (by omega)
        · rw [upd_ne (ne_of_none e nD)]
          exact s3 _ _ (s2 d o e)
        · rw [upd_same, List.take_add_one, hr', List.map_append, List.map_append]
          rfl
      · rintro H2 ⟨s2, hD⟩
        rw [List.length_map, List.take_length] at hD
        refine ⟨D, _, rfl, SqL.of hD, _, rfl, ?_⟩
        have ea : ((rs.map fun r => r.2.all fun x => decide (x ∈ c.2)).any id) = (mins ((qs.take i).map (·.2))).any fun m => m.all fun x => decide (x ∈ c.2) := by
          rw [← er, List.any_map, List.any_map]
          rfl
        rw [ea]
        cases cs : (mins ((qs.take i).map (·.2))).any fun m => m.all fun x => decide (x ∈ c.2) with
        | true =>
          refine iteF ⟨rs, _, _, rfl, s1.trans s2, s2 _ _ hk, sub, ?_, by omega⟩
          rw [er, step]
          unfold minStep
          rw [cs, if_pos rfl]
        | false =>
          refine iteT ⟨.ref kp, rfl, .inl ⟨rfl, _, SqL.of (s2 _ _ hk)⟩, .ref c.1, rfl, kp, _, _, rfl, rfl, s2 _ _ hk, ?_, rs ++ [c], _, _, rfl, fun d o e => ?_, ?_, fun r mr => ?_, ?_, ?_⟩
          · rw [List.length_map]
            exact small1000 (by omega)
          · rw [upd_ne (ne_of_none e nk)]
            exact s2 _ _ (s1 d o e)
          · rw [upd_same, List.map_append]
            rfl
          · rcases List.mem_append.mp mr with mr | mr
            · exact sub r mr
            · rw [List.mem_singleton.mp mr]
              exact mc
          · rw [List.map_append, er, step]
            unfold minStep
            rw [cs, if_neg Bool.false_ne_true]
            rfl
          · rw [List.length_append]
            exact Nat.succ_le_succ rl
    · rintro σ H1 ⟨rs, y2, y3, rfl, s1, hk, sub, er, rl⟩
      rw [List.length_map, List.take_length] at er
      refine ⟨.ref kp, rfl, kp, _, rfl, .inl ⟨SqL.of hk, fun t nt => ?_⟩⟩
      have s2 := same_new (o := .tup (rs.map fun q => V.ref q.1)) nt
      exact q t rs _ (s1.trans s2) upd_same (fun r mr => s2 _ _ (s1 _ _ (st r (sub r mr)))) er
/-! minimal_satisfying, minimal_blocking -/
/-- few names in all -/
def Few (ps : List Part) : Prop := ∃ xs : List Str, xs.length ≤ 8 ∧ ∀ x ∈ namesOf ps, x ∈ xs
def spMs (which : List Str → Int → List Part → List (List Str)) : Sp := fun vs H Q _ => ∃ (r : Addr) (c : Int) (ps : List Part), vs = [.ref r] ∧ ReqAt H r c ps ∧ Short ps ∧ ps.length ≤ 900 ∧ (namesOf ps).length < 64 ∧ Few ps ∧
  ∀ (p : Addr) (ys : List Str) (rs : List Nset) (H' : Hp), Same H H' → sortedS ys = true → ys.Nodup → (∀ x, x ∈ ys ↔ x ∈ namesOf ps) → H' p = some (.tup (rs.map fun q => V.ref q.1)) → SetsAt H' rs → rs.map (·.2) = which ys c ps → Q (.ref p) H'
abbrev sMs : Stmt := top 12
abbrev sMb : Stmt := top 13
abbrev nMs : List Str := ["requirement", "sets", "nodes"]
theorem scMs : FnScope nMs ["requirement"] (defScope sMs) := ⟨rfl, rfl, rfl, by decide +kernel, rfl, by decide +kernel, by decide +kernel⟩
theorem scMb : FnScope nMs ["requirement"] (defScope sMb) := ⟨rfl, rfl, rfl, by decide +kernel, rfl, by decide +kernel, by decide +kernel⟩
theorem ok_ms {f f1 f2 f3 f4 : Addr} {fd fd1 fd2 fd3 fd4 : FuncData} {k : Nat} (F : Fun K "minimal_satisfying" "minimal_satisfying" sMs f fd)
    (FS : Fun K "subsets" "subsets" sSub f1 fd1) (bS : Binds K fd1 ["names"] []) (gS : mg "subsets" = some (.ref f1)) (GS : FnOk P w K mg base CX0 k f1 fd1 ["names"] spSub)
    (FN : Fun K "names_in" "names_in" sNin f2 fd2) (bN : Binds K fd2 ["requirement"] []) (gN : mg "names_in" = some (.ref f2)) (GN : FnOk P w K mg base CX0 k f2 fd2 ["requirement"] spNin)
    (FM : Fun K "minimal_sets" "minimal_sets" sMin f3 fd3) (bM : Binds K fd3 ["sets"] []) (gM : mg "minimal_sets" = some (.ref f3)) (GM : FnOk P w K mg base CX0 k f3 fd3 ["sets"] spMin)
    (FT : Fun K "satisfies" "satisfies" sSat f4 fd4) (bT : Binds K fd4 ["requirement", "nodes"] []) (gT : mg "satisfies" = some (.ref f4)) (GT : FnOk P w K mg base CX0 k f4 fd4 ["requirement", "nodes"] (spSat K Short)) :
    FnOk P w K mg base CX0 (k + 1) f fd ["requirement"] (spMs least) := by
  refine F.ok scMs (fun vs H Q E h => ?_) (fun cdv A outer s H vs Q E hr h => ?_)
  · obtain ⟨r, c, ps, rfl, _⟩ := h
    rfl
  · obtain ⟨r, c, ps, rfl, R, sh, pl, pn, ⟨xs, x8, xin⟩, q⟩ := h
    refine ⟨_, pss_cons (ps_set (i := 1) scMs.nd rfl (Or.inl rfl) (pe_call GS hr (by rfl) gS FS.kp bS .nil pass0 (pa_cons (pe_call GN hr (by rfl) gN FN.kp bN .nil pass0 (pa_cons (pv 0) pa_nil)) pa_nil)))
      (pss_one (ps_ret (pe_call GM hr (by rfl) gM FM.kp bM .nil pass0 (pa_cons (pe_lc (own := [("nodes", 2)]) (g := gName 2) (by rfl) scMs.nd (pi_tup (pv 1)) (blkOk_by (N := nMs) (sc := defScope sMs) (by decide +kernel))
        (fun _ _ _ _ _ => pg_name (i := 2) scMs.nd rfl (Or.inl rfl)) (fun _ _ _ _ _ => pts_one (pt_val (pe_call GT hr (by rfl) gT FT.kp bT .nil pass0 (pa_cons (pv 0) (pa_cons (pv 2) pa_nil))))) (fun _ _ _ _ _ => pv 2)) pa_nil)))), ?_⟩
    refine ⟨.ref r, rfl, r, c, ps, rfl, R, pn, fun np ys H1 s1 nnp hnp srtd nd mem => ?_⟩
    have y8 : ys.length ≤ 8 := Nat.le_trans (nodup_le nd fun x m => xin x ((mem x).mp m)) x8
    refine ⟨np, ys, rfl, hnp, y8, fun sp qs H2 s2 hsp st eq => ?_⟩
    have ql : qs.length ≤ 256 := by
      have e := congrArg List.length eq
      rw [List.length_map, srt_len, subs_len] at e
      have : 2 ^ ys.length ≤ 2 ^ 8 := Nat.pow_le_pow_right (by decide) y8
      omega
    have qshort : ∀ q ∈ qs, q.2.length ≤ 8 := fun q mq => by
      have ms : q.2 ∈ srt (subs ys) := by rw [← eq]; exact List.mem_map.mpr ⟨q, mq, rfl⟩
      exact Nat.le_trans (subs_short (srt_mem.mp ms)) y8
    have s12 := s1.trans s2
    refine ⟨.ref sp, rfl, sp, rfl, ⟨_, SqT.of hsp⟩, fun D nD => lc_tup (K := K) (a := sp) (xs := qs.map fun q => V.ref q.1) (fun i H3 => Same H2 H3 ∧ H3 D = some (.lst (((qs.take i).filter fun q => sat q.2 c ps).map fun q => V.ref q.1))) ?_ (fun i H3 _ h => SqT.of (h.1 _ _ hsp)) ?_ ?_⟩
    · exact ⟨same_new nD, upd_same⟩
    · rintro i x H3 hx ⟨s3, hD⟩
      obtain ⟨t, ht, rfl⟩ := ref_at hx
      have mt := List.mem_of_getElem? ht
      have lt := (List.getElem?_eq_some_iff.mp ht).1
      have tk : (qs.take (i + 1)).filter (fun q => sat q.2 c ps) = (qs.take i).filter (fun q => sat q.2 c ps) ++ [t].filter fun q => sat q.2 c ps := by
        rw [List.take_add_one, ht, List.filter_append]
        rfl
      refine ⟨rfl, .ref r, rfl, .ref t.1, rfl, r, c, ps, t.1, t.2, rfl, R.tups (Same.tups (s12.trans s3)), sh, by omega, .inr (SqT.of (s3 _ _ (st t mt))), fun H4 s4 => ⟨_, rfl, ?_⟩⟩
      cases e : sat t.2 c ps with
      | true =>
        refine iteT ⟨.ref t.1, rfl, _, s4 _ _ hD, ?_, fun d o eo => ?_, ?_⟩
        · rw [List.length_map]
          refine small1000 (Nat.le_trans (List.length_filter_le _ _) ?_)
          rw [List.length_take]
          omega
        · rw [upd_ne (ne_of_none eo nD)]
          exact s4 _ _ (s3 d o eo)
        · rw [upd_same, tk, List.map_append, show List.filter _ [t] = [t] from List.filter_cons_of_pos (p := fun q => sat q.2 c ps) e]
          rfl
      | false =>
        refine iteF ⟨s3.trans s4, ?_⟩
        rw [s4 _ _ hD, tk, List.filter_cons_of_neg (by rw [e]; exact Bool.false_ne_true)]
        simp
    · rintro H3 ⟨s3, hD⟩
      rw [List.length_map, List.take_length] at hD
      have ef : (qs.filter fun q => sat q.2 c ps).map (·.2) = (srt (subs ys)).filter fun s => sat s c ps := by
        rw [← eq, List.filter_map]
        rfl
      refine ⟨D, _, rfl, hD, fun q' mq => s3 _ _ (st q' (List.mem_filter.mp mq).1), Nat.le_trans (List.length_filter_le _ _) (by omega), fun q' mq => ?_, fun p rs H4 s4 hp rt er => ?_⟩
      · have := qshort q' (List.mem_filter.mp mq).1
        omega
      · rw [ef] at er
        exact q p ys rs H4 ((s12.trans s3).trans s4) srtd nd mem hp rt er
theorem ok_mb {f f1 f2 f3 f4 : Addr} {fd fd1 fd2 fd3 fd4 : FuncData} {k : Nat} (F : Fun K "minimal_blocking" "minimal_blocking" sMb f fd)
    (FS : Fun K "subsets" "subsets" sSub f1 fd1) (bS : Binds K fd1 ["names"] []) (gS : mg "subsets" = some (.ref f1)) (GS : FnOk P w K mg base CX0 k f1 fd1 ["names"] spSub)
    (FN : Fun K "names_in" "names_in" sNin f2 fd2) (bN : Binds K fd2 ["requirement"] []) (gN : mg "names_in" = some (.ref f2)) (GN : FnOk P w K mg base CX0 k f2 fd2 ["requirement"] spNin)
    (FM : Fun K "minimal_sets" "minimal_sets" sMin f3 fd3) (bM : Binds K fd3 ["sets"] []) (gM : mg "minimal_sets" = some (.ref f3)) (GM : FnOk P w K mg base CX0 k f3 fd3 ["sets"] spMin)
    (FT : Fun K "blocks" "blocks" sBlk f4 fd4) (bT : Binds K fd4 ["requirement", "nodes"] []) (gT : mg "blocks" = some (.ref f4)) (GT : FnOk P w K mg base CX0 k f4 fd4 ["requirement", "nodes"] (spBlk K)) :
    FnOk P w K mg base CX0 (k + 1) f fd ["requirement"] (spMs blocking) := by
  refine F.ok scMb (fun vs H Q E h => ?_) (fun cdv A outer s H vs Q E hr h => ?_)
  · obtain ⟨r, c, ps, rfl, _⟩ := h
    rfl
  · obtain ⟨r, c, ps, rfl, R, sh, pl, pn, ⟨xs, x8, xin⟩, q⟩ := h
    refine ⟨_, pss_cons (ps_set (i := 1) scMb.nd rfl (Or.inl rfl) (pe_call GS hr (by rfl) gS FS.kp bS .nil pass0 (pa_cons (pe_call GN hr (by rfl) gN FN.kp bN .nil pass0 (pa_cons (pv 0) pa_nil)) pa_nil)))
      (pss_one (ps_ret (pe_call GM hr (by rfl) gM FM.kp bM .nil pass0 (pa_cons (pe_lc (own := [("nodes", 2)]) (g := gName 2) (by rfl) scMb.nd (pi_tup (pv 1)) (blkOk_by (N := nMs) (sc := defScope sMb) (by decide +kernel))
        (fun _ _ _ _ _ => pg_name (i := 2) scMb.nd rfl (Or.inl rfl)) (fun _ _ _ _ _ => pts_one (pt_val (pe_call GT hr (by rfl) gT FT.kp bT .nil pass0 (pa_cons (pv 0) (pa_cons (pv 2) pa_nil))))) (fun _ _ _ _ _ => pv 2)) pa_nil)))), ?_⟩
    refine ⟨.ref r, rfl, r, c, ps, rfl, R, pn, fun np ys H1 s1 nnp hnp srtd nd mem => ?_⟩
    have y8 : ys.length ≤ 8 := Nat.le_trans (nodup_le nd fun x m => xin x ((mem x).mp m)) x8
    refine ⟨np, ys, rfl, hnp, y8, fun sp qs H2 s2 hsp st eq => ?_⟩
    have ql : qs.length ≤ 256 := by
      have e := congrArg List.length eq
      rw [List.length_map, srt_len, subs_len] at e
      have : 2 ^ ys.length ≤ 2 ^ 8 := Nat.pow_le_pow_right (by decide) y8
      omega
    have qshort : ∀ q ∈ qs, q.2.length ≤ 8 := fun q mq => by
      have ms : q.2 ∈ srt (subs ys) := by rw [← eq]; exact List.mem_map.mpr ⟨q, mq, rfl⟩
      exact Nat.le_trans (subs_short (srt_mem.mp ms)) y8
    have s12 := s1.trans s2
    refine ⟨.ref sp, rfl, sp, rfl, ⟨_, SqT.of hsp⟩, fun D nD => lc_tup (K := K) (a := sp) (xs := qs.map fun q => V.ref q.1) (fun i H3 => Same H2 H3 ∧ H3 D = some (.lst (((qs.take i).filter fun q => blk q.2 c ps).map fun q => V.ref q.1))) ?_ (fun i H3 _ h => SqT.of (h.1 _ _ hsp)) ?_ ?_⟩
    · exact ⟨same_new nD, upd_same⟩
    · rintro i x H3 hx ⟨s3, hD⟩
      obtain ⟨t, ht, rfl⟩ := ref_at hx
      have mt := List.mem_of_getElem? ht
      have lt := (List.getElem?_eq_some_iff.mp ht).1
      have tk : (qs.take (i + 1)).filter (fun q => blk q.2 c ps) = (qs.take i).filter (fun q => blk q.2 c ps) ++ [t].filter fun q => blk q.2 c ps := by
        rw [List.take_add_one, ht, List.filter_append]
        rfl
      refine ⟨rfl, .ref r, rfl, .ref t.1, rfl, r, c, ps, t.1, t.2, rfl, R.tups (Same.tups (s12.trans s3)), sh, by omega, pn, .inr (SqT.of (s3 _ _ (st t mt))), fun H4 s4 => ⟨_, rfl, ?_⟩⟩
      cases e : blk t.2 c ps with
      | true =>
        refine iteT ⟨.ref t.1, rfl, _, s4 _ _ hD, ?_, fun d o eo => ?_, ?_⟩
        · rw [List.length_map]
          refine small1000 (Nat.le_trans (List.length_filter_le _ _) ?_)
          rw [List.length_take]
          omega
        · rw [upd_ne (ne_of_none eo nD)]
          exact s4 _ _ (s3 d o eo)
        · rw [upd_same, tk, List.map_append, show List.filter _ [t] = [t] from List.filter_cons_of_pos (p := fun q => blk q.2 c ps) e]
          rfl
      | false =>
        refine iteF ⟨s3.trans s4, ?_⟩
        rw [s4 _ _ hD, tk, List.filter_cons_of_neg (by rw [e]; exact Bool.false_ne_true)]
        simp
    · rintro H3 ⟨s3, hD⟩
      rw [List.length_map, List.take_length] at hD
      have ef : (qs.filter fun q => blk q.2 c ps).map (·.2) = (srt (subs ys)).filter fun s => blk s c ps := by
        rw [← eq, List.filter_map]
        rfl
      refine ⟨D, _, rfl, hD, fun q' mq => s3 _ _ (st q' (List.mem_filter.mp mq).1), Nat.le_trans (List.length_filter_le _ _) (by omega), fun q' mq => ?_, fun p rs H4 s4 hp rt er => ?_⟩
      · have := qshort q' (List.mem_filter.mp mq).1
        omega
      · rw [ef] at er
        exact q p ys rs H4 ((s12.trans s3).trans s4) srtd nd mem hp rt er
end
end Moot
set_option linter.all false
namespace Moot
open PySem PySem.Spec PyProof.Rows L2
/-- lists of names, each at its place -/
def ListsAt (H : Hp) (qs : List Nset) : Prop := ∀ q ∈ qs, H q.1 = some (.lst (q.2.map V.str))
section
variable {P : Program} {w : World} {K : PySem.W.Frag} {mg : Str → Option Value} {base : Heap}
/-! _law_subsets -/
abbrev sLsub : Stmt := top 25
abbrev nLsub : List Str := ["_law_names_here", "_law_found", "_law_name_here", "_law_some_here"]
theorem scLsub : FnScope nLsub ["_law_names_here"] (defScope sLsub) := ⟨rfl, rfl, rfl, by decide +kernel, rfl, by decide +kernel, by decide +kernel⟩
def spLsub : Sp := fun vs H Q _ => ∃ (a : Addr) (ns : List Str), vs = [.ref a] ∧ H a = some (.lst (ns.map V.str)) ∧ ns.length ≤ 8 ∧
  ∀ (p : Addr) (qs : List Nset) (H' : Hp), Same H H' → H p = none → (∀ q ∈ qs, H q.1 = none) → H' p = some (.lst (qs.map fun q => V.ref q.1)) → ListsAt H' qs → qs.map (·.2) = subs ns → Q (.ref p) H'
theorem ok_lsub {f : Addr} {fd : FuncData} {k : Nat} (F : Fun K "_law_subsets" "_law_subsets" sLsub f fd) : FnOk P w K mg base CX0 (k + 1) f fd ["_law_names_here"] spLsub := by
  refine F.ok scLsub (fun vs H Q E h => ?_) (fun cdv A outer s H vs Q E hr h => ?_)
  · obtain ⟨a, ns, rfl, _⟩ := h
    rfl
  · obtain ⟨a, ns, rfl, ha, few, q⟩ := h
    refine ⟨_, pss_cons (ps_set (i := 1) scLsub.nd rfl (Or.inl rfl) (pe_lst (pa_cons (pe_lst pa_nil) pa_nil)))
      (pss_cons (ps_for PassesOwn.never rfl (pi_list (pv 0)) (pg_name (i := 2) scLsub.nd rfl (Or.inr rfl))
        (pss_one (ps_set (i := 1) scLsub.nd rfl (Or.inl rfl) (pe_op op_cat (pv 1) (pe_lc (own := [("_law_some_here", 3)]) (g := gName 3) (tt := tYes) (by rfl) scLsub.nd (pi_list (pv 1)) (blkOk_by (N := nLsub) (sc := defScope sLsub) (by decide +kernel))
          (fun _ _ _ _ _ => pg_name (i := 3) scLsub.nd rfl (Or.inl rfl)) (fun _ _ _ _ _ => pts_nil) (fun _ _ _ _ _ => pe_op op_cat (pv 3) (pe_lst (pa_cons (pv 2) pa_nil))))))))
      (pss_one (ps_ret (pv 1)))), ?_⟩
    refine ⟨by show 0 ≤ sizeLine; decide, fun t0 nt0 => ⟨by show 1 ≤ sizeLine; decide, fun l0 nl0 => ?_⟩⟩
    have s0 := (same_new (o := .lst []) nt0).trans (same_new (o := .lst [.ref t0]) nl0)
    have t0l : t0 ≠ l0 := ne_of_none (upd_same (H := H) (o := .lst [])) nl0
    have ht0 : upd (upd H t0 (.lst [])) l0 (.lst [.ref t0]) t0 = some (.lst []) := by rw [upd_ne t0l, upd_same]
    refine ⟨.ref a, rfl, a, rfl, ⟨_, SqL.of (s0 _ _ ha)⟩, for_list (K := K) (a := a) (xs := ns.map V.str) (fun i σ H1 => ∃ (fl : Addr) (qs : List Nset) (y2 y3 : Option V), σ = [some (.ref a), some (.ref fl), y2, y3] ∧ Same H H1 ∧ H1 fl = some (.lst (qs.map fun q => V.ref q.1)) ∧ ListsAt H1 qs ∧ qs.map (·.2) = subs (ns.take i) ∧ H fl = none ∧ ∀ q ∈ qs, H q.1 = none) ?_ (fun i σ H1 _ ⟨_, _, _, _, _, s1, _⟩ => SqL.of (s1 _ _ ha)) ?_ ?_⟩
    · refine ⟨l0, [(t0, [])], none, none, rfl, s0, upd_same, fun q mq => ?_, rfl, (same_new (o := .lst []) nt0).free nl0, fun q mq => ?_⟩
      · rw [List.mem_singleton.mp mq]
        exact ht0
      · rw [List.mem_singleton.mp mq]
        exact nt0
    · rintro i x σ H1 hx ⟨fl, qs, y2, y3, rfl, s1, h1, st, eq, nfl, nqs⟩
      rw [List.getElem?_map] at hx
      obtain ⟨z, hz, rfl⟩ := Option.map_eq_some_iff.mp hx
      have lt := (List.getElem?_eq_some_iff.mp hz).1
      have ql : qs.length ≤ 256 := by
        have e := congrArg List.length eq
        rw [List.length_map, subs_len, List.length_take] at e
        have : 2 ^ min i ns.length ≤ 2 ^ 8 := Nat.pow_le_pow_right (by decide) (by omega)
        omega
      have short : ∀ q ∈ qs, q.2.length ≤ 8 := fun q mq => by
        have ms : q.2 ∈ subs (ns.take i) := by rw [← eq]; exact List.mem_map.mpr ⟨q, mq, rfl⟩
        exact Nat.le_trans (subs_short ms) (by rw [List.length_take]; omega)
      refine ⟨.ref fl, rfl, .ref fl, rfl, fl, rfl, ⟨_, SqL.of h1⟩, fun D nD => lc_list (K := K) (a := fl) (xs := qs.map fun q => V.ref q.1) (fun j H2 => Same H1 H2 ∧ ∃ rs : List Nset, H2 D = some (.lst (rs.map fun q => V.ref q.1)) ∧ (∀ r ∈ rs, r.1 ≠ D) ∧ ListsAt H2 rs ∧ rs.map (·.2) = ((qs.take j).map (·.2)).map (· ++ [z]) ∧ ∀ r ∈ rs, H1 r.1 = none) ?_ (fun j H2 _ h => SqL.of (h.1 _ _ h1)) ?_ ?_⟩
      · exact ⟨same_new nD, [], upd_same, fun q mq => by simp at mq, fun q mq => by simp at mq, rfl, fun q mq => by simp at mq⟩
      · rintro j y H2 hy ⟨s2, rs, hD, rD, rt, er, nrs⟩
        obtain ⟨q, hq, rfl⟩ := ref_at hy
        have mq := List.mem_of_getElem? hq
        have lj := (List.getElem?_eq_some_iff.mp hq).1
        have hqt := s2 _ _ (st q mq)
        have rl : rs.length ≤ 256 := by
          have e := congrArg List.length er
          rw [List.length_map, List.length_map, List.length_map, List.length_take] at e
          omega
        refine ⟨rfl, .ref q.1, rfl, .str z, rfl, by show 1 ≤ sizeLine; decide, fun l1 nl1 => ⟨q.1, l1, _, _, rfl, rfl, same_new nl1 _ _ hqt, upd_same, ?_, fun t nt => ⟨rs.map fun q => V.ref q.1, ?_, ?_, ?_, rs ++ [(t, q.2 ++ [z])], ?_, ?_, ?_, ?_, ?_⟩⟩⟩
        · rw [List.length_map]
          exact Nat.le_of_lt (small1000 (by have := short q mq; show q.2.length + 1 ≤ 1000; omega))
        · exact (same_new (o := .lst [.str z]) nl1).trans (same_new nt) _ _ hD
        · rw [List.length_map]
          exact small1000 (by omega)
        · intro d o e
          rw [upd_ne (ne_of_none e nD)]
          exact (same_new (o := .lst [.str z]) nl1).trans (same_new nt) _ _ (s2 d o e)
        · rw [upd_same, List.map_append]
          rfl
        · intro r mr
          rcases List.mem_append.mp mr with mr | mr
          · exact rD r mr
          · rw [List.mem_singleton.mp mr]
            exact (ne_of_none (same_new (o := .lst [.str z]) nl1 _ _ hD) nt).symm
        · intro r mr
          rcases List.mem_append.mp mr with mr | mr
          · rw [upd_ne (rD r mr)]
            exact (same_new (o := .lst [.str z]) nl1).trans (same_new nt) _ _ (rt r mr)
          · rw [List.mem_singleton.mp mr]
            show upd (upd _ t _) D _ t = _
            rw [upd_ne (ne_of_none (same_new (o := .lst [.str z]) nl1 _ _ hD) nt).symm, upd_same, List.map_append]
            rfl
        · rw [List.map_append, er, List.take_add_one, hq, List.map_append, List.map_append]
          rfl
        · intro r mr
          rcases List.mem_append.mp mr with mr | mr
          · exact nrs r mr
          · rw [List.mem_singleton.mp mr]
            exact s2.free ((same_new (o := .lst [.str z]) nl1).free nt)
      · rintro H2 ⟨s2, rs, hD, rD, rt, er, nrs⟩
        rw [List.length_map, List.take_length] at er
        have rl : rs.length ≤ 256 := by
          have e := congrArg List.length er
          rw [List.length_map, List.length_map, List.length_map] at e
          omega
        refine ⟨fl, D, _, _, rfl, rfl, s2 _ _ h1, hD, ?_, fun l2 nl2 => ?_⟩
        · rw [List.length_map, List.length_map]
          exact Nat.le_of_lt (small1000 (by omega))
        · have s3 := same_new (o := .lst (qs.map (fun q => V.ref q.1) ++ rs.map fun q => V.ref q.1)) nl2
          refine ⟨l2, qs ++ rs, _, _, rfl, (s1.trans s2).trans s3, by rw [upd_same, List.map_append], fun q mq => ?_, ?_, (s1.trans s2).free nl2, fun q mq => ?_⟩
          · rcases List.mem_append.mp mq with mq | mq
            · exact s3 _ _ (s2 _ _ (st q mq))
            · exact s3 _ _ (rt q mq)
          · rw [List.map_append, er, eq, subs_take hz]
            rfl
          · rcases List.mem_append.mp mq with mq | mq
            · exact nqs q mq
            · exact s1.free (nrs q mq)
    · rintro σ H1 ⟨fl, qs, y2, y3, rfl, s1, h1, st, eq, nfl, nqs⟩
      rw [List.length_map, List.take_length] at eq
      exact ⟨.ref fl, rfl, q fl qs H1 s1 nfl nqs h1 st eq⟩
end
end Moot
set_option linter.all false
namespace Moot
open PySem PySem.Spec PyProof.Rows L2
/-! the minimal sets, found one by one -/
theorem toks_inj : ∀ {a b : List Str}, PySem.W.keyToksAll (a.map PyData.str) = PySem.W.keyToksAll (b.map PyData.str) → a = b
  | [], [], _ => rfl
  | [], y :: b, h => by
    exfalso
    have h' : [Sum.inl (0 : Int)] = Sum.inl 1 :: ([Sum.inr y.cps.toList] ++ PySem.W.keyToksAll (b.map PyData.str)) := h
    have e := (List.cons.inj h').1
    have := Sum.inl.inj e
    omega
  | x :: a, [], h => by
    exfalso
    have h' : Sum.inl (1 : Int) :: ([Sum.inr x.cps.toList] ++ PySem.W.keyToksAll (a.map PyData.str)) = [Sum.inl 0] := h
    have e := (List.cons.inj h').1
    have := Sum.inl.inj e
    omega
  | x :: a, y :: b, h => by
    have h' : Sum.inl (1 : Int) :: Sum.inr x.cps.toList :: PySem.W.keyToksAll (a.map PyData.str) = Sum.inl 1 :: Sum.inr y.cps.toList :: PySem.W.keyToksAll (b.map PyData.str) := h
    have e1 := (List.cons.inj (List.cons.inj h').2).1
    have e2 := (List.cons.inj (List.cons.inj h').2).2
    rw [PySem.W.str_of_cps (Sum.inr.inj e1), toks_inj e2]
theorem key_inj {a b : List Str} (h : PySem.W.keyToks (keyD a) = PySem.W.keyToks (keyD b)) : a = b := by
  have h' : Sum.inl (1 : Int) :: Sum.inl (a.length : Int) :: Sum.inl 1 :: (PySem.W.keyToksAll (a.map PyData.str) ++ [Sum.inl 0]) = Sum.inl (1 : Int) :: Sum.inl (b.length : Int) :: Sum.inl 1 :: (PySem.W.keyToksAll (b.map PyData.str) ++ [Sum.inl 0]) := h
  have e := (List.cons.inj (List.cons.inj (List.cons.inj h').2).2).2
  exact toks_inj (List.append_cancel_right e)
abbrev kLe : List Str → List Str → Bool := PySem.W.dataLe false keyD
theorem kLe_anti {a b : List Str} (h1 : kLe a b = true) (h2 : kLe b a = true) : a = b := by
  have h1' : (!(listOrd itemOrd).blt (PySem.W.keyToks (keyD b)) (PySem.W.keyToks (keyD a))) = true := h1
  have h2' : (!(listOrd itemOrd).blt (PySem.W.keyToks (keyD a)) (PySem.W.keyToks (keyD b))) = true := h2
  rw [Bool.not_eq_true'] at h1' h2'
  exact key_inj ((listOrd itemOrd).total _ _ h2' h1')
theorem srt_pairs (l : List (List Str)) : (srt l).Pairwise fun a b => kLe a b = true := by
  have T := PySem.W.sortLe_total (listOrd itemOrd) false fun b : List Str => PySem.W.keyToks (keyD b)
  exact List.pairwise_mergeSort (le := kLe) (fun a b c h1 h2 => T.trans a b c h1 h2) (fun a b => Bool.or_eq_true_iff.mpr (T.total a b)) l
theorem kLe_len {a b : List Str} (h : kLe a b = true) : a.length ≤ b.length := by
  have h' : (!PyProof.Rows.lexLt itemOrd (PySem.W.keyToks (keyD b)) (PySem.W.keyToks (keyD a))) = true := h
  rw [Bool.not_eq_true'] at h'
  refine Nat.le_of_not_lt fun c => ?_
  have ne : (Sum.inl (b.length : Int) : Int ⊕ List Nat) ≠ Sum.inl (a.length : Int) := fun z => by
    have := Sum.inl.inj z
    omega
  have e : PyProof.Rows.lexLt itemOrd (PySem.W.keyToks (keyD b)) (PySem.W.keyToks (keyD a)) = PyProof.Rows.lexLt itemOrd [Sum.inl (b.length : Int)] [Sum.inl (a.length : Int)] :=
    (PySem.W.lex_pre [Sum.inl 1] _ _).trans (PySem.W.lex_atom ne _ _)
  rw [e] at h'
  have k : PyProof.Rows.lexLt itemOrd [Sum.inl (b.length : Int)] [Sum.inl (a.length : Int)] = true := by
    have l : itemLt (Sum.inl (b.length : Int)) (Sum.inl (a.length : Int)) = true := decide_eq_true (by omega)
    exact (PyProof.Rows.lex_diff ne).trans l
  rw [k] at h'
  cases h'
/-! sets of the names -/
theorem snoc_ind {P : List Str → Prop} (h0 : P []) (h1 : ∀ a x, P a → P (a ++ [x])) (l : List Str) : P l := by
  have : ∀ n, ∀ l : List Str, l.length = n → P l := by
    intro n
    induction n with
    | zero => intro l e; rw [List.eq_nil_of_length_eq_zero e]; exact h0
    | succ n ih =>
      intro l e
      have ne : l ≠ [] := fun z => by rw [z] at e; cases e
      obtain ⟨a, y, rfl⟩ : ∃ a y, l = a ++ [y] := ⟨_, _, (List.dropLast_concat_getLast ne).symm⟩
      rw [List.length_append, List.length_singleton] at e
      exact h1 a y (ih a (by omega))
  exact this _ l rfl
theorem subs_own {ns : List Str} : ns.Nodup → ∀ {s : List Str}, s ∈ subs ns → ns.filter (fun x => decide (x ∈ s)) = s := by
  refine snoc_ind (P := fun ns => ns.Nodup → ∀ {s : List Str}, s ∈ subs ns → ns.filter (fun x => decide (x ∈ s)) = s) ?_ ?_ ns
  · intro _ s h
    rw [List.mem_singleton.mp h]
    rfl
  · intro a x ih nd s h
    rw [List.nodup_append] at nd
    obtain ⟨nda, _, dis⟩ := nd
    have xa : x ∉ a := fun m => dis x m x List.mem_cons_self rfl
    rw [subs_snoc] at h
    rw [List.filter_append]
    rcases List.mem_append.mp h with h | h
    · have xs : x ∉ s := fun m => xa (subs_in h x m)
      rw [ih nda h, List.filter_cons_of_neg (by simpa using xs)]
      exact List.append_nil _
    · obtain ⟨t, ht, rfl⟩ := List.mem_map.mp h
      rw [List.filter_cons_of_pos (by simp)]
      have e : a.filter (fun y => decide (y ∈ t ++ [x])) = a.filter (fun y => decide (y ∈ t)) := List.filter_congr fun y my => by
        have : y ≠ x := fun z => xa (z ▸ my)
        simp [this]
      rw [e, ih nda ht]
      rfl
theorem subs_nodup {ns : List Str} : ns.Nodup → (subs ns).Nodup := by
  refine snoc_ind (P := fun ns => ns.Nodup → (subs ns).Nodup) ?_ ?_ ns
  · intro _
    exact List.pairwise_singleton _ _
  · intro a x ih nd
    rw [List.nodup_append] at nd
    obtain ⟨nda, _, dis⟩ := nd
    have xa : x ∉ a := fun m => dis x m x List.mem_cons_self rfl
    rw [subs_snoc, subStep, List.nodup_append]
    refine ⟨ih nda, ?_, fun s hs t ht e => ?_⟩
    · exact List.Pairwise.map _ (fun s t ne z => ne (List.append_cancel_right z)) (ih nda)
    · obtain ⟨u, _, rfl⟩ := List.mem_map.mp ht
      exact xa (subs_in hs x (e ▸ List.mem_append_right _ List.mem_cons_self))
theorem sub_nodup {ns s : List Str} (nd : ns.Nodup) (h : s ∈ subs ns) : s.Nodup := by
  rw [← subs_own nd h]
  exact nd.filter _
theorem sub_filter {ns s : List Str} (nd : ns.Nodup) (h : s ∈ subs ns) (p : Str → Bool) : s.filter p ∈ subs ns := by
  have e : s.filter p = ns.filter fun x => decide (x ∈ s) && p x := by
    conv => lhs; rw [← subs_own nd h]
    rw [List.filter_filter]
    exact List.filter_congr fun x _ => Bool.and_comm _ _
  rw [e]
  exact subs_filter _ ns
theorem sub_one {ns s t : List Str} (nd : ns.Nodup) (hs : s ∈ subs ns) (ht : t ∈ subs ns) (h : ∀ x, x ∈ s ↔ x ∈ t) : s = t := by
  rw [← subs_own nd hs, ← subs_own nd ht]
  exact List.filter_congr fun x _ => decide_eq_decide.mpr (h x)
/-! what is kept -/
theorem mins_sub : ∀ (l kept : List (List Str)), ∃ r, l.foldl minStep kept = kept ++ r ∧ r.Sublist l
  | [], kept => ⟨[], (List.append_nil _).symm, List.Sublist.refl _⟩
  | s :: l, kept => by
    obtain ⟨r, e, h⟩ := mins_sub l (minStep kept s)
    show ∃ r, l.foldl minStep (minStep kept s) = _ ∧ _
    rw [e]
    unfold minStep
    split
    · exact ⟨r, rfl, h.cons s⟩
    · exact ⟨s :: r, by rw [List.append_assoc]; rfl, h.cons_cons s⟩
theorem mins_apart : ∀ (l kept : List (List Str)), kept.Pairwise (fun a b => ¬ ∀ x ∈ a, x ∈ b) → (l.foldl minStep kept).Pairwise fun a b => ¬ ∀ x ∈ a, x ∈ b
  | [], _, h => h
  | s :: l, kept, h => mins_apart l (minStep kept s) (by
    unfold minStep
    split
    · exact h
    · rename_i c
      rw [List.pairwise_append]
      refine ⟨h, List.pairwise_singleton _ _, fun a ma b mb k => c (List.any_eq_true.mpr ⟨a, ma, List.all_eq_true.mpr fun x mx => ?_⟩)⟩
      rw [List.mem_singleton.mp mb] at k
      exact decide_eq_true (k x mx))
/-- without one name the set does it no more -/
def minimal (p : List Str → Bool) (s : List Str) : Bool := p s && !(s.map fun g => s.filter fun x => decide (x ≠ g)).any p
theorem minimal_iff {p : List Str → Bool} {s : List Str} : minimal p s = true ↔ p s = true ∧ ∀ g ∈ s, p (s.filter fun x => decide (x ≠ g)) = false := by
  unfold minimal
  rw [Bool.and_eq_true, Bool.not_eq_true', List.any_eq_false]
  constructor
  · rintro ⟨h, k⟩
    exact ⟨h, fun g mg => Bool.eq_false_iff.mpr (k _ (List.mem_map.mpr ⟨g, mg, rfl⟩))⟩
  · rintro ⟨h, k⟩
    refine ⟨h, fun t mt => ?_⟩
    obtain ⟨g, mg, rfl⟩ := List.mem_map.mp mt
    rw [k g mg]
    exact Bool.false_ne_true
theorem filter_lt {s : List Str} {g : Str} (h : g ∈ s) : (s.filter fun x => decide (x ≠ g)).length < s.length := by
  refine List.length_filter_lt_length_iff_exists.mpr ⟨g, h, ?_⟩
  simp
theorem kept_is {ns : List Str} (nd : ns.Nodup) {p : List Str → Bool} (mono : ∀ s ∈ subs ns, ∀ t ∈ subs ns, (∀ x ∈ s, x ∈ t) → p s = true → p t = true) : mins ((srt (subs ns)).filter p) = srt ((subs ns).filter (minimal p)) := by
  have ndS : (srt (subs ns)).Nodup := (List.mergeSort_perm (subs ns) _).nodup_iff.mpr (subs_nodup nd)
  obtain ⟨r, er, hr⟩ := mins_sub ((srt (subs ns)).filter p) []
  have sl : (mins ((srt (subs ns)).filter p)).Sublist (srt (subs ns)) := by
    unfold mins
    rw [er, List.nil_append]
    exact hr.trans List.filter_sublist
  have pw : (mins ((srt (subs ns)).filter p)).Pairwise fun a b => kLe a b = true := (srt_pairs _).sublist sl
  have ap : (mins ((srt (subs ns)).filter p)).Pairwise fun a b => ¬ ∀ x ∈ a, x ∈ b := mins_apart _ [] List.Pairwise.nil
  have inM : ∀ {s}, s ∈ mins ((srt (subs ns)).filter p) → s ∈ subs ns ∧ p s = true := fun {s} h => by
    rcases mins_mem h with z | z
    · simp at z
    · exact ⟨srt_mem.mp (List.mem_filter.mp z).1, (List.mem_filter.mp z).2⟩
  have below : ∀ {s}, s ∈ subs ns → p s = true → ∃ m ∈ mins ((srt (subs ns)).filter p), ∀ x ∈ m, x ∈ s := fun {s} h1 h2 => mins_below (kept := []) (List.mem_filter.mpr ⟨srt_mem.mpr h1, h2⟩)
  refine List.Perm.eq_of_pairwise (le := fun a b => kLe a b = true) (fun a b _ _ h1 h2 => kLe_anti h1 h2) pw (srt_pairs _) ((List.perm_ext_iff_of_nodup (ndS.sublist sl) ((List.mergeSort_perm _ _).nodup_iff.mpr ((subs_nodup nd).filter _))).mpr fun s => ?_)
  show s ∈ mins ((srt (subs ns)).filter p) ↔ s ∈ srt ((subs ns).filter (minimal p))
  rw [srt_mem, List.mem_filter, minimal_iff]
  constructor
  · intro h
    obtain ⟨h1, h2⟩ := inM h
    refine ⟨h1, h2, fun g mg => ?_⟩
    cases e : p (s.filter fun x => decide (x ≠ g)) with
    | false => rfl
    | true =>
      exfalso
      obtain ⟨m, mm, k⟩ := below (sub_filter nd h1 _) e
      have ms : ∀ x ∈ m, x ∈ s := fun x mx => (List.mem_filter.mp (k x mx)).1
      have short : m.length < s.length := Nat.lt_of_le_of_lt (nodup_le (sub_nodup nd (inM mm).1) k) (filter_lt mg)
      -- both are kept: the smaller one stands first, and bars the larger
      have both : ∀ {l : List (List Str)}, (l.Pairwise fun a b => kLe a b = true) → (l.Pairwise fun a b => ¬ ∀ x ∈ a, x ∈ b) → m ∈ l → s ∈ l → False := by
        intro l
        induction l with
        | nil => intro _ _ h; simp at h
        | cons y l ih =>
          intro q1 q2 h1 h2
          obtain ⟨a1, a2⟩ := List.pairwise_cons.mp q1
          obtain ⟨b1, b2⟩ := List.pairwise_cons.mp q2
          rcases List.mem_cons.mp h1 with c1 | c1
          · rcases List.mem_cons.mp h2 with c2 | c2
            · rw [c1, c2] at short
              exact Nat.lt_irrefl _ short
            · exact b1 s c2 (c1 ▸ ms)
          · rcases List.mem_cons.mp h2 with c2 | c2
            · have := kLe_len (a1 m c1)
              rw [← c2] at this
              omega
            · exact ih a2 b2 c1 c2
      exact both pw ap mm h
  · rintro ⟨h1, h2, h3⟩
    obtain ⟨m, mm, k⟩ := below h1 h2
    by_cases c : ∀ x ∈ s, x ∈ m
    · rw [sub_one nd h1 (inM mm).1 fun x => ⟨c x, k x⟩]
      exact mm
    · exfalso
      obtain ⟨g, hg⟩ := Classical.not_forall.mp c
      obtain ⟨mg, ng⟩ := Classical.not_imp.mp hg
      have e := h3 g mg
      rw [mono m (inM mm).1 _ (sub_filter nd h1 _) (fun x mx => List.mem_filter.mpr ⟨k x mx, decide_eq_true (show x ≠ g from fun z => ng (z ▸ mx))⟩) (inM mm).2] at e
      cases e
end Moot
set_option linter.all false
namespace Moot
open PySem PySem.Spec PyProof.Rows L2 LamX NdefX
/-! lambdas as values -/
/-- the object at f is this lambda -/
def LamO (f : Addr) (q : Str) (params : Arguments) (body : Expr) (scope : Scope) (cl : List (Str × Addr)) (c : Addr) : HO :=
  .ext fun h => ∃ pm ctv : Value, h.get? f = some (PySem.W.kla_obj "<lambda>" q params body scope cl pm c ctv)
theorem lamO_ne {f c : Addr} {q : Str} {params : Arguments} {body : Expr} {scope : Scope} {cl : List (Str × Addr)} (ps : Array Value) : LamO f q params body scope cl c ≠ .tbl ps := fun z => by
  unfold LamO at z
  cases z
section
variable {X : Cx} {pins : List (Addr × Obj)} {σ : L2.St} {H : Hp} {s : Shared}
theorem lam_put {q : Str} {params : Arguments} {body : Expr} {scope : Scope} {cl : List (Str × Addr)} {pm ctv : Value} {c' : Addr} {t' : Nat} (I : Inv X pins σ H s) :
    Inv X pins σ (upd H s.heap.objs.size (LamO s.heap.objs.size q params body scope cl c')) { s with heap := s.heap.push (PySem.W.kla_obj "<lambda>" q params body scope cl pm c' ctv), toks := t' } := by
  have e : (s.heap.push (PySem.W.kla_obj "<lambda>" q params body scope cl pm c' ctv)).get? s.heap.objs.size = some (PySem.W.kla_obj "<lambda>" q params body scope cl pm c' ctv) := Heap.get?_push_size _ rfl
  refine I.laid (a := s.heap.objs.size) (fun b u h => Heap.get?_push_of_some _ h) (Nat.le_refl _) ?_
  exact ⟨⟨pm, ctv, e⟩, ⟨_, e⟩, fun h1 h2 ⟨p, t, z⟩ st => ⟨p, t, st _ z⟩⟩
/-- a lambda is made -/
theorem lam_new {T : List (Addr × Str)} {c P : Addr} {q : Str} {params : Arguments} {body : Expr} {scope : Scope} {pos : Pos} {E : Value → Shared → Prop} {Q : Value → Shared → Prop} (I : Inv X pins σ H s) (TB : TabB X.base X.mg c P) (hcode : X.env.code = .ref c)
    (hq : X.env.qual ++ "<lambda>" = q) (hm : (P, q) ∈ T) (hu : ∀ p ∈ T, p.1 = P → p.2 = q) (hT : Tabs T H) (hdef : defaultsOf params X.env = ([], [])) (hfree : ∀ y ∈ scope.names, y.2 = .free → ∃ c, X.env.cells.lookup y.1 = some c)
    (h : ∀ (f c' : Addr) (H1 : Hp) (s' : Shared), Inv X pins σ H1 s' → ExtN H H1 → Tabs T H1 → H f = none → H1 f = some (LamO f q params body scope (cloFrom X.env.cells scope.names []) c') → H1 c' = some (CodeO c' q) → Q (.ref f) s') :
    wpAny (model X.prog X.w) X.A (eval (.Lambda params body scope pos) X.env) Q E s := by
  subst hq
  obtain ⟨ps, hP, ht, ha⟩ := hT _ hm
  have at_P : s.heap.get? P = some { cls := .none, data := .fields ps } := I.hok P _ hP
  refine PySem.W.kla_eval hdef ?_
  cases known : codeAmong pos ps.toList with
  | some cv =>
    obtain ⟨c', rfl, hco⟩ := ha pos cv known
    refine PySem.W.kla_makeFunctionHit (mg := X.mg) (c := c) (P := P) (ps := ps) (closure_ok hfree) I.ok.glob (I.mod.glob.keeps I.bk) hcode (TB.code.keeps I.bk) at_P ht known (TB.bm.keeps I.bk) fun ctv h' tk hx hsz => ?_
    have J : Inv X pins σ H { s with heap := h', toks := tk } := I.kept hx
    have new : H h'.objs.size = none := J.hok.fresh (Nat.le_refl _)
    refine h h'.objs.size c' _ _ (lam_put (t' := tk) J) (fun b o e _ => (upd_ne (ne_of_none e new)).trans e) (hT.ext fun b o e => (upd_ne (ne_of_none e new)).trans e) new upd_same ((upd_ne (ne_of_none hco new)).trans hco)
  | none =>
    refine PySem.W.kla_makeFunction (mg := X.mg) (c := c) (P := P) (ps := ps) (closure_ok hfree) I.ok.glob (I.mod.glob.keeps I.bk) hcode (TB.code.keeps I.bk) at_P ht known TB.gP (TB.bm.keeps I.bk) fun c' ctv h' tk hx hge hlt hrec htb => ?_
    obtain ⟨c2, oc, vs, t, e2, hoc, hd, hv⟩ := hrec
    cases e2
    have newC : H c' = none := I.hok.fresh hge
    have J := inv_table (t' := tk) (more := #[rawInt pos.line, rawInt pos.col, .ref c']) (h' := h') I hP (fun b o hb e => hx b o hb e) htb hge ⟨oc, vs, t, hoc, hd, hv⟩
    generalize hH1 : upd (upd H P (.tbl (ps ++ #[rawInt pos.line, rawInt pos.col, .ref c']))) c' (CodeO c' (X.env.qual ++ "<lambda>")) = H1 at J
    have atC : H1 c' = some (CodeO c' (X.env.qual ++ "<lambda>")) := by rw [← hH1, upd_same]
    have atP : H1 P = some (.tbl (ps ++ #[rawInt pos.line, rawInt pos.col, .ref c'])) := by rw [← hH1, upd_ne (ne_of_none hP newC), upd_same]
    have other : ∀ b o, H b = some o → b ≠ P → H1 b = some o := fun b o e n => by rw [← hH1, upd_ne (ne_of_none e newC), upd_ne n]; exact e
    have ext : ExtN H H1 := fun b o e n => other b o e fun z => n ps (Option.some.inj (e.symm.trans (by rw [z]; exact hP)))
    have tabs : Tabs T H1 := fun p hp => by
      by_cases hb : p.1 = P
      · rw [hu p hp hb, hb]
        have eL : (ps ++ #[rawInt pos.line, rawInt pos.col, .ref c']).toList = ps.toList ++ [rawInt pos.line, rawInt pos.col, .ref c'] := by simp
        refine ⟨_, atP, by rw [eL]; exact PySem.TriplesOk_snoc _ _ _ _ ht, fun p' cv hcv => ?_⟩
        rw [eL] at hcv
        rcases among_app _ ht hcv with z | z
        · obtain ⟨c0, e1, e2⟩ := ha p' cv z
          exact ⟨c0, e1, ext _ _ e2 codeO_ne⟩
        · exact ⟨c', z, atC⟩
      · obtain ⟨ps', a1, a2, a3⟩ := hT p hp
        refine ⟨ps', other _ _ a1 hb, a2, fun p' cv hcv => ?_⟩
        obtain ⟨c0, e1, e2⟩ := a3 p' cv hcv
        exact ⟨c0, e1, ext _ _ e2 codeO_ne⟩
    have new : H1 h'.objs.size = none := J.hok.fresh (Nat.le_refl _)
    have newF : H h'.objs.size = none := I.hok.fresh (Nat.le_trans hge (Nat.le_of_lt hlt))
    exact h h'.objs.size c' _ _ (lam_put (t' := tk) J) (fun b o e n => (upd_ne (ne_of_none e newF)).trans (ext b o e n)) (tabs.ext fun b o e => (upd_ne (ne_of_none e new)).trans e) newF upd_same ((upd_ne (ne_of_none atC new)).trans atC)
/-- lambda ..: .. -/
def tLamV (T : List (Addr × Str)) (q : Str) (params : Arguments) (body : Expr) (scope : Scope) (cl : List (Str × Addr)) : TE := fun _ H Q =>
  Tabs T H ∧ ∀ (f c' : Addr) (H1 : Hp), ExtN H H1 → Tabs T H1 → H f = none → H1 f = some (LamO f q params body scope cl c') → H1 c' = some (CodeO c' q) → Q (.ref f) H1
theorem pe_lam {T : List (Addr × Str)} {c P : Addr} {q : Str} {params : Arguments} {body : Expr} {scope : Scope} {pos : Pos} (TB : TabB X.base X.mg c P) (hcode : X.env.code = .ref c) (hq : X.env.qual ++ "<lambda>" = q) (hm : (P, q) ∈ T) (hu : ∀ p ∈ T, p.1 = P → p.2 = q)
    (hdef : defaultsOf params X.env = ([], [])) (hfree : ∀ y ∈ scope.names, y.2 = .free → X.env.scope.names.lookup y.1 = some .cell ∨ X.env.scope.names.lookup y.1 = some .free) :
    PE X (.Lambda params body scope pos) (tLamV T q params body scope (cloFrom X.env.cells scope.names [])) := by
  refine ⟨fun pins s σ H Q I h => ?_⟩
  obtain ⟨hT, h⟩ := h
  exact lam_new I TB hcode hq hm hu hT hdef (fun y hy e => (hfree y hy e).elim (fun z => I.ok.has _ (.inl z)) fun z => I.ok.has _ (.inr z)) fun f c' H1 s' I1 eN T1 f0 f1 c1 => ⟨.ref f, H1, I1, rfl, h f c' H1 eN T1 f0 f1 c1⟩
end
end Moot
set_option linter.all false
namespace Moot
open PySem PySem.Spec PyProof.Rows L2 LamX NdefX
/-- a lambda stands at f -/
def VAt (H : Hp) (f : Addr) : Prop := ∃ (q : Str) (params : Arguments) (body : Expr) (scope : Scope) (cl : List (Str × Addr)) (c : Addr), H f = some (LamO f q params body scope cl c)
theorem VAt.fn {P : Program} {w : World} {H : Hp} {h : Heap} {f : Addr} (hok : HOk P w H h) (v : VAt H f) : PySem.W.FnAt f h := by
  obtain ⟨q, params, body, scope, cl, c, e⟩ := v
  obtain ⟨⟨pm, ctv, ho⟩, _⟩ := hok f _ e
  exact ⟨_, _, _, _, ho⟩
/-- what a call of the value f gives -/
structure VOk (P : Program) (w : World) (K : PySem.W.Frag) (mg : Str → Option Value) (base : Heap) (k : Nat) (f : Addr) (sp : List V → Hp → VK → Prop) : Prop where
  run : ∀ (A : Around) (outer : List Env) (s : Shared) (H : Hp) (us : List Value) (vs : List V) (Q : VK), Room k A → Env0 P w K mg base A outer s H → Vals vs us → sp vs H Q → codeAny (model P w) A (.call (.ref f) ⟨us, []⟩) (CR CX0 outer P w H s Q E0) s
def tCallV (f : Addr) (i : Nat) (sp : List V → Hp → VK → Prop) (t : TA) : TE := fun σ H Q => σ[i]? = some (some (.ref f)) ∧ VAt H f ∧ t σ H fun vs H1 => VAt H1 f ∧ sp vs H1 Q
theorem pe_callV {X : Cx} {k i : Nat} {f : Addr} {x : Str} {sp : List V → Hp → VK → Prop} {t : TA} {e : Expr} {es : List Expr} {p pos : Pos} (V : VOk X.prog X.w X.K X.mg X.base k f sp) (hr : Room k X.A) (hN : X.N[i]? = some x) (hv : Vis X.env.scope x) (ha : PA X (e :: es) t)
    (hd : (x == ("__debug__" : Str)) = false := by decide) (hcd : (x == ("__classdict__" : Str)) = false := by decide)
    (he : starEach (e :: es) X.env = (false, eval e X.env) :: starEach es X.env := by rfl) (hpl : (backTo pos (starEach es X.env)).any (·.1) = false := by rfl) :
    PE X (.Call (.Name x p) (e :: es) [] pos) (tCallV f i sp t) := by
  refine ⟨fun pins s σ H Q I h => ?_⟩
  obtain ⟨hs, hf, ht⟩ := h
  refine wpAny_Call_Name_kw (thn ((pe_var (pos := p) hN hv hd hcd).run pins s σ H (fun v H1 => v = .ref f ∧ H1 = H) I ⟨.ref f, hs, rfl, rfl⟩) fun u s1 ⟨v, H1, I1, r1, q1⟩ => ?_)
  obtain ⟨ev, eH⟩ := q1
  subst ev
  rw [eH] at I1
  obtain rfl : u = Value.ref f := r1
  refine PySem.W.callWith_F (first := []) (hf.fn I1.hok) (thn (ha.run pos pins s1 σ H _ I1 ht) fun us s2 ⟨vs, H2, I2, r, h1, q⟩ => ⟨h1.fn I2.hok, ?_⟩) he hpl
  show wpAny _ _ (call (.ref f) us) _ _ _
  refine wpAny_call (codeAny_mono (V.run X.A X.stack s2 H2 us vs Q hr I2.env0 r q) fun r s' hq => ?_)
  cases r with
  | error e => exact hq.elim
  | ok fl =>
    cases fl with
    | ret u => exact I2.after hq
    | next => exact hq.elim
    | brk => exact hq.elim
    | cont => exact hq.elim
section
variable {P : Program} {w : World} {K : PySem.W.Frag} {mg : Str → Option Value} {base : Heap}
/-- a lambda's call, by its body -/
theorem lam_run {N ps fr : List Str} {q : Str} {params : Arguments} {body : Expr} {scope : Scope} {cl : List (Str × Addr)} {f c' : Addr} {k : Nat} (S : NScope N ps fr scope) {A : Around} {outer : List Env} {s : Shared} {H : Hp} {us : List Value} {vs : List V} {ws : List (Option V)} {Q : VK}
    (hb : ∀ pm ctv : Value, bindArgs (PySem.W.kla_fn "<lambda>" q params body scope cl pm (.ref c') ctv) ⟨us, []⟩ = pure (ps.zip us)) (hr : Room (k + 1) A) (e0 : Env0 P w K mg base A outer s H) (hf : H f = some (LamO f q params body scope cl c')) (hc : H c' = some (CodeO c' q))
    (C : CellsAt cl fr ws s.heap H) (r : Vals vs us) (hl : vs.length = ps.length)
    (hbody : Room k (A.deeper (envF ⟨"<lambda>", q, params, [], scope, cl, c'⟩ f s.heap.objs.size)) → ∃ tb, PE (ncx CX0 P w K mg base N ⟨"<lambda>", q, params, [], scope, cl, c'⟩ f A outer s H E0) body tb ∧ tb (startF N vs ws) H Q) :
    codeAny (model P w) A (.call (.ref f) ⟨us, []⟩) (CR CX0 outer P w H s Q E0) s := by
  have lim : s.heap.NoLimit := e0.mod.nolimit.keeps fun b o e => (e0.bs b o e).1
  obtain ⟨⟨pm, ctv, ho⟩, _⟩ := e0.hok f _ hf
  refine PySem.W.kla_callFunE hr.depth ho rfl S.co S.gen rfl (codeO_at e0.hok hc) ?_
  rw [hb pm ctv]
  refine wpAny_pure (wpAny_newFunctionEnv S.nocell (fun ⟨n, _⟩ hy => S.par n (List.of_mem_zip hy).1) (fun h₁ hns hsb => ⟨lim.fresh _ hsb, ?_⟩) S.kind)
  show codeAny _ _ (.expr body (envF ⟨"<lambda>", q, params, [], scope, cl, c'⟩ f s.heap.objs.size)) _ _
  have kp : ∀ b o, s.heap.get? b = some o → h₁.get? b = some o := fun b o e => hsb.extBut b o (Nat.ne_of_lt (Heap.lt_size e)) (Heap.get?_push_of_some _ e)
  obtain ⟨tb, hp, ht⟩ := hbody (hr.deeper _)
  have I : Inv (ncx CX0 P w K mg base N ⟨"<lambda>", q, params, [], scope, cl, c'⟩ f A outer s H E0) [] (startF N vs ws) H { s with heap := h₁, toks := s.toks + (ps.zip us).length } := inv_startN (F := ⟨"<lambda>", q, params, [], scope, cl, c'⟩) S hr.hd e0 hl r C hns kp
  refine PySem.W.kla_codeExpr (wpAny_mono (hp.run [] _ _ H Q I ht) (fun v s' hq => ?_) fun e s' hq => hq)
  obtain ⟨v', H', J, rv, q⟩ := hq
  exact ⟨v', H', J.os, J.bare, J.base, J.hok, rv, q⟩
/-! a cell, lent -/
def del (H : Hp) (c : Addr) : Hp := fun b => if b = c then none else H b
theorem del_at {H : Hp} {c : Addr} : del H c c = none := if_pos rfl
theorem del_ne {H : Hp} {b c : Addr} (h : b ≠ c) : del H c b = H b := if_neg h
/-- the cell's object o is known -/
abbrev CellF (o : Obj) : HO := .frz o (.own 0)
theorem hok_del {H : Hp} {h : Heap} {c : Addr} {o : Obj} (hok : HOk P w H h) (hc : H c = some (CellF o)) : HOk P w (del H c) h := fun b u e => by
  have ne : b ≠ c := fun z => by rw [z, del_at] at e; cases e
  rw [del_ne ne] at e
  exact (hok b u e).stay (fun _ _ _ q => q) (fun d q => by rw [del_ne (ne_of q hc fun z => by cases z)]; exact q) fun d xs q => by rw [del_ne (ne_of q hc fun z => by cases z)]; exact q
theorem hok_put {H : Hp} {h : Heap} {c : Addr} {o : Obj} (hok : HOk P w H h) (hc : H c = none) (ho : h.get? c = some o) : HOk P w (upd H c (CellF o)) h := fun b u e => by
  by_cases z : b = c
  · rw [z, upd_same] at e
    cases Option.some.inj e
    rw [z]
    exact ⟨ho, o, ho⟩
  · rw [upd_ne z] at e
    exact (hok b u e).stay (fun _ _ _ q => q) (fun d q => by rw [upd_ne (ne_of_none q hc)]; exact q) fun d xs q => by rw [upd_ne (ne_of_none q hc)]; exact q
/-- taken back for a call, lent again behind it -/
theorem lent_call {A : Around} {outer : List Env} {s : Shared} {H : Hp} {c : Addr} {o : Obj} {Q : VK} {call : Code} (e0 : Env0 P w K mg base A outer s H) (hc : H c = some (CellF o))
    (run : Env0 P w K mg base A outer s (del H c) → codeAny (model P w) A call (CR CX0 outer P w (del H c) s (fun v H' => Q v (upd H' c (CellF o))) E0) s) : codeAny (model P w) A call (CR CX0 outer P w H s Q E0) s := by
  have ho := (e0.hok c _ hc).1
  have nf : c ∉ frs outer := fun z => by rw [e0.frf c z] at hc; cases hc
  have low : ∀ {b}, H b = none → del H c b = none := fun {b} e => by
    by_cases z : b = c
    · rw [z]; exact del_at
    · rw [del_ne z]; exact e
  refine codeAny_mono (run ⟨e0.frames, e0.mod, fun b x e => ⟨(e0.bs b x e).1, low (e0.bs b x e).2⟩, e0.bsz, e0.funs, fun b z => low (e0.frf b z), hok_del e0.hok hc, e0.bare⟩) fun r s' hq => ?_
  cases r with
  | error e => exact hq
  | ok fl =>
    cases fl with
    | next => exact hq
    | brk => exact hq
    | cont => exact hq
    | ret u =>
      obtain ⟨v, H', os, bare, un, hok, rv, q⟩ := hq
      have back : H' c = none := un.free c o ho del_at (by simp)
      have stays : s'.heap.get? c = some o := un.keep c o ho del_at nf (by simp)
      have hi : ∀ {b x}, H b = some x → b ≠ c → del H c b = some x := fun {b x} e z => by rw [del_ne z]; exact e
      have out : ∀ {b x}, H' b = some x → upd H' c (CellF o) b = some x := fun {b x} e => by rw [upd_ne (ne_of_none e back)]; exact e
      have nn : ∀ {b}, H b = none → b ≠ c := fun {b} e z => by rw [z, hc] at e; cases e
      refine ⟨v, upd H' c (CellF o), os, bare, ⟨fun b x e n => un.keep b x e (low n), fun b x e n => un.slot b x e (low n), fun b x e n hx => by rw [upd_ne (nn n)]; exact un.free b x e (low n) hx, un.there, fun b xs e => ?_, fun b x y e => ?_, fun b ps e => ?_⟩, hok_put hok back stays, rv, q⟩
      · exact out (un.tups b xs (hi e (ne_of e hc fun z => by cases z)))
      · by_cases z : b = c
        · rw [z, hc] at e
          rw [z, upd_same]
          exact e
        · exact out (un.frzs b x y (hi e z))
      · obtain ⟨more, m⟩ := un.tbls b ps (hi e (ne_of e hc fun z => by cases z))
        exact ⟨more, out m⟩
/-- lent for a call, taken back behind it -/
theorem lend_call {A : Around} {outer : List Env} {s : Shared} {H : Hp} {c : Addr} {o : Obj} {Q : VK} {call : Code} (e0 : Env0 P w K mg base A outer s H) (hc : H c = none) (ho : s.heap.get? c = some o) (nf : c ∉ frs outer) (nb : base.get? c = none)
    (run : Env0 P w K mg base A outer s (upd H c (CellF o)) → codeAny (model P w) A call (CR CX0 outer P w (upd H c (CellF o)) s (fun v H' => Q v (del H' c)) E0) s) : codeAny (model P w) A call (CR CX0 outer P w H s Q E0) s := by
  refine codeAny_mono (run ⟨e0.frames, e0.mod, fun b x e => ⟨(e0.bs b x e).1, by rw [upd_ne fun z => by rw [z, nb] at e; cases e]; exact (e0.bs b x e).2⟩, e0.bsz, e0.funs, fun b z => by rw [upd_ne (show b ≠ c from fun y => nf (y ▸ z))]; exact e0.frf b z, hok_put e0.hok hc ho, e0.bare⟩) fun r s' hq => ?_
  cases r with
  | error e => exact hq
  | ok fl =>
    cases fl with
    | next => exact hq
    | brk => exact hq
    | cont => exact hq
    | ret u =>
      obtain ⟨v, H', os, bare, un, hok, rv, q⟩ := hq
      have back : H' c = some (CellF o) := un.frzs c o _ upd_same
      have stays : s'.heap.get? c = some o := (hok c _ back).1
      have up : ∀ {b x}, H b = some x → upd H c (CellF o) b = some x := fun {b x} e => by rw [upd_ne (ne_of_none e hc)]; exact e
      have upN : ∀ {b}, H b = none → b ≠ c → upd H c (CellF o) b = none := fun {b} e z => by rw [upd_ne z]; exact e
      have same : ∀ {b x}, s.heap.get? b = some x → b = c → s'.heap.get? b = some x := fun {b x} e z => by
        rw [z] at e ⊢
        rw [ho] at e
        rw [stays, e]
      refine ⟨v, del H' c, os, bare, ⟨fun b x e n f1 f2 => ?_, fun b x e n f1 f2 => ?_, fun b x e n f2 => ?_, un.there, fun b xs e => ?_, fun b x y e => ?_, fun b ps e => ?_⟩, hok_del hok back, rv, q⟩
      · by_cases z : b = c
        · exact same e z
        · exact un.keep b x e (upN n z) f1 f2
      · by_cases z : b = c
        · exact ⟨x.slots, same e z⟩
        · exact un.slot b x e (upN n z) f1 f2
      · by_cases z : b = c
        · rw [z]; exact del_at
        · rw [del_ne z]; exact un.free b x e (upN n z) f2
      · rw [del_ne (ne_of_none e hc)]; exact un.tups b xs (up e)
      · rw [del_ne (ne_of_none e hc)]; exact un.frzs b x y (up e)
      · obtain ⟨more, m⟩ := un.tbls b ps (up e)
        exact ⟨more, by rw [del_ne (ne_of_none e hc)]; exact m⟩
end
end Moot
set_option linter.all false
namespace Moot
open PySem PySem.Spec PyProof.Rows L2 LamX NdefX
/-! a def whose code object is known -/
structure FunC (K : PySem.W.Frag) (x : Str) (st : Stmt) (f : Addr) (fd : FuncData) (c : Addr) : Prop where
  ex : ∃ (oc : Value) (od : Option Addr) (kV doc pm : Value) (an : Option Addr) (ct : Value) (osl : Array (Option Value)),
    fd = PySem.W.fnOf x x (defArgs st) (defBody st) (defScope st) .none kV doc pm an (.ref c) ct ∧ K.lookup f = some ⟨oc, od, .func fd, osl⟩ ∧ PySem.W.codeIn K (.ref c) x = true
def lamP : Expr → Arguments
  | .Lambda p _ _ _ => p
  | _ => ⟨[], [], none, [], [], none, []⟩
def lamB : Expr → Expr
  | .Lambda _ b _ _ => b
  | e => e
def lamS : Expr → Scope
  | .Lambda _ _ s _ => s
  | _ => { kind := .function, names := [], isGenerator := false, isCoroutine := false }
/-- the lambda that is a key in a return -/
def keyLam : Expr := match (defBody (top 28)).getD 2 (.Pass ⟨0, 0, 0, 0⟩) with
  | .Return (some (.Call _ [.Call _ _ [kw] _] _ _)) _ => kw.value
  | _ => .Name "" ⟨0, 0, 0, 0⟩
section
variable {P : Program} {w : World} {K : PySem.W.Frag} {mg : Str → Option Value} {base : Heap}
theorem FunC.ok {x : Str} {st : Stmt} {f c : Addr} {fd : FuncData} {N ps : List Str} {k : Nat} {sp : Sp} (F : FunC K x st f fd c) (S : FnScope N ps (defScope st)) (len : ∀ vs H Q E, sp vs H Q E → vs.length = ps.length)
    (hbody : ∀ (A : Around) (outer : List Env) (s : Shared) (H : Hp) (vs : List V) (Q : VK) (E : XK), Room k (A.deeper (envOfC x (defScope st) s.heap.objs.size f (.ref c))) → sp vs H Q E →
      ∃ t, PSs (cxOf CX0 P w K mg base N x (defScope st) f (.ref c) A outer s H E).nox (defBody st) t ∧ t { nx := fun _ H' => Q .non H', rt := Q } (L2.start N vs) H) : FnOk P w K mg base CX0 (k + 1) f fd ps sp := by
  obtain ⟨oc, od, kV, doc, pm, an, ct, osl, rfl, lk, hcd⟩ := F.ex
  refine fn_of lk hcd S len fun A outer s H vs Q E hr hsp => ?_
  obtain ⟨t, h, q⟩ := hbody A outer s H vs Q E hr hsp
  exact ⟨t, h.nox, q⟩
abbrev qMin : Str := ("_law_minimal" : Str) ++ ".<locals>." ++ "<lambda>"
def keyAt (f : Addr) (H : Hp) : Prop := ∃ c', H f = some (LamO f qMin (lamP keyLam) (lamB keyLam) (lamS keyLam) [] c') ∧ H c' = some (CodeO c' qMin)
theorem key_ok (T : Blt mg) (f : Addr) : KeyOk P w K mg base 1 f (keyAt f) := by
  refine ⟨fun A outer s H t ns Q hr e0 ⟨c', hf, hc⟩ ht q => ?_, fun H H' ⟨c', hf, hc⟩ s => ⟨c', s _ _ hf, s _ _ hc⟩⟩
  have S : NScope ["_law_nodes"] ["_law_nodes"] [] (lamS keyLam) := nscope_by (by decide +kernel)
  refine lam_run (k := 0) (vs := [.ref t]) (ws := []) S (fun _ _ => rfl) hr e0 hf hc ⟨rfl, fun y c e => (by simp at e), fun x y c e => (by simp at e), fun i y e => (by simp at e)⟩ (.cons rfl .nil) rfl fun hr' => ⟨_, pe_tup (pa_cons (pe_callB call_len_seq (by rfl) T.len PySem.boot_len (pa_cons (pv 0) pa_nil)) (pa_cons (pv 0) pa_nil)), ?_⟩
  refine ⟨.ref t, rfl, t, _, rfl, .inr (SqT.of ht), .ref t, rfl, by show 2 ≤ sizeLine; decide, fun p np => ?_⟩
  refine q p _ (same_new np) np ?_
  rw [upd_same, List.length_map]
/-! _law_minimal -/
abbrev sLmin : Stmt := top 28
abbrev nLmin : List Str := ["_law_names_here", "_law_has", "_law_found", "_law_some_here", "_law_smaller", "_law_gone", "_law_name_here", "_law_less"]
theorem scLmin : FnScope nLmin ["_law_names_here", "_law_has"] (defScope sLmin) := ⟨rfl, rfl, rfl, by decide +kernel, rfl, by decide +kernel, by decide +kernel⟩
def spHas (st : Hp → Prop) (test : List Str → Bool) : List V → Hp → VK → Prop := fun vs H Q => ∃ (p : Addr) (S : List Str), vs = [.ref p] ∧ H p = some (.lst (S.map V.str)) ∧ st H ∧ ∀ H', Same H H' → Q (.bl (test S)) H'
def spLmin (P : Program) (w : World) (K : PySem.W.Frag) (mg : Str → Option Value) (base : Heap) (k : Nat) (T : List (Addr × Str)) : Sp := fun vs H Q _ => ∃ (l f : Addr) (ns : List Str) (test : List Str → Bool) (st : Hp → Prop), vs = [.ref l, .ref f] ∧ H l = some (.lst (ns.map V.str)) ∧ ns.length ≤ 8 ∧
  VOk P w K mg base k f (spHas st test) ∧ (∀ H, st H → VAt H f) ∧ (∀ H H', st H → Same H H' → st H') ∧ st H ∧ Tabs T H ∧
  ∀ (p : Addr) (rs : List Nset) (H' : Hp), ExtN H H' → Tabs T H' → H' p = some (.tup (rs.map fun q => V.ref q.1)) → SetsAt H' rs → rs.map (·.2) = srt ((subs ns).filter (minimal test)) → Q (.ref p) H'
abbrev scGone : Scope := { kind := .function, names := [(".0", .local), ("_law_gone", .cell), ("_law_some_here", .cell)], isGenerator := false, isCoroutine := false }
abbrev scName : Scope := { kind := .function, names := [(".0", .local), ("_law_name_here", .local), ("_law_gone", .free)], isGenerator := false, isCoroutine := false }
theorem ok_lmin {f c Pt fU : Addr} {fd fdU : FuncData} {k : Nat} {T : List (Addr × Str)} (F : FunC K "_law_minimal" sLmin f fd c) (FU : Fun K "_law_subsets" "_law_subsets" sLsub fU fdU) (bU : Binds K fdU ["_law_names_here"] []) (gU : mg "_law_subsets" = some (.ref fU)) (GU : FnOk P w K mg base CX0 k fU fdU ["_law_names_here"] spLsub)
    (TB : TabB base mg c Pt) (hm : (Pt, qMin) ∈ T) (hu : ∀ p ∈ T, p.1 = Pt → p.2 = qMin) (k3 : 3 ≤ k) (B : Blt mg) (B2 : Blt2 mg) : FnOk P w K mg base CX0 (k + 1) f fd ["_law_names_here", "_law_has"] (spLmin P w K mg base k T) := by
  refine F.ok scLmin (fun vs H Q E h => ?_) (fun A outer s H vs Q E hr h => ?_)
  · obtain ⟨l, g, ns, test, st, rfl, _⟩ := h
    rfl
  · obtain ⟨l, g, ns, test, st, rfl, hl, few, vok, stV, stS, hst, hT, q⟩ := h
    refine ⟨_, pss_cons (ps_set (i := 2) scLmin.nd rfl (Or.inl rfl) (pe_lst pa_nil))
      (pss_cons (ps_for PassesOwn.never rfl (pi_list (pe_call GU hr (by rfl) gU FU.kp bU .nil pass0 (pa_cons (pv 0) pa_nil))) (pg_name (i := 3) scLmin.nd rfl (Or.inr rfl))
        (pss_cons (ps_setLc (i := 4) (own := [("_law_gone", 5)]) (g := gName 5) (tt := tYes) (by rfl) scLmin.nd rfl rfl (sw_true rfl rfl rfl (by decide +kernel)) (pi_list (pv 3)) (blkOk_by (N := nLmin) (sc := defScope sLmin) (by decide +kernel))
          (fun _ _ _ _ _ => pg_name (i := 5) scLmin.nd rfl (Or.inr rfl)) (fun _ _ _ _ _ => pts_nil)
          (fun _ _ _ _ _ => pe_lc (own := [("_law_name_here", 6)]) (g := gName 6) (by rfl) scLmin.nd (show PI _ _ _ (iList K (tVar 3)) from pi_list (pv 3)) (blkOk_by (N := nLmin) (sc := scGone) (scope := scName) (own := [("_law_name_here", 6)]) (by decide +kernel))
            (fun _ _ _ _ _ => pg_name (i := 6) scLmin.nd rfl (Or.inl rfl)) (fun _ _ _ _ _ => pts_one (pt_cmpR op_ne (pv 6) (pv 5) (nomark _))) (fun _ _ _ _ _ => pv 6)))
        (pss_one (ps_if (PW.pt (pw_and (pt_val (pe_callV (i := 1) vok hr rfl (Or.inr (Or.inl rfl)) (pa_cons (pv 3) pa_nil)))
            (pw_and1 (pt_not (pt_val (pe_callB (cr_any rfl) (by rfl) B2.any (by decide +kernel) (pa_cons (pe_lc (own := [("_law_less", 7)]) (g := gName 7) (tt := tYes) (by rfl) scLmin.nd (pi_list (pv 4)) (blkOk_by (N := nLmin) (sc := defScope sLmin) (by decide +kernel))
              (fun _ _ _ _ _ => pg_name (i := 7) scLmin.nd rfl (Or.inl rfl)) (fun _ _ _ _ _ => pts_nil) (fun _ _ _ _ _ => pe_callV (i := 1) vok hr rfl (Or.inr (Or.inl rfl)) (pa_cons (pv 7) pa_nil))) pa_nil)))))))
          (pss_one (ps_expr (pe_bm PySem.F.plainAttrs_list PySem.F.slot_list_append PySem.F.type_list_append mt_append (pv 2) (pa_cons (pe_callTy call_tuple_of (by rfl) B.tup (by decide +kernel) (pa_cons (pv 3) pa_nil)) pa_nil)))) pss_nil))))
      (pss_one (ps_ret (pe_callTy call_tuple_of (by rfl) B.tup (by decide +kernel) (pa_cons (pe_callBK (cr_sortV (F := fun _ => True) (st := keyAt) (fun f _ => key_ok B f) (hr.mono k3)) (by rfl) B.srt (by decide +kernel) (pa_cons (pv 2) pa_nil) (pk_cons (pe_lam TB rfl rfl hm hu rfl (fun y hy e => absurd e ((by decide +kernel : ∀ y ∈ (lamS keyLam).names, y.2 ≠ .free) y hy))) pk_nil)) pa_nil))))), ?_⟩
    refine ⟨Nat.zero_le _, fun fl nfl => ?_⟩
    have s0 := same_new (o := .lst []) nfl
    have hfl0 : upd H fl (.lst []) fl = some (.lst []) := upd_same
    generalize upd H fl (.lst []) = H0 at s0 hfl0
    refine ⟨.ref l, rfl, l, ns, rfl, s0 _ _ hl, few, fun sp qs H1 s1 nsp nqs hsp lat eq => ⟨sp, rfl, ⟨_, SqL.of hsp⟩, for_list (K := K) (a := sp) (xs := qs.map fun q => V.ref q.1) (fun i σ H2 => ∃ (rs : List Nset) (y3 y4 y5 y6 y7 : Option V), σ = [some (.ref l), some (.ref g), some (.ref fl), y3, y4, y5, y6, y7] ∧
      (∀ d o, d ≠ fl → H1 d = some o → H2 d = some o) ∧ H2 fl = some (.lst (rs.map fun q => V.ref q.1)) ∧ SetsAt H2 rs ∧ (∀ r ∈ rs, r.1 ≠ fl) ∧ rs.map (·.2) = ((qs.take i).map (·.2)).filter (minimal test)) ?_ ?_ ?_ ?_⟩⟩
    · exact ⟨[], none, none, none, none, none, rfl, fun d o _ e => e, s1 _ _ hfl0, fun r mr => by simp at mr, fun r mr => by simp at mr, rfl⟩
    · rintro i σ H2 _ ⟨rs, y3, y4, y5, y6, y7, rfl, k1, _⟩
      exact SqL.of (k1 _ _ (ne_of_none hfl0 nsp).symm hsp)
    · rintro i x σ H2 hx ⟨rs, y3, y4, y5, y6, y7, rfl, k1, hfl, rt, rf, er⟩
      obtain ⟨t, ht, rfl⟩ := ref_at hx
      have mt := List.mem_of_getElem? ht
      have tf : t.1 ≠ fl := (ne_of_none hfl0 (nqs t mt)).symm
      have t2 := k1 _ _ tf (lat t mt)
      have ql : qs.length ≤ 256 := by
        have e := congrArg List.length eq
        rw [List.length_map, subs_len] at e
        have : 2 ^ ns.length ≤ 2 ^ 8 := Nat.pow_le_pow_right (by decide) few
        omega
      have rl : rs.length ≤ 256 := by
        have e := congrArg List.length er
        rw [List.length_map] at e
        have : (((qs.take i).map (·.2)).filter (minimal test)).length ≤ ((qs.take i).map (·.2)).length := List.length_filter_le _ _
        rw [List.length_map, List.length_take] at this
        omega
      have t8 : t.2.length ≤ 8 := by
        have ms : t.2 ∈ subs ns := by rw [← eq]; exact List.mem_map.mpr ⟨t, mt, rfl⟩
        exact Nat.le_trans (subs_short ms) few
      have same2 : Same H H2 := fun d o e => k1 d o (ne_of_none e nfl) (s1 _ _ (s0 _ _ e))
      have st2 := stS _ _ hst same2
      have tk : ((qs.take (i + 1)).map (·.2)).filter (minimal test) = ((qs.take i).map (·.2)).filter (minimal test) ++ [t.2].filter (minimal test) := by
        rw [List.take_add_one, ht, List.map_append, List.filter_append]
        rfl
      refine ⟨.ref t.1, rfl, t.1, rfl, ⟨_, SqL.of t2⟩, fun D nD => lc_list (K := K) (a := t.1) (xs := t.2.map V.str) (fun j H3 => Same H2 H3 ∧ ∃ us : List Nset, H3 D = some (.lst (us.map fun q => V.ref q.1)) ∧ (∀ r ∈ us, r.1 ≠ D) ∧ ListsAt H3 us ∧ us.map (·.2) = (t.2.take j).map fun g => t.2.filter fun x => decide (x ≠ g)) ?_ (fun j H3 _ h => SqL.of (h.1 _ _ t2)) ?_ ?_⟩
      · exact ⟨same_new nD, [], upd_same, fun r mr => by simp at mr, fun r mr => by simp at mr, rfl⟩
      · rintro j y H3 hy ⟨s3, us, hD, uD, ut, eu⟩
        rw [List.getElem?_map] at hy
        obtain ⟨z, hz, rfl⟩ := Option.map_eq_some_iff.mp hy
        have jl := (List.getElem?_eq_some_iff.mp hz).1
        have t3 := s3 _ _ t2
        have ul : us.length ≤ 8 := by
          have e := congrArg List.length eu
          rw [List.length_map, List.length_map, List.length_take] at e
          omega
        refine ⟨rfl, .ref t.1, rfl, t.1, rfl, ⟨_, SqL.of t3⟩, fun D2 nD2 => lc_list (K := K) (a := t.1) (xs := t.2.map V.str) (fun m H4 => Same H3 H4 ∧ H4 D2 = some (.lst (((t.2.take m).filter fun x => decide (x ≠ z)).map V.str))) ?_ (fun m H4 _ h => SqL.of (h.1 _ _ t3)) ?_ ?_⟩
        · exact ⟨same_new nD2, upd_same⟩
        · rintro m y H4 hy' ⟨s4, h4⟩
          rw [List.getElem?_map] at hy'
          obtain ⟨z2, hz2, rfl⟩ := Option.map_eq_some_iff.mp hy'
          have tk2 : (t.2.take (m + 1)).filter (fun x => decide (x ≠ z)) = (t.2.take m).filter (fun x => decide (x ≠ z)) ++ [z2].filter (fun x => decide (x ≠ z)) := by
            rw [List.take_add_one, hz2, List.filter_append]
            rfl
          refine ⟨rfl, .str z2, rfl, .str z, rfl, rfl, _, rfl, ?_⟩
          by_cases is : z2 = z
          · rw [decide_eq_true (congrArg V.str is)]
            refine iteF ⟨s4, ?_⟩
            rw [h4, tk2]
            simp [is]
          · rw [decide_eq_false fun e => is (V.str.inj e)]
            refine iteT ⟨.str z2, rfl, _, h4, ?_, fun d o e => ?_, ?_⟩
            · rw [List.length_map]
              refine small1000 (Nat.le_trans (List.length_filter_le _ _) ?_)
              rw [List.length_take]
              omega
            · rw [upd_ne (ne_of_none e nD2)]
              exact s4 d o e
            · rw [upd_same, tk2]
              simp [is]
        · rintro H4 ⟨s4, h4⟩
          rw [List.length_map, List.take_length] at h4
          have hD4 := s4 _ _ hD
          have d2 : D2 ≠ D := (ne_of_none hD nD2).symm
          refine ⟨_, hD4, ?_, fun d o e => ?_, us ++ [(D2, t.2.filter fun x => decide (x ≠ z))], ?_, fun r mr => ?_, fun r mr => ?_, ?_⟩
          · rw [List.length_map]
            exact small1000 (by omega)
          · rw [upd_ne (ne_of_none e nD)]
            exact s4 _ _ (s3 d o e)
          · rw [upd_same, List.map_append]
            rfl
          · rcases List.mem_append.mp mr with mr | mr
            · exact uD r mr
            · rw [List.mem_singleton.mp mr]
              exact d2
          · rcases List.mem_append.mp mr with mr | mr
            · rw [upd_ne (uD r mr)]
              exact s4 _ _ (ut r mr)
            · rw [List.mem_singleton.mp mr]
              show upd H4 D _ D2 = _
              rw [upd_ne d2]
              exact h4
          · rw [List.map_append, eu, List.take_add_one, hz, List.map_append]
            rfl
      · rintro H3 ⟨s3, us, hD, uD, ut, eu⟩
        rw [List.length_map, List.take_length] at eu
        have ul : us.length ≤ 8 := by
          have e := congrArg List.length eu
          rw [List.length_map, List.length_map] at e
          omega
        have st3 := stS _ _ st2 s3
        have skip : ∀ H', Same H3 H' → minimal test t.2 = false → (∀ d o, d ≠ fl → H1 d = some o → H' d = some o) ∧ H' fl = some (.lst (rs.map fun q => V.ref q.1)) ∧ SetsAt H' rs ∧ (∀ r ∈ rs, r.1 ≠ fl) ∧ rs.map (·.2) = ((qs.take (i + 1)).map (·.2)).filter (minimal test) := fun H' s' no => by
          have sx := s3.trans s'
          refine ⟨fun d o n e => sx _ _ (k1 d o n e), sx _ _ hfl, fun r mr => sx _ _ (rt r mr), rf, ?_⟩
          rw [er, tk, List.filter_cons_of_neg (by rw [no]; exact Bool.false_ne_true)]
          simp
        refine ⟨rfl, stV _ st3, .ref t.1, rfl, stV _ st3, t.1, t.2, rfl, s3 _ _ t2, st3, fun H4 s4 => ⟨_, rfl, ?_⟩⟩
        cases e1 : test t.2 with
        | false => exact iteF (iteF ⟨rs, _, _, _, _, _, rfl, skip H4 s4 (by unfold minimal; rw [e1]; rfl)⟩)
        | true =>
          have hD4 := s4 _ _ hD
          refine iteT ⟨.ref D, rfl, D, rfl, ⟨_, SqL.of hD4⟩, fun D3 nD3 => lc_list (K := K) (a := D) (xs := us.map fun q => V.ref q.1) (fun j H5 => Same H4 H5 ∧ H5 D3 = some (.lst (((us.take j).map fun r => test r.2).map V.bl))) ?_ (fun j H5 _ h => SqL.of (h.1 _ _ hD4)) ?_ ?_⟩
          · exact ⟨same_new nD3, upd_same⟩
          · rintro j y H5 hy ⟨s5, h5⟩
            obtain ⟨r, hr', rfl⟩ := ref_at hy
            have mr := List.mem_of_getElem? hr'
            have st5 := stS _ _ (stS _ _ st3 s4) s5
            refine ⟨rfl, rfl, stV _ st5, .ref r.1, rfl, stV _ st5, r.1, r.2, rfl, s5 _ _ (s4 _ _ (ut r mr)), st5, fun H6 s6 => ⟨_, s6 _ _ h5, ?_, fun d o e => ?_, ?_⟩⟩
            · rw [List.length_map, List.length_map, List.length_take]
              exact small1000 (by omega)
            · rw [upd_ne (ne_of_none e nD3)]
              exact s6 _ _ (s5 d o e)
            · rw [upd_same, List.take_add_one, hr', List.map_append, List.map_append]
              rfl
          · rintro H5 ⟨s5, h5⟩
            rw [List.length_map, List.take_length] at h5
            have ea : (us.map fun r => test r.2).any id = (t.2.map fun g => t.2.filter fun x => decide (x ≠ g)).any test := by
              rw [← eu, List.any_map, List.any_map]
              rfl
            refine ⟨D3, _, rfl, SqL.of h5, _, rfl, ?_⟩
            rw [ea]
            have s35 := s4.trans s5
            cases e2 : (t.2.map fun g => t.2.filter fun x => decide (x ≠ g)).any test with
            | true => exact iteF ⟨rs, _, _, _, _, _, rfl, skip H5 s35 (by unfold minimal; rw [e1, e2]; rfl)⟩
            | false =>
              have yes : minimal test t.2 = true := by unfold minimal; rw [e1, e2]; rfl
              have s25 := s3.trans s35
              have fl5 := s25 _ _ hfl
              refine iteT ⟨.ref fl, rfl, .inl ⟨rfl, _, SqL.of fl5⟩, .ref t.1, rfl, t.1, _, rfl, .inl ⟨SqL.of (s25 _ _ t2), fun tt ntt => ⟨fl, _, _, rfl, rfl, same_new ntt _ _ fl5, ?_, rs ++ [(tt, t.2)], _, _, _, _, _, rfl, fun d o n e => ?_, ?_, fun r mr => ?_, fun r mr => ?_, ?_⟩⟩⟩
              · rw [List.length_map]
                exact small1000 (by omega)
              · rw [upd_ne n]
                exact same_new ntt _ _ (s25 _ _ (k1 d o n e))
              · rw [upd_same, List.map_append]
                rfl
              · rcases List.mem_append.mp mr with mr | mr
                · rw [upd_ne (rf r mr)]
                  exact same_new ntt _ _ (s25 _ _ (rt r mr))
                · rw [List.mem_singleton.mp mr]
                  show upd (upd H5 tt _) fl _ tt = _
                  rw [upd_ne (ne_of_none fl5 ntt).symm, upd_same]
              · rcases List.mem_append.mp mr with mr | mr
                · exact rf r mr
                · rw [List.mem_singleton.mp mr]
                  exact (ne_of_none fl5 ntt).symm
              · rw [List.map_append, er, tk, List.filter_cons_of_pos yes]
                rfl
    · rintro σ H2 ⟨rs, y3, y4, y5, y6, y7, rfl, k1, hfl, rt, rf, er⟩
      rw [List.length_map, List.take_length, eq] at er
      have rl : rs.length ≤ 256 := by
        have e := congrArg List.length er
        rw [List.length_map] at e
        have : ((subs ns).filter (minimal test)).length ≤ (subs ns).length := List.length_filter_le _ _
        rw [subs_len] at this
        have : 2 ^ ns.length ≤ 2 ^ 8 := Nat.pow_le_pow_right (by decide) few
        omega
      have same2 : Same H H2 := fun d o e => k1 d o (ne_of_none e nfl) (s1 _ _ (s0 _ _ e))
      refine ⟨.ref fl, rfl, hT.ext same2, fun gk ck H3 eN T3 ngk hgk hck => ⟨gk, fl, rs, trivial, ⟨ck, hgk, hck⟩, rfl, rfl, SqL.of (eN _ _ hfl fun _ z => (by cases z)), fun r mr => eN _ _ (rt r mr) fun _ z => (by cases z), by omega, fun l2 H4 s4 nl2 h2 => ⟨l2, _, rfl, .inl ⟨SqL.of h2, fun tt ntt => ?_⟩⟩⟩⟩
      have s5 := same_new (o := .tup ((rs.mergeSort ordLe).map fun q => V.ref q.1)) ntt
      refine q tt (rs.mergeSort ordLe) _ (fun d o e n => s5 _ _ (s4 _ _ (eN _ _ (same2 _ _ e) n))) ((T3.ext s4).ext s5) upd_same (fun r mr => ?_) ?_
      · exact s5 _ _ (s4 _ _ (eN _ _ (rt r ((List.mergeSort_perm rs _).mem_iff.mp mr)) fun _ z => (by cases z)))
      · rw [srt_map, er]
end
end Moot
set_option linter.all false
namespace Moot
open PySem PySem.Spec PyProof.Rows L2 LamX NdefX
/-- f(..), the cell of the name y lent to it -/
def tLend (cells : List (Str × Addr)) (y : Str) (j : Nat) (sp : Sp) (t : TA) : TE := fun σ H Q => t σ H fun vs H1 => ∃ v, σ[j]? = some (some v) ∧ ∀ (c : Addr) (o : Obj) (u : Value), cells.lookup y = some c → o.data = .cell (some u) → RelV v u → H1 c = none → sp (vs ++ []) (upd H1 c (CellF o)) (fun r H' => Q r (del H' c)) E0
theorem pe_callLend {X : Cx} {k j : Nat} {f : Addr} {fd : FuncData} {ps : List Str} {sp : Sp} {x y : Str} {t : TA} {e : Expr} {es : List Expr} {p pos : Pos} (F : FnOk X.prog X.w X.K X.mg X.base CX0 k f fd ps sp) (hr : Room k X.A) (hg : Gl X x) (hm : X.mg x = some (.ref f)) (hk : PySem.W.keepIn X.K (.ref f) = true) (hb : Binds X.K fd ps [])
    (hj : X.N[j]? = some y) (hy : X.env.scope.names.lookup y = some .cell) (hfn : X.fn y = true) (ha : PA X (e :: es) t)
    (hdb : (x == ("__debug__" : Str)) = false := by decide) (he : starEach (e :: es) X.env = (false, eval e X.env) :: starEach es X.env := by rfl) (hpl : (backTo pos (starEach es X.env)).any (·.1) = false := by rfl) :
    PE X (.Call (.Name x p) (e :: es) [] pos) (tLend X.env.cells y j sp t) := by
  refine ⟨fun pins s σ H Q I h => ?_⟩
  refine wpAny_Call_Name_kw (ld_glob I hg hm ?_ hdb)
  refine PySem.W.callWith_K (h₀ := X.base) I.ok.mod.kin hk (thn (ha.run pos pins s σ H _ I h) fun us s1 ⟨vs, H1, I1, r, q⟩ => ⟨I1.kIn, ?_⟩) he hpl
  obtain ⟨v, hv, q⟩ := q
  obtain ⟨m, hn, hl⟩ := I1.loc
  obtain ⟨u, ru, lk⟩ := hl j y v hj hv (.inr (.inl hy))
  rcases lk with ⟨z, _⟩ | ⟨_, c, hc, o, ho, hd⟩
  · have z' : X.env.scope.names.lookup y = some .local := z
    rw [hy] at z'
    cases z'
  · have free := I1.freeC y c hc
    have up : X.s_0.heap.objs.size ≤ c := I1.ok.cab y c hfn hc
    have nb : X.base.get? c = none := by
      cases eb : X.base.get? c with
      | none => rfl
      | some ob =>
        exact absurd (Nat.lt_of_lt_of_le (Heap.lt_size eb) (Nat.le_trans I1.ok.bsz up)) (Nat.lt_irrefl _)
    have nf : c ∉ frs X.stack := fun z => by
      rcases List.mem_cons.mp (I1.stkSub c z) with e | e
      · obtain ⟨o', es', ep', e1, d1, _⟩ := hn
        rw [← e, ho] at e1
        cases e1
        rw [hd] at d1
        cases d1
      · obtain ⟨_, ob, e1, _⟩ := I1.ok.funs.mem e
        exact absurd (Nat.lt_of_lt_of_le (Heap.lt_size e1) up) (Nat.lt_irrefl _)
    have sp1 := q c o u hc hd ru free
    have r2 : Vals (vs ++ []) (us ++ []) := r.append .nil
    have hl2 : (us ++ []).length = ps.length := by rw [← r2.length]; exact F.len _ _ _ _ sp1
    refine wpAny_call (codeAny_mono (lend_call (Q := Q) (call := .call (.ref f) ⟨us, []⟩) I1.env0 free ho nf nb fun e0 => F.run X.A X.stack s1 _ ⟨us, []⟩ (us ++ []) (vs ++ []) _ E0 hr e0 (hb s1 us I1.kIn hl2) r2 sp1) fun r s' hq => ?_)
    cases r with
    | error e => exact hq.elim
    | ok fl =>
      cases fl with
      | ret u => exact I1.after hq
      | next => exact hq.elim
      | brk => exact hq.elim
      | cont => exact hq.elim
/-! the law's two lambdas -/
def argLam (i : Nat) : Expr := match (defBody (top 29)).getD i (.Pass ⟨0, 0, 0, 0⟩) with
  | .Assign _ (.Call _ [_, e] _ _) _ => e
  | _ => .Name "" ⟨0, 0, 0, 0⟩
abbrev lamSat : Expr := argLam 4
abbrev lamBlk : Expr := argLam 5
abbrev qLaw : Str := ("law" : Str) ++ ".<locals>." ++ "<lambda>"
abbrev cReq : Str := "_law_requirement_here"
/-- what stands behind a lambda that asks a requirement -/
structure AskAt (L : Expr) (cells : List (Str × Addr)) (f c' c : Addr) (o : Obj) (r : Addr) (n : Int) (ps : List Part) (H : Hp) : Prop where
  fn : H f = some (LamO f qLaw (lamP L) (lamB L) (lamS L) (cloFrom cells (lamS L).names []) c')
  code : H c' = some (CodeO c' qLaw)
  cell : H c = some (CellF o)
  req : ReqAt H r n ps
theorem AskAt.same {L : Expr} {cells : List (Str × Addr)} {f c' c : Addr} {o : Obj} {r : Addr} {n : Int} {ps : List Part} {H H' : Hp} (h : AskAt L cells f c' c o r n ps H) (s : Same H H') : AskAt L cells f c' c o r n ps H' :=
  ⟨s _ _ h.fn, s _ _ h.code, s _ _ h.cell, h.req.tups (Same.tups s)⟩
theorem asked_cells {names : List (Str × NameKind)} {cells : List (Str × Addr)} {c r : Addr} {o : Obj} {h : Heap} {H : Hp} (only : ∀ y ∈ names, y.2 = .free → y.1 = cReq) (has : (cReq, NameKind.free) ∈ names) (hc : cells.lookup cReq = some c) (hd : o.data = .cell (some (.ref r))) (ho : h.get? c = some o) (hn : H c = none) :
    CellsAt (cloFrom cells names []) [cReq] [some (.ref r)] h H := by
  have hfree : ∀ y ∈ names, y.2 = .free → ∃ c, cells.lookup y.1 = some c := fun y hy e => ⟨c, by rw [only y hy e]; exact hc⟩
  have name : ∀ {y a}, (cloFrom cells names []).lookup y = some a → y = cReq ∧ a = c := fun {y a} e => by
    have e2 := clo_cm hfree e
    rcases cloFrom_mem (PySem.mem_of_lookup e) with hm | ⟨h1, _⟩
    · cases hm
    · have ey := only _ h1 rfl
      have ey : y = cReq := ey
      rw [ey, hc] at e2
      exact ⟨ey, (Option.some.inj e2).symm⟩
  refine ⟨rfl, fun y a e => ?_, fun x y a e1 e2 => (name e1).1.trans (name e2).1.symm, fun i y e => ?_⟩
  · rw [(name e).2]
    exact ⟨hn, _, o, ho, hd⟩
  · cases i with
    | zero =>
      cases Option.some.inj e
      refine ⟨c, clo_has hfree has hc, fun v ev => ?_⟩
      cases Option.some.inj (Option.some.inj ev)
      exact ⟨.ref r, rfl, o, ho, hd⟩
    | succ i => simp at e
section
variable {P : Program} {w : World} {K : PySem.W.Frag} {mg : Str → Option Value} {base : Heap}
theorem lent_same {H H' : Hp} {c : Addr} {o : Obj} (hc : H c = some (CellF o)) (s : Same (del H c) H') : Same H (upd H' c (CellF o)) := fun b x e => by
  by_cases z : b = c
  · rw [z, hc] at e
    rw [z, upd_same]
    exact e
  · rw [upd_ne z]
    exact s _ _ (by rw [del_ne z]; exact e)
theorem del_keeps {H : Hp} {c b : Addr} {o : Obj} {x : HO} (hc : H c = some (CellF o)) (e : H b = some x) (n : x ≠ CellF o) : del H c b = some x := by
  rw [del_ne (ne_of e hc n)]
  exact e
theorem ask_sat {cells : List (Str × Addr)} {f c' c r f1 : Addr} {o : Obj} {n : Int} {ps : List Part} {fd1 : FuncData} {k : Nat} (FL : Fun K "_law_satisfies" "_law_satisfies" sLsat f1 fd1) (bL : Binds K fd1 ["_law_requirement_here", "_law_nodes"] []) (gL : mg "_law_satisfies" = some (.ref f1)) (GL : FnOk P w K mg base CX0 k f1 fd1 ["_law_requirement_here", "_law_nodes"] (spSat K Short))
    (hc : cells.lookup cReq = some c) (hd : o.data = .cell (some (.ref r))) (short : Short ps) (pl : ps.length ≤ 1000) (pn : (namesOf ps).length < 64) : VOk P w K mg base (k + 1) f (spHas (AskAt lamSat cells f c' c o r n ps) fun S => sat S n ps) := by
  refine ⟨fun A outer s H us vs Q hr e0 rv h => ?_⟩
  obtain ⟨p, S, rfl, hp, a, q⟩ := h
  obtain rfl := Vals.ref1 rv
  refine lent_call (Q := Q) e0 a.cell fun e1 => ?_
  have ho := (e0.hok c _ a.cell).1
  have S1 : NScope ["_law_some_here", cReq] ["_law_some_here"] [cReq] (lamS lamSat) := nscope_by (by decide +kernel)
  refine lam_run (k := k) (vs := [.ref p]) (ws := [some (.ref r)]) S1 (fun _ _ => rfl) hr e1 (del_keeps a.cell a.fn fun z => by cases z) (del_keeps a.cell a.code fun z => by cases z) (asked_cells (by decide +kernel) (by decide +kernel) hc hd ho del_at) (.cons rfl .nil) rfl fun hr' =>
    ⟨_, pe_call GL hr' (by rfl) gL FL.kp bL .nil pass0 (pa_cons (pv 1) (pa_cons (pv 0) pa_nil)), ?_⟩
  have R : ReqAt (del H c) r n ps := a.req.tups fun b xs e => del_keeps a.cell e fun z => by cases z
  exact ⟨.ref r, rfl, .ref p, rfl, r, n, ps, p, S, rfl, R, short, pl, .inl (SqL.of (del_keeps a.cell hp fun z => by cases z)), fun H' s' => q _ (lent_same a.cell s')⟩
theorem ask_blk {cells : List (Str × Addr)} {f c' c r f1 : Addr} {o : Obj} {n : Int} {ps : List Part} {fd1 : FuncData} {k : Nat} (FL : Fun K "_law_blocks" "_law_blocks" sLblk f1 fd1) (bL : Binds K fd1 ["_law_requirement_here", "_law_nodes"] []) (gL : mg "_law_blocks" = some (.ref f1)) (GL : FnOk P w K mg base CX0 k f1 fd1 ["_law_requirement_here", "_law_nodes"] (spBlk K))
    (hc : cells.lookup cReq = some c) (hd : o.data = .cell (some (.ref r))) (short : Short ps) (pl : ps.length ≤ 1000) (pn : (namesOf ps).length < 64) : VOk P w K mg base (k + 1) f (spHas (AskAt lamBlk cells f c' c o r n ps) fun S => blk S n ps) := by
  refine ⟨fun A outer s H us vs Q hr e0 rv h => ?_⟩
  obtain ⟨p, S, rfl, hp, a, q⟩ := h
  obtain rfl := Vals.ref1 rv
  refine lent_call (Q := Q) e0 a.cell fun e1 => ?_
  have ho := (e0.hok c _ a.cell).1
  have S1 : NScope ["_law_some_here", cReq] ["_law_some_here"] [cReq] (lamS lamBlk) := nscope_by (by decide +kernel)
  refine lam_run (k := k) (vs := [.ref p]) (ws := [some (.ref r)]) S1 (fun _ _ => rfl) hr e1 (del_keeps a.cell a.fn fun z => by cases z) (del_keeps a.cell a.code fun z => by cases z) (asked_cells (by decide +kernel) (by decide +kernel) hc hd ho del_at) (.cons rfl .nil) rfl fun hr' =>
    ⟨_, pe_call GL hr' (by rfl) gL FL.kp bL .nil pass0 (pa_cons (pv 1) (pa_cons (pv 0) pa_nil)), ?_⟩
  have R : ReqAt (del H c) r n ps := a.req.tups fun b xs e => del_keeps a.cell e fun z => by cases z
  exact ⟨.ref r, rfl, .ref p, rfl, r, n, ps, p, S, rfl, R, short, pl, pn, .inl (SqL.of (del_keeps a.cell hp fun z => by cases z)), fun H' s' => q _ (lent_same a.cell s')⟩
end
end Moot
set_option linter.all false
namespace Moot
open PySem PySem.Spec PyProof.Rows L2 LamX NdefX
/-! tuples of tuples of names, as data -/
def setD (s : List Str) : PyData := .tuple (s.map PyData.str)
theorem dp_sets {K : PySem.W.Frag} {H : Hp} : ∀ {rs : List Nset}, SetsAt H rs → DpAll K H (rs.map fun q => V.ref q.1) ((rs.map (·.2)).map setD)
  | [], _ => .nil
  | r :: rs, h => .cons (.tup (SqT.of (h r List.mem_cons_self)) (dp_strs r.2)) (dp_sets fun q m => h q (List.mem_cons_of_mem r m))
theorem lay_sets : ∀ {l : List (List Str)}, (∀ s ∈ l, ∀ x ∈ s, PyData.strOk x = true) → PyData.canLayAll0 (l.map setD) = true ∧ PyData.depthAll (l.map setD) ≤ 1
  | [], _ => ⟨rfl, Nat.zero_le _⟩
  | s :: l, h => by
    obtain ⟨b1, b2⟩ := lay_sets (l := l) fun q m => h q (List.mem_cons_of_mem _ m)
    have a1 := lay_strs (h s List.mem_cons_self)
    refine ⟨?_, ?_⟩
    · show (PyData.canLayAll0 (s.map PyData.str) && PyData.canLayAll0 (l.map setD)) = true
      rw [a1, b1]
      rfl
    · show max (PyData.depthAll (s.map PyData.str) + 1) (PyData.depthAll (l.map setD)) ≤ 1
      rw [depth_strs]
      omega
theorem shaped_sets {l : List (List Str)} (h : ∀ s ∈ l, ∀ x ∈ s, PyData.strOk x = true) : SeqAt.shaped (.tuple (l.map setD)) = true := by
  obtain ⟨a1, a2⟩ := lay_sets h
  unfold SeqAt.shaped
  have d : PyData.depth (.tuple (l.map setD)) ≤ 64 := by
    show PyData.depthAll (l.map setD) + 1 ≤ 64
    omega
  rw [decide_eq_true d]
  show (PyData.canLayAll0 (l.map setD) && true) = true
  rw [a1]
  rfl
theorem goods_names {xs : List Str} : ∀ {ps : List Part}, (∀ p ∈ ps, Good xs p) → ∀ x ∈ namesOf ps, x ∈ xs
  | [], _, x, h => by cases h
  | .inl y :: ps, g, x, h => by
    rcases List.mem_cons.mp (show x ∈ y :: namesOf ps from h) with e | h
    · rw [e]
      exact g _ List.mem_cons_self
    · exact goods_names (fun p m => g p (List.mem_cons_of_mem _ m)) x h
  | .inr (c, ns) :: ps, g, x, h => by
    rcases List.mem_append.mp (show x ∈ ns ++ namesOf ps from h) with h | h
    · exact (g _ List.mem_cons_self).2.2.2.2.2 x h
    · exact goods_names (fun p m => g p (List.mem_cons_of_mem _ m)) x h
theorem least_in {ns : List Str} {c : Int} {ps : List Part} {s : List Str} (h : s ∈ least ns c ps) : s ∈ subs ns := by
  rcases mins_mem h with z | z
  · simp at z
  · exact srt_mem.mp (List.mem_filter.mp z).1
theorem blocking_in {ns : List Str} {c : Int} {ps : List Part} {s : List Str} (h : s ∈ blocking ns c ps) : s ∈ subs ns := by
  rcases mins_mem h with z | z
  · simp at z
  · exact srt_mem.mp (List.mem_filter.mp z).1
theorem mins_few {l : List (List Str)} {p : List Str → Bool} {ns : List Str} (h : ns.length ≤ 8) : (mins ((srt (subs ns)).filter p)).length ≤ 300 := by
  have a := mins_len ((srt (subs ns)).filter p) []
  have b : ((srt (subs ns)).filter p).length ≤ (srt (subs ns)).length := List.length_filter_le _ _
  rw [srt_len, subs_len] at b
  have : 2 ^ ns.length ≤ 2 ^ 8 := Nat.pow_le_pow_right (by decide) h
  unfold mins
  simp only [List.length_nil] at a
  omega
theorem mono_sat (ns : List Str) (n : Int) (ps : List Part) : ∀ s ∈ subs ns, ∀ t ∈ subs ns, (∀ x ∈ s, x ∈ t) → sat s n ps = true → sat t n ps = true := fun s _ t _ h k => sat_mono (fun x _ mx => h x mx) k
theorem mono_blk (ns : List Str) (n : Int) (ps : List Part) : ∀ s ∈ subs ns, ∀ t ∈ subs ns, (∀ x ∈ s, x ∈ t) → blk s n ps = true → blk t n ps = true := fun s _ t _ h k => blk_mono (fun x _ mx => h x mx) k
theorem tabs_del {T : List (Addr × Str)} {H : Hp} {c : Addr} {o : Obj} (h : Tabs T H) (hc : H c = some (CellF o)) : Tabs T (del H c) := fun p hp => by
  obtain ⟨ps, a1, a2, a3⟩ := h p hp
  refine ⟨ps, del_keeps hc a1 fun z => (by cases z), a2, fun pos cv e => ?_⟩
  obtain ⟨c0, e1, e2⟩ := a3 pos cv e
  exact ⟨c0, e1, del_keeps hc e2 fun z => (by cases z)⟩
section
variable {P : Program} {w : World} {K : PySem.W.Frag} {mg : Str → Option Value} {base : Heap}
/-! law -/
abbrev sLaw : Stmt := top 29
abbrev nLaw : List Str := ["_law_script", "_law_box_here", "_law_names_here", "_law_requirement_here", "_law_inside", "_law_least", "_law_blocking", "_law_turn"]
theorem scLaw : FnScope nLaw ["_law_script"] (defScope sLaw) := ⟨rfl, rfl, rfl, by decide +kernel, rfl, by decide +kernel, by decide +kernel⟩
def spLaw (K : PySem.W.Frag) (p1 p2 : Addr) : Sp := fun vs H Q _ => ∃ (a : Addr) (ns : List Int), vs = [.ref a] ∧ SqL K H a (ns.map V.int) ∧ ns.length ≤ 63 ∧ H p1 = some (.tbl #[]) ∧ H p2 = some (.tbl #[]) ∧ ∀ H', Q (.bl true) H'
theorem ok_law {f p1 p2 cL f1 f2 f3 f4 f5 f6 f7 f8 f9 f10 : Addr} {fd fd1 fd2 fd3 fd4 fd5 fd6 fd7 fd8 fd9 fd10 : FuncData} {k kL : Nat} (F : FunC K "law" sLaw f fd cL) (T : Blt mg) (TB : TabB base mg cL p1) (p12 : p1 ≠ p2)
    (FB : Fun K "_law_box" "_law_box" sBox f1 fd1) (bB : Binds K fd1 ["_law_script"] []) (gB : mg "_law_box" = some (.ref f1)) (GB : FnOk P w K mg base CX0 k f1 fd1 ["_law_script"] (spBox K))
    (FT : Fun K "_law_take" "_law_take" sTake f2 fd2) (bT : Binds K fd2 ["_law_box_here", "_law_size"] []) (gT : mg "_law_take" = some (.ref f2)) (GT : FnOk P w K mg base CX0 k f2 fd2 ["_law_box_here", "_law_size"] spTake)
    (FN : Fun K "_law_names" "_law_names" sNames f3 fd3) (bN : Binds K fd3 ["_law_box_here", "_law_many"] []) (gN : mg "_law_names" = some (.ref f3)) (GN : FnOk P w K mg base CX0 k f3 fd3 ["_law_box_here", "_law_many"] spNames)
    (FR : Fun K "_law_requirement" "_law_requirement" sReq f4 fd4) (bR : Binds K fd4 ["_law_box_here", "_law_names_here"] []) (gR : mg "_law_requirement" = some (.ref f4)) (GR : FnOk P w K mg base CX0 k f4 fd4 ["_law_box_here", "_law_names_here"] spReq)
    (FI : Fun K "_law_names_in" "_law_names_in" sLni f5 fd5) (bI : Binds K fd5 ["_law_requirement_here"] []) (gI : mg "_law_names_in" = some (.ref f5)) (GI : FnOk P w K mg base CX0 k f5 fd5 ["_law_requirement_here"] (spNwr fun _ => True))
    (kM : PySem.W.keepIn K (.ref f6) = true) (bM : Binds K fd6 ["_law_names_here", "_law_has"] []) (gM : mg "_law_minimal" = some (.ref f6)) (GM : FnOk P w K mg base CX0 k f6 fd6 ["_law_names_here", "_law_has"] (spLmin P w K mg base (kL + 1) [(p1, qLaw), (p2, qMin)]))
    (FMs : Fun K "minimal_satisfying" "minimal_satisfying" sMs f7 fd7) (bMs : Binds K fd7 ["requirement"] []) (gMs : mg "minimal_satisfying" = some (.ref f7)) (GMs : FnOk P w K mg base CX0 k f7 fd7 ["requirement"] (spMs least))
    (FMb : Fun K "minimal_blocking" "minimal_blocking" sMb f8 fd8) (bMb : Binds K fd8 ["requirement"] []) (gMb : mg "minimal_blocking" = some (.ref f8)) (GMb : FnOk P w K mg base CX0 k f8 fd8 ["requirement"] (spMs blocking))
    (FS : Fun K "_law_satisfies" "_law_satisfies" sLsat f9 fd9) (bS : Binds K fd9 ["_law_requirement_here", "_law_nodes"] []) (gS : mg "_law_satisfies" = some (.ref f9)) (GS : FnOk P w K mg base CX0 kL f9 fd9 ["_law_requirement_here", "_law_nodes"] (spSat K Short))
    (FK : Fun K "_law_blocks" "_law_blocks" sLblk f10 fd10) (bK : Binds K fd10 ["_law_requirement_here", "_law_nodes"] []) (gK : mg "_law_blocks" = some (.ref f10)) (GK : FnOk P w K mg base CX0 kL f10 fd10 ["_law_requirement_here", "_law_nodes"] (spBlk K)) :
    FnOk P w K mg base CX0 (k + 1) f fd ["_law_script"] (spLaw K p1 p2) := by
  have only4 : ∀ y ∈ (lamS lamSat).names, y.2 = .free → y.1 = cReq := by decide +kernel
  have only5 : ∀ y ∈ (lamS lamBlk).names, y.2 = .free → y.1 = cReq := by decide +kernel
  have hm : (p1, qLaw) ∈ [(p1, qLaw), (p2, qMin)] := List.mem_cons_self
  have hu : ∀ p ∈ [(p1, qLaw), (p2, qMin)], p.1 = p1 → p.2 = qLaw := fun p hp e => by
    rcases List.mem_cons.mp hp with z | z
    · rw [z]
    · rw [List.mem_singleton.mp z] at e
      exact absurd e.symm p12
  refine F.ok scLaw (fun vs H Q E h => ?_) (fun A outer s H vs Q E hr h => ?_)
  · obtain ⟨a, ns, rfl, _⟩ := h
    rfl
  · obtain ⟨a, ns, rfl, hS, len, hp1, hp2, q⟩ := h
    refine ⟨_, pss_cons (ps_set (i := 1) scLaw.nd rfl (Or.inl rfl) (pe_call GB hr (by rfl) gB FB.kp bB .nil pass0 (pa_cons (pv 0) pa_nil)))
      (pss_cons (ps_set (i := 2) scLaw.nd rfl (Or.inl rfl) (pe_call GN hr (by rfl) gN FN.kp bN .nil pass0 (pa_cons (pv 1) (pa_cons (pe_op op_add pe_int (pe_call GT hr (by rfl) gT FT.kp bT .nil pass0 (pa_cons (pv 1) (pa_cons pe_int pa_nil)))) pa_nil))))
      (pss_cons (ps_set (i := 3) scLaw.nd rfl (Or.inr rfl) (pe_call GR hr (by rfl) gR FR.kp bR .nil pass0 (pa_cons (pv 1) (pa_cons (pv 2) pa_nil))))
      (pss_cons (ps_set (i := 4) scLaw.nd rfl (Or.inl rfl) (pe_callB (cr_txtSorted rfl) (by rfl) T.srt (by decide +kernel) (pa_cons (pe_callTy (cr_txtSet rfl) (by rfl) T.set (by decide +kernel) (pa_cons (pe_call GI hr (by rfl) gI FI.kp bI .nil pass0 (pa_cons (pv 3) pa_nil)) pa_nil)) pa_nil)))
      (pss_cons (ps_set (i := 5) scLaw.nd rfl (Or.inl rfl) (pe_callLend (j := 3) GM hr (by rfl) gM kM bM rfl rfl rfl (pa_cons (pv 4) (pa_cons (pe_lam TB rfl rfl hm hu rfl (fun y hy e => Or.inl (by rw [only4 y hy e]; rfl))) pa_nil))))
      (pss_cons (ps_set (i := 6) scLaw.nd rfl (Or.inl rfl) (pe_callLend (j := 3) GM hr (by rfl) gM kM bM rfl rfl rfl (pa_cons (pv 4) (pa_cons (pe_lam TB rfl rfl hm hu rfl (fun y hy e => Or.inl (by rw [only5 y hy e]; rfl))) pa_nil))))
      (pss_cons (ps_for PassesOwn.never rfl (pi_range1 rfl T.rng (pa_cons pe_int pa_nil)) (pg_name (i := 7) scLaw.nd rfl (Or.inl rfl))
        (pss_one (ps_if (PW.pt (pw_or (pt_cmpR (op_neD hr.units) (pe_call GMs hr (by rfl) gMs FMs.kp bMs .nil pass0 (pa_cons (pv 3) pa_nil)) (pv 5) (nomark _))
          (pw_or1 (pt_cmpR (op_neD hr.units) (pe_call GMb hr (by rfl) gMb FMb.kp bMb .nil pass0 (pa_cons (pv 3) pa_nil)) (pv 6) (nomark _))))) (pss_one (ps_ret pe_bl)) pss_nil)))
      (pss_one (ps_ret pe_bl)))))))), ?_⟩
    refine ⟨.ref a, rfl, a, ns, rfl, hS, len, fun H1 b g m s1 B1 => ?_⟩
    obtain ⟨x0, k0, gs0, ms0, hb0, hg0, _⟩ := B1.ex
    have p1b : p1 ≠ b := ne_of (s1 _ _ hp1) hb0 fun z => (by cases z)
    have p1g : p1 ≠ g := ne_of (s1 _ _ hp1) hg0 fun z => (by cases z)
    have p2b : p2 ≠ b := ne_of (s1 _ _ hp2) hb0 fun z => (by cases z)
    have p2g : p2 ≠ g := ne_of (s1 _ _ hp2) hg0 fun z => (by cases z)
    refine ⟨.ref b, rfl, .ref b, rfl, b, g, m, 0, 8, rfl, B1, by decide, by decide, by decide, fun v0 H2 a0 a1 B2 K2 => ⟨_, _, rfl, rfl, ?_⟩⟩
    have ev : (1 : Int) + v0 = (((1 + v0).toNat : Nat) : Int) := by omega
    refine ⟨b, g, m, _, (1 + v0).toNat, by rw [← ev]; rfl, B2, by decide, by omega, fun np xs H3 nnp h3 xl nd nm B3 K3 => ?_⟩
    refine ⟨.ref b, rfl, .ref np, rfl, b, g, m, np, _, xs, rfl, B3, by decide, h3, by omega, by omega, nm, fun r c ps H4 R fine c1 c2 B4 K4 => ?_⟩
    have t1 := K4 _ _ (K3 _ _ (K2 _ _ (s1 _ _ hp1) p1b p1g) p1b p1g) p1b p1g
    have t2 := K4 _ _ (K3 _ _ (K2 _ _ (s1 _ _ hp2) p2b p2g) p2b p2g) p2b p2g
    have pl := fine.len
    have pn := fine.nam
    have short : Short ps := fun c ns mp => by
      have := (fine.all _ mp).2.1
      omega
    have inx := goods_names fine.all
    have few : Few ps := ⟨xs, by omega, inx⟩
    -- the names inside
    refine ⟨.ref r, rfl, r, c, ps, rfl, R, trivial, by omega, fun lp0 H5 s5 nlp0 h5 => ⟨lp0, namesOf ps, rfl, SqL.of h5, by omega, fun sa m' na hm' => ⟨sa, _, m', rfl, upd_same, by omega, fun ys il sd nd1 mem0 yl nil => ?_⟩⟩⟩
    have mem : ∀ x, x ∈ ys ↔ x ∈ namesOf ps := fun x => (mem0 x).trans (by simp)
    have y8 : ys.length ≤ 8 := Nat.le_trans (nodup_le nd1 fun x m => inx x ((mem x).mp m)) (by omega)
    have yok : ∀ x ∈ ys, PyData.strOk x = true := fun x mx => (nm x (inx x ((mem x).mp mx))).ok
    generalize hX : upd (upd H5 sa (TxtSet (cxOf CX0 P w K mg base nLaw (Str.ofString "law") (defScope sLaw) f (Value.ref cL) A outer s H E).nox.prog (cxOf CX0 P w K mg base nLaw (Str.ofString "law") (defScope sLaw) f (Value.ref cL) A outer s H E).nox.w sa (fun k => decide (k ∈ namesOf ps)) m')) il (HO.lst (List.map V.str ys)) = H6
    have s6 : Same H4 H6 := by
      rw [← hX]
      exact (s5.trans (same_new na)).trans (same_new nil)
    have hil : H6 il = some (.lst (ys.map V.str)) := by
      rw [← hX]
      exact upd_same
    have R6 := R.tups (Same.tups s6)
    have T6 : Tabs [(p1, qLaw), (p2, qMin)] H6 := fun p hp => by
      rcases List.mem_cons.mp hp with z | z
      · rw [z]
        exact TabS.nil (s6 _ _ t1)
      · rw [List.mem_singleton.mp z]
        exact TabS.nil (s6 _ _ t2)
    have eL : least ys c ps = srt ((subs ys).filter (minimal fun S => sat S c ps)) := kept_is nd1 (mono_sat ys c ps)
    have eB : blocking ys c ps = srt ((subs ys).filter (minimal fun S => blk S c ps)) := kept_is nd1 (mono_blk ys c ps)
    -- the least ones
    refine ⟨.ref il, rfl, T6, fun fS cS H7 e7 T7 nfS hfS hcS => ⟨.ref r, rfl, fun cc o u hcc hd ru hn => ?_⟩⟩
    obtain rfl : u = Value.ref r := ru
    have R7 : ReqAt H7 r c ps := R6.tups fun b xs e => e7 _ _ e fun _ z => (by cases z)
    have up : ∀ b x, H7 b = some x → upd H7 cc (CellF o) b = some x := fun b x e => by
      rw [upd_ne (ne_of_none e hn)]
      exact e
    refine ⟨il, fS, ys, (fun S => sat S c ps), AskAt lamSat _ fS cS cc o r c ps, rfl, up _ _ (e7 _ _ hil fun _ z => (by cases z)), y8, ask_sat FS bS gS GS hcc hd short (by omega) (by omega), fun H a => ⟨_, _, _, _, _, _, a.fn⟩, fun H H' a s => a.same s, ⟨up _ _ hfS, up _ _ hcS, upd_same, R7.tups fun b xs e => up _ _ e⟩, T7.ext up, fun lp ls H9 e9 T9 hlp lst el => ?_⟩
    have c9 : H9 cc = some (CellF o) := e9 _ _ upd_same fun _ z => (by cases z)
    have ext : ExtN H6 (del H9 cc) := e7.trans fun b x e n => by
      rw [del_ne (ne_of_none e hn)]
      exact e9 b x (up b x e) n
    have T10 := tabs_del T9 c9
    have hlp10 : del H9 cc lp = some (.tup (ls.map fun q => V.ref q.1)) := del_keeps c9 hlp fun z => (by cases z)
    have lst10 : SetsAt (del H9 cc) ls := fun q mq => del_keeps c9 (lst q mq) fun z => (by cases z)
    change gName 5 _ _ (del H9 cc) _
    generalize del H9 cc = H10 at ext T10 hlp10 lst10 ⊢
    clear c9 e9 T9 hlp lst up hn hcc hd
    have il10 := ext _ _ hil fun _ z => (by cases z)
    have R10 : ReqAt H10 r c ps := R6.tups fun b xs e => ext _ _ e fun _ z => (by cases z)
    -- the blocking ones
    refine ⟨.ref il, rfl, T10, fun fB cB H11 e11 T11 nfB hfB hcB => ⟨.ref r, rfl, fun cc o u hcc hd ru hn => ?_⟩⟩
    obtain rfl : u = Value.ref r := ru
    have R11 : ReqAt H11 r c ps := R10.tups fun b xs e => e11 _ _ e fun _ z => (by cases z)
    have up : ∀ b x, H11 b = some x → upd H11 cc (CellF o) b = some x := fun b x e => by
      rw [upd_ne (ne_of_none e hn)]
      exact e
    refine ⟨il, fB, ys, (fun S => blk S c ps), AskAt lamBlk _ fB cB cc o r c ps, rfl, up _ _ (e11 _ _ il10 fun _ z => (by cases z)), y8, ask_blk FK bK gK GK hcc hd short (by omega) (by omega), fun H a => ⟨_, _, _, _, _, _, a.fn⟩, fun H H' a s => a.same s, ⟨up _ _ hfB, up _ _ hcB, upd_same, R11.tups fun b xs e => up _ _ e⟩, T11.ext up, fun bp bs H13 e13 T13 hbp bst eb => ?_⟩
    have c13 : H13 cc = some (CellF o) := e13 _ _ upd_same fun _ z => (by cases z)
    have ext2 : ExtN H10 (del H13 cc) := e11.trans fun b x e n => by
      rw [del_ne (ne_of_none e hn)]
      exact e13 b x (up b x e) n
    have hbp14 : del H13 cc bp = some (.tup (bs.map fun q => V.ref q.1)) := del_keeps c13 hbp fun z => (by cases z)
    have bst14 : SetsAt (del H13 cc) bs := fun q mq => del_keeps c13 (bst q mq) fun z => (by cases z)
    change gName 6 _ _ (del H13 cc) _
    generalize del H13 cc = H14 at ext2 hbp14 bst14 ⊢
    have R14 : ReqAt H14 r c ps := R10.tups fun b xs e => ext2 _ _ e fun _ z => (by cases z)
    have hlp14 := ext2 _ _ hlp10 fun _ z => (by cases z)
    have lst14 : SetsAt H14 ls := fun q mq => ext2 _ _ (lst10 q mq) fun _ z => (by cases z)
    rw [← eL] at el
    rw [← eB] at eb
    have shl : SeqAt.shaped (.tuple ((least ys c ps).map setD)) = true := shaped_sets fun s ms x mx => yok x (subs_in (least_in ms) x mx)
    have shb : SeqAt.shaped (.tuple ((blocking ys c ps).map setD)) = true := shaped_sets fun s ms x mx => yok x (subs_in (blocking_in ms) x mx)
    refine ⟨2, rfl, by decide, by decide, for_range (lo := 0) (n := 2) (fun i σ H15 => ∃ y7 : Option V, σ = [some (.ref a), some (.ref b), some (.ref np), some (.ref r), some (.ref il), some (.ref lp), some (.ref bp), y7] ∧ Same H14 H15) ?_ ?_ ?_⟩
    · exact ⟨none, rfl, Same.refl _⟩
    · rintro i σ H15 hi ⟨y7, rfl, s15⟩
      refine ⟨.ref r, rfl, r, c, ps, rfl, R14.tups (Same.tups s15), short, by omega, by omega, few, fun q1 ys1 qs1 H16 s16 sd1 nd2 mem1 hq1 st1 eq1 => ?_⟩
      have e1 : ys1 = ys := sorted_one sd1 nd2 sd nd1 fun x => (mem1 x).trans (mem x).symm
      rw [e1] at eq1
      have s1416 := s15.trans s16
      have D1 : Dp K H16 (.ref q1) (.tuple ((least ys c ps).map setD)) := by
        rw [← eq1]
        exact .tup (SqT.of hq1) (dp_sets st1)
      have D2 : Dp K H16 (.ref lp) (.tuple ((least ys c ps).map setD)) := by
        rw [← el]
        exact .tup (SqT.of (s1416 _ _ hlp14)) (dp_sets (lst14.same s1416))
      refine ⟨.ref lp, rfl, _, _, D1, D2, shl, shl, _, rfl, ?_⟩
      rw [SeqAt.eqv_refl _ (SeqAt.canLay_of_shaped shl)]
      refine iteF ?_
      refine ⟨.ref r, rfl, r, c, ps, rfl, R14.tups (Same.tups s1416), short, by omega, by omega, few, fun q2 ys2 qs2 H17 s17 sd2 nd3 mem2 hq2 st2 eq2 => ?_⟩
      have e2 : ys2 = ys := sorted_one sd2 nd3 sd nd1 fun x => (mem2 x).trans (mem x).symm
      rw [e2] at eq2
      have s1417 := s1416.trans s17
      have D3 : Dp K H17 (.ref q2) (.tuple ((blocking ys c ps).map setD)) := by
        rw [← eq2]
        exact .tup (SqT.of hq2) (dp_sets st2)
      have D4 : Dp K H17 (.ref bp) (.tuple ((blocking ys c ps).map setD)) := by
        rw [← eb]
        exact .tup (SqT.of (s1417 _ _ hbp14)) (dp_sets (bst14.same s1417))
      refine ⟨.ref bp, rfl, _, _, D3, D4, shb, shb, _, rfl, ?_⟩
      rw [SeqAt.eqv_refl _ (SeqAt.canLay_of_shaped shb)]
      exact iteF ⟨_, rfl, s1417⟩
    · rintro σ H15 ⟨y7, rfl, _⟩
      exact q H15
end
end Moot
set_option linter.all false
namespace Moot
open PySem PySem.Spec PyProof.Rows L2 LamX NdefX
/-- the end, every def's table told -/
theorem walk_tabs {l : PySem.W.OpenLaw} {n k : Nat} {q : Program} {loose : List Str} {XP : (Str → Option Value) → Heap → Prop} {YP : World → Heap → Prop} {d : DefRec} {K : Params → PySem.W.Frag} {CX : World → CXT} {x : Str}
    (hn : l.most = some n) (hn2 : n ≤ sizeLine) (hdf : d.params.defaults = []) (hr : Room k callerA) (hY : ∀ (w : World) (h : Heap), YP w h → (K w.params).In h)
    (F : ∀ (w : World) (mg : Str → Option Value) (fa : Addr) (h : Heap), (K w.params).In h → h.Ns mainGlobals mg → mg d.name = some (.ref fa) → (∀ (y : Str) (c P : Addr), ((recsOf q).find? fun e => e.name == y).isSome = true → PySem.W.tabIn (K w.params) y = some (c, P) → PySem.W.CodeHd h c P ∧ h.get? P = some { cls := .none, data := .fields #[] }) → LawAtS l w (K w.params) (CX w) k n x mg fa h)
    (hCX : ∀ (w : World) (H : Hp) (s : Shared) (e : Value) (s' : Shared), CX w [] H s (fun _ _ _ => False) e s' → False) :
    PySem.W.WalkO q loose XP YP l.row.toRowW d [] (fun f vs => PySem.call f vs) := by
  refine Att.attach_callB hn hdf fun w s₀ s₁ mg mb fa o pm cd doc a vs ns G Y ho hd hcd hmg hobj hints hlen hbits hg => ?_
  have KX := hY w _ Y
  have tabs : ∀ (y : Str) (c P : Addr), ((recsOf q).find? fun e => e.name == y).isSome = true → PySem.W.tabIn (K w.params) y = some (c, P) → PySem.W.CodeHd s₁.heap c P ∧ s₁.heap.get? P = some { cls := .none, data := .fields #[] } := fun y c P hy ht => by
    obtain ⟨rec, hrec⟩ := Option.isSome_iff_exists.mp hy
    exact PySem.W.tab_of G.T KX hrec ht
  obtain ⟨fd, cs, sp, hT, nT, C, hb, hsp, hF⟩ := F w mg fa _ KX G.T.g hmg tabs
  exact law_callTs KX G.T.g G.T.b G.T.builtins G.T.nolimit hg hT nT C G.T.bmain hobj hints (Nat.le_trans hlen hn2) hr hF hb (fun H hH hS => hsp H a ns hlen hbits hH hS) fun H e s' => hCX w H s₁ e s'
/-! what the top has written -/
theorem all_mk {l : PySem.W.OpenLaw} {w : World} {K : PySem.W.Frag} {h : Heap} {mg : Str → Option Value} {fa f_ns f_wit f_ord f_sub f_min f_nwr f_nin f_sp f_sat f_blk f_ms f_mb f_box f_mix f_take f_nam f_som f_cnt f_req f_lni f_lsat f_lblk f_lsub f_lis f_lmin f_law c_lmin c_law p_lmin p_law : Addr} (X : K.In h) (G : h.Ns mainGlobals mg) (hfa : mg "law" = some (.ref fa)) (ownL : ∀ c P, PySem.W.tabIn K "law" = some (c, P) → PySem.W.CodeHd h c P ∧ h.get? P = some { cls := .none, data := .fields #[] }) (ownM : ∀ c P, PySem.W.tabIn K "_law_minimal" = some (c, P) → PySem.W.CodeHd h c P ∧ h.get? P = some { cls := .none, data := .fields #[] })
    {od_ns an_ns od_wit an_wit od_ord an_ord od_sub an_sub od_min an_min od_nwr an_nwr od_nin an_nin od_sp an_sp od_sat an_sat od_blk an_blk od_ms an_ms od_mb an_mb od_box an_box od_mix an_mix od_take an_take od_nam an_nam od_som an_som od_cnt an_cnt od_req an_req od_lni an_lni od_lsat an_lsat od_lblk an_lblk od_lsub an_lsub od_lis an_lis od_lmin an_lmin od_law an_law dd_lmin dd_law : Option Addr} {sl_ns sl_wit sl_ord sl_sub sl_min sl_nwr sl_nin sl_sp sl_sat sl_blk sl_ms sl_mb sl_box sl_mix sl_take sl_nam sl_som sl_cnt sl_req sl_lni sl_lsat sl_lblk sl_lsub sl_lis sl_lmin sl_law sx_lmin sx_law : Array (Option Value)} {oc_ns kV_ns dc_ns pm_ns ct_ns cd_ns oc_wit kV_wit dc_wit pm_wit ct_wit cd_wit oc_ord kV_ord dc_ord pm_ord ct_ord cd_ord oc_sub kV_sub dc_sub pm_sub ct_sub cd_sub oc_min kV_min dc_min pm_min ct_min cd_min oc_nwr kV_nwr dc_nwr pm_nwr ct_nwr cd_nwr oc_nin kV_nin dc_nin pm_nin ct_nin cd_nin oc_sp kV_sp dc_sp pm_sp ct_sp cd_sp oc_sat kV_sat dc_sat pm_sat ct_sat cd_sat oc_blk kV_blk dc_blk pm_blk ct_blk cd_blk oc_ms kV_ms dc_ms pm_ms ct_ms cd_ms oc_mb kV_mb dc_mb pm_mb ct_mb cd_mb oc_box kV_box dc_box pm_box ct_box cd_box oc_mix kV_mix dc_mix pm_mix ct_mix cd_mix oc_take kV_take dc_take pm_take ct_take cd_take oc_nam kV_nam dc_nam pm_nam ct_nam cd_nam oc_som kV_som dc_som pm_som ct_som cd_som oc_cnt kV_cnt dc_cnt pm_cnt ct_cnt cd_cnt oc_req kV_req dc_req pm_req ct_req cd_req oc_lni kV_lni dc_lni pm_lni ct_lni cd_lni oc_lsat kV_lsat dc_lsat pm_lsat ct_lsat cd_lsat oc_lblk kV_lblk dc_lblk pm_lblk ct_lblk cd_lblk oc_lsub kV_lsub dc_lsub pm_lsub ct_lsub cd_lsub oc_lis kV_lis dc_lis pm_lis ct_lis cd_lis oc_lmin kV_lmin dc_lmin pm_lmin ct_lmin oc_law kV_law dc_law pm_law ct_law ex_lmin ex_law : Value}
    {vs_lmin vs_law : Array Value}
    (a_ns : PySem.W.nsIn K mainGlobals "node_set" = some (some (.ref f_ns)))
    (l_ns : K.lookup f_ns = some ⟨oc_ns, od_ns, .func (PySem.W.fnOf "node_set" "node_set" (defArgs sNs) (defBody sNs) (defScope sNs) .none kV_ns dc_ns pm_ns an_ns cd_ns ct_ns), sl_ns⟩) (q_ns : PySem.W.codeIn K cd_ns "node_set" = true) (k_ns : PySem.W.keepIn K (.ref f_ns) = true)
    (a_wit : PySem.W.nsIn K mainGlobals "is_within" = some (some (.ref f_wit)))
    (l_wit : K.lookup f_wit = some ⟨oc_wit, od_wit, .func (PySem.W.fnOf "is_within" "is_within" (defArgs sWit) (defBody sWit) (defScope sWit) .none kV_wit dc_wit pm_wit an_wit cd_wit ct_wit), sl_wit⟩) (q_wit : PySem.W.codeIn K cd_wit "is_within" = true) (k_wit : PySem.W.keepIn K (.ref f_wit) = true)
    (a_ord : PySem.W.nsIn K mainGlobals "set_order" = some (some (.ref f_ord)))
    (l_ord : K.lookup f_ord = some ⟨oc_ord, od_ord, .func (PySem.W.fnOf "set_order" "set_order" (defArgs sOrd) (defBody sOrd) (defScope sOrd) .none kV_ord dc_ord pm_ord an_ord cd_ord ct_ord), sl_ord⟩) (q_ord : PySem.W.codeIn K cd_ord "set_order" = true) (k_ord : PySem.W.keepIn K (.ref f_ord) = true)
    (a_sub : PySem.W.nsIn K mainGlobals "subsets" = some (some (.ref f_sub)))
    (l_sub : K.lookup f_sub = some ⟨oc_sub, od_sub, .func (PySem.W.fnOf "subsets" "subsets" (defArgs sSub) (defBody sSub) (defScope sSub) .none kV_sub dc_sub pm_sub an_sub cd_sub ct_sub), sl_sub⟩) (q_sub : PySem.W.codeIn K cd_sub "subsets" = true) (k_sub : PySem.W.keepIn K (.ref f_sub) = true)
    (a_min : PySem.W.nsIn K mainGlobals "minimal_sets" = some (some (.ref f_min)))
    (l_min : K.lookup f_min = some ⟨oc_min, od_min, .func (PySem.W.fnOf "minimal_sets" "minimal_sets" (defArgs sMin) (defBody sMin) (defScope sMin) .none kV_min dc_min pm_min an_min cd_min ct_min), sl_min⟩) (q_min : PySem.W.codeIn K cd_min "minimal_sets" = true) (k_min : PySem.W.keepIn K (.ref f_min) = true)
    (a_nwr : PySem.W.nsIn K mainGlobals "names_with_repetition" = some (some (.ref f_nwr)))
    (l_nwr : K.lookup f_nwr = some ⟨oc_nwr, od_nwr, .func (PySem.W.fnOf "names_with_repetition" "names_with_repetition" (defArgs sNwr) (defBody sNwr) (defScope sNwr) .none kV_nwr dc_nwr pm_nwr an_nwr cd_nwr ct_nwr), sl_nwr⟩) (q_nwr : PySem.W.codeIn K cd_nwr "names_with_repetition" = true) (k_nwr : PySem.W.keepIn K (.ref f_nwr) = true)
    (a_nin : PySem.W.nsIn K mainGlobals "names_in" = some (some (.ref f_nin)))
    (l_nin : K.lookup f_nin = some ⟨oc_nin, od_nin, .func (PySem.W.fnOf "names_in" "names_in" (defArgs sNin) (defBody sNin) (defScope sNin) .none kV_nin dc_nin pm_nin an_nin cd_nin ct_nin), sl_nin⟩) (q_nin : PySem.W.codeIn K cd_nin "names_in" = true) (k_nin : PySem.W.keepIn K (.ref f_nin) = true)
    (a_sp : PySem.W.nsIn K mainGlobals "satisfies_part" = some (some (.ref f_sp)))
    (l_sp : K.lookup f_sp = some ⟨oc_sp, od_sp, .func (PySem.W.fnOf "satisfies_part" "satisfies_part" (defArgs sSp) (defBody sSp) (defScope sSp) .none kV_sp dc_sp pm_sp an_sp cd_sp ct_sp), sl_sp⟩) (q_sp : PySem.W.codeIn K cd_sp "satisfies_part" = true) (k_sp : PySem.W.keepIn K (.ref f_sp) = true)
    (a_sat : PySem.W.nsIn K mainGlobals "satisfies" = some (some (.ref f_sat)))
    (l_sat : K.lookup f_sat = some ⟨oc_sat, od_sat, .func (PySem.W.fnOf "satisfies" "satisfies" (defArgs sSat) (defBody sSat) (defScope sSat) .none kV_sat dc_sat pm_sat an_sat cd_sat ct_sat), sl_sat⟩) (q_sat : PySem.W.codeIn K cd_sat "satisfies" = true) (k_sat : PySem.W.keepIn K (.ref f_sat) = true)
    (a_blk : PySem.W.nsIn K mainGlobals "blocks" = some (some (.ref f_blk)))
    (l_blk : K.lookup f_blk = some ⟨oc_blk, od_blk, .func (PySem.W.fnOf "blocks" "blocks" (defArgs sBlk) (defBody sBlk) (defScope sBlk) .none kV_blk dc_blk pm_blk an_blk cd_blk ct_blk), sl_blk⟩) (q_blk : PySem.W.codeIn K cd_blk "blocks" = true) (k_blk : PySem.W.keepIn K (.ref f_blk) = true)
    (a_ms : PySem.W.nsIn K mainGlobals "minimal_satisfying" = some (some (.ref f_ms)))
    (l_ms : K.lookup f_ms = some ⟨oc_ms, od_ms, .func (PySem.W.fnOf "minimal_satisfying" "minimal_satisfying" (defArgs sMs) (defBody sMs) (defScope sMs) .none kV_ms dc_ms pm_ms an_ms cd_ms ct_ms), sl_ms⟩) (q_ms : PySem.W.codeIn K cd_ms "minimal_satisfying" = true) (k_ms : PySem.W.keepIn K (.ref f_ms) = true)
    (a_mb : PySem.W.nsIn K mainGlobals "minimal_blocking" = some (some (.ref f_mb)))
    (l_mb : K.lookup f_mb = some ⟨oc_mb, od_mb, .func (PySem.W.fnOf "minimal_blocking" "minimal_blocking" (defArgs sMb) (defBody sMb) (defScope sMb) .none kV_mb dc_mb pm_mb an_mb cd_mb ct_mb), sl_mb⟩) (q_mb : PySem.W.codeIn K cd_mb "minimal_blocking" = true) (k_mb : PySem.W.keepIn K (.ref f_mb) = true)
    (a_box : PySem.W.nsIn K mainGlobals "_law_box" = some (some (.ref f_box)))
    (l_box : K.lookup f_box = some ⟨oc_box, od_box, .func (PySem.W.fnOf "_law_box" "_law_box" (defArgs sBox) (defBody sBox) (defScope sBox) .none kV_box dc_box pm_box an_box cd_box ct_box), sl_box⟩) (q_box : PySem.W.codeIn K cd_box "_law_box" = true) (k_box : PySem.W.keepIn K (.ref f_box) = true)
    (a_mix : PySem.W.nsIn K mainGlobals "_law_mixed" = some (some (.ref f_mix)))
    (l_mix : K.lookup f_mix = some ⟨oc_mix, od_mix, .func (PySem.W.fnOf "_law_mixed" "_law_mixed" (defArgs sMixed) (defBody sMixed) (defScope sMixed) .none kV_mix dc_mix pm_mix an_mix cd_mix ct_mix), sl_mix⟩) (q_mix : PySem.W.codeIn K cd_mix "_law_mixed" = true) (k_mix : PySem.W.keepIn K (.ref f_mix) = true)
    (a_take : PySem.W.nsIn K mainGlobals "_law_take" = some (some (.ref f_take)))
    (l_take : K.lookup f_take = some ⟨oc_take, od_take, .func (PySem.W.fnOf "_law_take" "_law_take" (defArgs sTake) (defBody sTake) (defScope sTake) .none kV_take dc_take pm_take an_take cd_take ct_take), sl_take⟩) (q_take : PySem.W.codeIn K cd_take "_law_take" = true) (k_take : PySem.W.keepIn K (.ref f_take) = true)
    (a_nam : PySem.W.nsIn K mainGlobals "_law_names" = some (some (.ref f_nam)))
    (l_nam : K.lookup f_nam = some ⟨oc_nam, od_nam, .func (PySem.W.fnOf "_law_names" "_law_names" (defArgs sNames) (defBody sNames) (defScope sNames) .none kV_nam dc_nam pm_nam an_nam cd_nam ct_nam), sl_nam⟩) (q_nam : PySem.W.codeIn K cd_nam "_law_names" = true) (k_nam : PySem.W.keepIn K (.ref f_nam) = true)
    (a_som : PySem.W.nsIn K mainGlobals "_law_some" = some (some (.ref f_som)))
    (l_som : K.lookup f_som = some ⟨oc_som, od_som, .func (PySem.W.fnOf "_law_some" "_law_some" (defArgs sSome) (defBody sSome) (defScope sSome) .none kV_som dc_som pm_som an_som cd_som ct_som), sl_som⟩) (q_som : PySem.W.codeIn K cd_som "_law_some" = true) (k_som : PySem.W.keepIn K (.ref f_som) = true)
    (a_cnt : PySem.W.nsIn K mainGlobals "_law_count" = some (some (.ref f_cnt)))
    (l_cnt : K.lookup f_cnt = some ⟨oc_cnt, od_cnt, .func (PySem.W.fnOf "_law_count" "_law_count" (defArgs sCount) (defBody sCount) (defScope sCount) .none kV_cnt dc_cnt pm_cnt an_cnt cd_cnt ct_cnt), sl_cnt⟩) (q_cnt : PySem.W.codeIn K cd_cnt "_law_count" = true) (k_cnt : PySem.W.keepIn K (.ref f_cnt) = true)
    (a_req : PySem.W.nsIn K mainGlobals "_law_requirement" = some (some (.ref f_req)))
    (l_req : K.lookup f_req = some ⟨oc_req, od_req, .func (PySem.W.fnOf "_law_requirement" "_law_requirement" (defArgs sReq) (defBody sReq) (defScope sReq) .none kV_req dc_req pm_req an_req cd_req ct_req), sl_req⟩) (q_req : PySem.W.codeIn K cd_req "_law_requirement" = true) (k_req : PySem.W.keepIn K (.ref f_req) = true)
    (a_lni : PySem.W.nsIn K mainGlobals "_law_names_in" = some (some (.ref f_lni)))
    (l_lni : K.lookup f_lni = some ⟨oc_lni, od_lni, .func (PySem.W.fnOf "_law_names_in" "_law_names_in" (defArgs sLni) (defBody sLni) (defScope sLni) .none kV_lni dc_lni pm_lni an_lni cd_lni ct_lni), sl_lni⟩) (q_lni : PySem.W.codeIn K cd_lni "_law_names_in" = true) (k_lni : PySem.W.keepIn K (.ref f_lni) = true)
    (a_lsat : PySem.W.nsIn K mainGlobals "_law_satisfies" = some (some (.ref f_lsat)))
    (l_lsat : K.lookup f_lsat = some ⟨oc_lsat, od_lsat, .func (PySem.W.fnOf "_law_satisfies" "_law_satisfies" (defArgs sLsat) (defBody sLsat) (defScope sLsat) .none kV_lsat dc_lsat pm_lsat an_lsat cd_lsat ct_lsat), sl_lsat⟩) (q_lsat : PySem.W.codeIn K cd_lsat "_law_satisfies" = true) (k_lsat : PySem.W.keepIn K (.ref f_lsat) = true)
    (a_lblk : PySem.W.nsIn K mainGlobals "_law_blocks" = some (some (.ref f_lblk)))
    (l_lblk : K.lookup f_lblk = some ⟨oc_lblk, od_lblk, .func (PySem.W.fnOf "_law_blocks" "_law_blocks" (defArgs sLblk) (defBody sLblk) (defScope sLblk) .none kV_lblk dc_lblk pm_lblk an_lblk cd_lblk ct_lblk), sl_lblk⟩) (q_lblk : PySem.W.codeIn K cd_lblk "_law_blocks" = true) (k_lblk : PySem.W.keepIn K (.ref f_lblk) = true)
    (a_lsub : PySem.W.nsIn K mainGlobals "_law_subsets" = some (some (.ref f_lsub)))
    (l_lsub : K.lookup f_lsub = some ⟨oc_lsub, od_lsub, .func (PySem.W.fnOf "_law_subsets" "_law_subsets" (defArgs sLsub) (defBody sLsub) (defScope sLsub) .none kV_lsub dc_lsub pm_lsub an_lsub cd_lsub ct_lsub), sl_lsub⟩) (q_lsub : PySem.W.codeIn K cd_lsub "_law_subsets" = true) (k_lsub : PySem.W.keepIn K (.ref f_lsub) = true)
    (a_lis : PySem.W.nsIn K mainGlobals "_law_listed" = some (some (.ref f_lis)))
    (l_lis : K.lookup f_lis = some ⟨oc_lis, od_lis, .func (PySem.W.fnOf "_law_listed" "_law_listed" (defArgs sLis) (defBody sLis) (defScope sLis) .none kV_lis dc_lis pm_lis an_lis cd_lis ct_lis), sl_lis⟩) (q_lis : PySem.W.codeIn K cd_lis "_law_listed" = true) (k_lis : PySem.W.keepIn K (.ref f_lis) = true)
    (a_lmin : PySem.W.nsIn K mainGlobals "_law_minimal" = some (some (.ref f_lmin)))
    (l_lmin : K.lookup f_lmin = some ⟨oc_lmin, od_lmin, .func (PySem.W.fnOf "_law_minimal" "_law_minimal" (defArgs sLmin) (defBody sLmin) (defScope sLmin) .none kV_lmin dc_lmin pm_lmin an_lmin (.ref c_lmin) ct_lmin), sl_lmin⟩) (q_lmin : PySem.W.codeIn K (.ref c_lmin) "_law_minimal" = true) (k_lmin : PySem.W.keepIn K (.ref f_lmin) = true)
    (a_law : PySem.W.nsIn K mainGlobals "law" = some (some (.ref f_law)))
    (l_law : K.lookup f_law = some ⟨oc_law, od_law, .func (PySem.W.fnOf "law" "law" (defArgs sLaw) (defBody sLaw) (defScope sLaw) .none kV_law dc_law pm_law an_law (.ref c_law) ct_law), sl_law⟩) (q_law : PySem.W.codeIn K (.ref c_law) "law" = true) (k_law : PySem.W.keepIn K (.ref f_law) = true)
    (u_lmin : K.lookup c_lmin = some ⟨ex_lmin, dd_lmin, .fields vs_lmin, sx_lmin⟩) (v_lmin : vs_lmin[11]? = some (.ref p_lmin)) (n_lmin : K.lookup p_lmin = none) (e_lmin : PySem.W.tabIn K "_law_minimal" = some (c_lmin, p_lmin))
    (u_law : K.lookup c_law = some ⟨ex_law, dd_law, .fields vs_law, sx_law⟩) (v_law : vs_law[11]? = some (.ref p_law)) (n_law : K.lookup p_law = none) (e_law : PySem.W.tabIn K "law" = some (c_law, p_law))
    (pp : (p_law == p_lmin) = false)
    (z_isi : PySem.W.nsIn K mainGlobals "isinstance" = some none) (z_str : PySem.W.nsIn K mainGlobals "str" = some none) (z_len : PySem.W.nsIn K mainGlobals "len" = some none) (z_tup : PySem.W.nsIn K mainGlobals "tuple" = some none) (z_lst : PySem.W.nsIn K mainGlobals "list" = some none) (z_srt : PySem.W.nsIn K mainGlobals "sorted" = some none) (z_set : PySem.W.nsIn K mainGlobals "set" = some none) (z_rng : PySem.W.nsIn K mainGlobals "range" = some none) (z_int : PySem.W.nsIn K mainGlobals "int" = some none) (z_bool : PySem.W.nsIn K mainGlobals "bool" = some none) (z_sum : PySem.W.nsIn K mainGlobals "sum" = some none) (z_min : PySem.W.nsIn K mainGlobals "min" = some none) (z_max : PySem.W.nsIn K mainGlobals "max" = some none) (z_all : PySem.W.nsIn K mainGlobals "all" = some none) (z_any : PySem.W.nsIn K mainGlobals "any" = some none) :
    LawAtS l w K CX0 7 63 "_law_script" mg fa h := by
  have e := hfa.symm.trans (PySem.W.mg_of X G a_law)
  cases e
  have T : Blt mg := ⟨PySem.W.mg_none_of X G z_isi, PySem.W.mg_none_of X G z_str, PySem.W.mg_none_of X G z_len, PySem.W.mg_none_of X G z_tup, PySem.W.mg_none_of X G z_lst, PySem.W.mg_none_of X G z_srt, PySem.W.mg_none_of X G z_set, PySem.W.mg_none_of X G z_rng, PySem.W.mg_none_of X G z_int, PySem.W.mg_none_of X G z_bool, PySem.W.mg_none_of X G z_sum, PySem.W.mg_none_of X G z_min, PySem.W.mg_none_of X G z_max⟩
  have T2 : Blt2 mg := ⟨PySem.W.mg_none_of X G z_all, PySem.W.mg_none_of X G z_any⟩
  have F_ns := fun_mk (st := sNs) l_ns q_ns k_ns
  have g_ns : mg "node_set" = some (.ref _) := PySem.W.mg_of X G a_ns
  have b_ns := F_ns.binds (ps := ["names"]) fun _ _ _ _ _ _ us hl => match us, hl with | [_], _ => rfl
  have F_wit := fun_mk (st := sWit) l_wit q_wit k_wit
  have g_wit : mg "is_within" = some (.ref _) := PySem.W.mg_of X G a_wit
  have b_wit := F_wit.binds (ps := ["small", "large"]) fun _ _ _ _ _ _ us hl => match us, hl with | [_, _], _ => rfl
  have F_ord := fun_mk (st := sOrd) l_ord q_ord k_ord
  have g_ord : mg "set_order" = some (.ref _) := PySem.W.mg_of X G a_ord
  have b_ord := F_ord.binds (ps := ["nodes"]) fun _ _ _ _ _ _ us hl => match us, hl with | [_], _ => rfl
  have F_sub := fun_mk (st := sSub) l_sub q_sub k_sub
  have g_sub : mg "subsets" = some (.ref _) := PySem.W.mg_of X G a_sub
  have b_sub := F_sub.binds (ps := ["names"]) fun _ _ _ _ _ _ us hl => match us, hl with | [_], _ => rfl
  have F_min := fun_mk (st := sMin) l_min q_min k_min
  have g_min : mg "minimal_sets" = some (.ref _) := PySem.W.mg_of X G a_min
  have b_min := F_min.binds (ps := ["sets"]) fun _ _ _ _ _ _ us hl => match us, hl with | [_], _ => rfl
  have F_nwr := fun_mk (st := sNwr) l_nwr q_nwr k_nwr
  have g_nwr : mg "names_with_repetition" = some (.ref _) := PySem.W.mg_of X G a_nwr
  have b_nwr := F_nwr.binds (ps := ["requirement"]) fun _ _ _ _ _ _ us hl => match us, hl with | [_], _ => rfl
  have F_nin := fun_mk (st := sNin) l_nin q_nin k_nin
  have g_nin : mg "names_in" = some (.ref _) := PySem.W.mg_of X G a_nin
  have b_nin := F_nin.binds (ps := ["requirement"]) fun _ _ _ _ _ _ us hl => match us, hl with | [_], _ => rfl
  have F_sp := fun_mk (st := sSp) l_sp q_sp k_sp
  have g_sp : mg "satisfies_part" = some (.ref _) := PySem.W.mg_of X G a_sp
  have b_sp := F_sp.binds (ps := ["part", "nodes"]) fun _ _ _ _ _ _ us hl => match us, hl with | [_, _], _ => rfl
  have F_sat := fun_mk (st := sSat) l_sat q_sat k_sat
  have g_sat : mg "satisfies" = some (.ref _) := PySem.W.mg_of X G a_sat
  have b_sat := F_sat.binds (ps := ["requirement", "nodes"]) fun _ _ _ _ _ _ us hl => match us, hl with | [_, _], _ => rfl
  have F_blk := fun_mk (st := sBlk) l_blk q_blk k_blk
  have g_blk : mg "blocks" = some (.ref _) := PySem.W.mg_of X G a_blk
  have b_blk := F_blk.binds (ps := ["requirement", "nodes"]) fun _ _ _ _ _ _ us hl => match us, hl with | [_, _], _ => rfl
  have F_ms := fun_mk (st := sMs) l_ms q_ms k_ms
  have g_ms : mg "minimal_satisfying" = some (.ref _) := PySem.W.mg_of X G a_ms
  have b_ms := F_ms.binds (ps := ["requirement"]) fun _ _ _ _ _ _ us hl => match us, hl with | [_], _ => rfl
  have F_mb := fun_mk (st := sMb) l_mb q_mb k_mb
  have g_mb : mg "minimal_blocking" = some (.ref _) := PySem.W.mg_of X G a_mb
  have b_mb := F_mb.binds (ps := ["requirement"]) fun _ _ _ _ _ _ us hl => match us, hl with | [_], _ => rfl
  have F_box := fun_mk (st := sBox) l_box q_box k_box
  have g_box : mg "_law_box" = some (.ref _) := PySem.W.mg_of X G a_box
  have b_box := F_box.binds (ps := ["_law_script"]) fun _ _ _ _ _ _ us hl => match us, hl with | [_], _ => rfl
  have F_mix := fun_mk (st := sMixed) l_mix q_mix k_mix
  have g_mix : mg "_law_mixed" = some (.ref _) := PySem.W.mg_of X G a_mix
  have b_mix := F_mix.binds (ps := ["_law_cell", "_law_k"]) fun _ _ _ _ _ _ us hl => match us, hl with | [_, _], _ => rfl
  have F_take := fun_mk (st := sTake) l_take q_take k_take
  have g_take : mg "_law_take" = some (.ref _) := PySem.W.mg_of X G a_take
  have b_take := F_take.binds (ps := ["_law_box_here", "_law_size"]) fun _ _ _ _ _ _ us hl => match us, hl with | [_, _], _ => rfl
  have F_nam := fun_mk (st := sNames) l_nam q_nam k_nam
  have g_nam : mg "_law_names" = some (.ref _) := PySem.W.mg_of X G a_nam
  have b_nam := F_nam.binds (ps := ["_law_box_here", "_law_many"]) fun _ _ _ _ _ _ us hl => match us, hl with | [_, _], _ => rfl
  have F_som := fun_mk (st := sSome) l_som q_som k_som
  have g_som : mg "_law_some" = some (.ref _) := PySem.W.mg_of X G a_som
  have b_som := F_som.binds (ps := ["_law_box_here", "_law_values"]) fun _ _ _ _ _ _ us hl => match us, hl with | [_, _], _ => rfl
  have F_cnt := fun_mk (st := sCount) l_cnt q_cnt k_cnt
  have g_cnt : mg "_law_count" = some (.ref _) := PySem.W.mg_of X G a_cnt
  have b_cnt := F_cnt.binds (ps := ["_law_box_here", "_law_many"]) fun _ _ _ _ _ _ us hl => match us, hl with | [_, _], _ => rfl
  have F_req := fun_mk (st := sReq) l_req q_req k_req
  have g_req : mg "_law_requirement" = some (.ref _) := PySem.W.mg_of X G a_req
  have b_req := F_req.binds (ps := ["_law_box_here", "_law_names_here"]) fun _ _ _ _ _ _ us hl => match us, hl with | [_, _], _ => rfl
  have F_lni := fun_mk (st := sLni) l_lni q_lni k_lni
  have g_lni : mg "_law_names_in" = some (.ref _) := PySem.W.mg_of X G a_lni
  have b_lni := F_lni.binds (ps := ["_law_requirement_here"]) fun _ _ _ _ _ _ us hl => match us, hl with | [_], _ => rfl
  have F_lsat := fun_mk (st := sLsat) l_lsat q_lsat k_lsat
  have g_lsat : mg "_law_satisfies" = some (.ref _) := PySem.W.mg_of X G a_lsat
  have b_lsat := F_lsat.binds (ps := ["_law_requirement_here", "_law_nodes"]) fun _ _ _ _ _ _ us hl => match us, hl with | [_, _], _ => rfl
  have F_lblk := fun_mk (st := sLblk) l_lblk q_lblk k_lblk
  have g_lblk : mg "_law_blocks" = some (.ref _) := PySem.W.mg_of X G a_lblk
  have b_lblk := F_lblk.binds (ps := ["_law_requirement_here", "_law_nodes"]) fun _ _ _ _ _ _ us hl => match us, hl with | [_, _], _ => rfl
  have F_lsub := fun_mk (st := sLsub) l_lsub q_lsub k_lsub
  have g_lsub : mg "_law_subsets" = some (.ref _) := PySem.W.mg_of X G a_lsub
  have b_lsub := F_lsub.binds (ps := ["_law_names_here"]) fun _ _ _ _ _ _ us hl => match us, hl with | [_], _ => rfl
  have F_lis := fun_mk (st := sLis) l_lis q_lis k_lis
  have g_lis : mg "_law_listed" = some (.ref _) := PySem.W.mg_of X G a_lis
  have b_lis := F_lis.binds (ps := ["_law_parts"]) fun _ _ _ _ _ _ us hl => match us, hl with | [_], _ => rfl
  have F_lmin := fun_mk (st := sLmin) l_lmin q_lmin k_lmin
  have g_lmin : mg "_law_minimal" = some (.ref _) := PySem.W.mg_of X G a_lmin
  have b_lmin := F_lmin.binds (ps := ["_law_names_here", "_law_has"]) fun _ _ _ _ _ _ us hl => match us, hl with | [_, _], _ => rfl
  have F_law := fun_mk (st := sLaw) l_law q_law k_law
  have g_law : mg "law" = some (.ref _) := PySem.W.mg_of X G a_law
  have b_law := F_law.binds (ps := ["_law_script"]) fun _ _ _ _ _ _ us hl => match us, hl with | [_], _ => rfl
  have FC_lmin : FunC K "_law_minimal" sLmin f_lmin _ c_lmin := ⟨_, _, _, _, _, _, _, _, rfl, l_lmin, q_lmin⟩
  have FC_law : FunC K "law" sLaw fa _ c_law := ⟨_, _, _, _, _, _, _, _, rfl, l_law, q_law⟩
  obtain ⟨hL, tL⟩ := ownL _ _ e_law
  obtain ⟨hM, tM⟩ := ownM _ _ e_lmin
  have two : ∀ {R : Addr × Addr → Prop}, R (c_law, p_law) → R (c_lmin, p_lmin) → ∀ p ∈ [(c_law, p_law), (c_lmin, p_lmin)], R p := fun r1 r2 p hp => by
    rcases List.mem_cons.mp hp with z | z
    · rw [z]
      exact r1
    · rw [List.mem_singleton.mp z]
      exact r2
  refine ⟨PySem.W.fnOf "law" "law" (defArgs sLaw) (defBody sLaw) (defScope sLaw) .none kV_law dc_law pm_law an_law (.ref c_law) ct_law, [(c_law, p_law), (c_lmin, p_lmin)], spLaw K p_law p_lmin, two tL tM, two n_law n_lmin, two hL hM, fun s v => .of_eq rfl,
    fun H a ns hl _ hH hS => ⟨a, ns, rfl, hS, hl, hH _ List.mem_cons_self, hH _ (List.mem_cons_of_mem _ List.mem_cons_self), fun _ => rfl⟩, fun base _ _ tb => ?_⟩
  have ne : p_law ≠ p_lmin := fun z => by
    rw [z] at pp
    simp at pp
  have hu : ∀ p ∈ [(p_law, qLaw), (p_lmin, qMin)], p.1 = p_lmin → p.2 = qMin := fun p hp e => by
    rcases List.mem_cons.mp hp with z | z
    · rw [z] at e
      exact absurd e ne
    · rw [List.mem_singleton.mp z]
  have G_take : FnOk l.prog w K mg base CX0 2 _ _ _ spTake := ok_take (k := 0) F_take F_mix b_mix g_mix T.len T.max
  have G_nam : FnOk l.prog w K mg base CX0 3 _ _ _ spNames := ok_names F_nam F_take b_take g_take G_take T.rng
  have G_som : FnOk l.prog w K mg base CX0 3 _ _ _ (spSome K) := ok_some F_som F_take b_take g_take G_take T.rng T.len T.lst
  have G_cnt : FnOk l.prog w K mg base CX0 3 _ _ _ spCount := ok_count F_cnt F_take b_take g_take G_take T.min
  have G_lis : FnOk l.prog w K mg base CX0 3 _ _ _ spLis := ok_lis (k := 2) F_lis T
  have G_req : FnOk l.prog w K mg base CX0 4 _ _ _ spReq := ok_req (k := 3) F_req F_take b_take g_take (G_take.mono (by decide)) F_som b_som g_som G_som F_cnt b_cnt g_cnt G_cnt F_lis b_lis g_lis G_lis (by decide) T
  have G_box : FnOk l.prog w K mg base CX0 1 _ _ _ (spBox K) := ok_box (k := 0) F_box
  have G_sat : FnOk l.prog w K mg base CX0 4 _ _ _ (spSat K Short) := ok_sat_all F_sat b_sat g_sat F_sp b_sp g_sp T
  have G_nwr : FnOk l.prog w K mg base CX0 2 _ _ _ (spNwr fun _ => True) := ok_nwr_all F_nwr b_nwr g_nwr T
  have G_ns : FnOk l.prog w K mg base CX0 2 _ _ _ (spNs K) := ok_ns (k := 1) F_ns T.tup T.srt T.set
  have G_nin : FnOk l.prog w K mg base CX0 3 _ _ _ spNin := ok_nin F_nin F_ns b_ns g_ns F_nwr b_nwr g_nwr G_ns G_nwr
  have G_blk : FnOk l.prog w K mg base CX0 5 _ _ _ (spBlk K) := ok_blk F_blk F_nin b_nin g_nin F_sat b_sat g_sat (G_nin.mono (by decide)) G_sat
  have G_wit : FnOk l.prog w K mg base CX0 4 _ _ _ spWit := ok_wit (k := 3) F_wit T T2
  have G_ord : FnOk l.prog w K mg base CX0 2 _ _ _ spOrd := ok_ord (k := 1) F_ord T
  have G_sub : FnOk l.prog w K mg base CX0 5 _ _ _ spSub := ok_sub (k := 2) F_sub F_ord b_ord g_ord G_ord T
  have G_min : FnOk l.prog w K mg base CX0 5 _ _ _ spMin := ok_min (k := 4) F_min F_wit b_wit g_wit G_wit T T2
  have G_ms : FnOk l.prog w K mg base CX0 6 _ _ _ (spMs least) := ok_ms (k := 5) F_ms F_sub b_sub g_sub G_sub F_nin b_nin g_nin (G_nin.mono (by decide)) F_min b_min g_min G_min F_sat b_sat g_sat (G_sat.mono (by decide))
  have G_mb : FnOk l.prog w K mg base CX0 6 _ _ _ (spMs blocking) := ok_mb (k := 5) F_mb F_sub b_sub g_sub G_sub F_nin b_nin g_nin (G_nin.mono (by decide)) F_min b_min g_min G_min F_blk b_blk g_blk G_blk
  have G_lsat : FnOk l.prog w K mg base CX0 2 _ _ _ (spSat K Short) := ok_lsat_all F_lsat b_lsat g_lsat T
  have G_lni : FnOk l.prog w K mg base CX0 2 _ _ _ (spNwr fun _ => True) := ok_lni (k := 1) F_lni T
  have G_lblk : FnOk l.prog w K mg base CX0 3 _ _ _ (spBlk K) := ok_lblk F_lblk F_lni b_lni g_lni F_lsat b_lsat g_lsat G_lni G_lsat
  have G_lsub : FnOk l.prog w K mg base CX0 4 _ _ _ spLsub := ok_lsub (k := 3) F_lsub
  have G_lmin : FnOk l.prog w K mg base CX0 5 _ _ _ (spLmin l.prog w K mg base 4 [(p_law, qLaw), (p_lmin, qMin)]) := ok_lmin (k := 4) FC_lmin F_lsub b_lsub g_lsub G_lsub (tb _ (List.mem_cons_of_mem _ List.mem_cons_self)) (List.mem_cons_of_mem _ List.mem_cons_self) hu (by decide) T T2
  exact ok_law (k := 6) (kL := 3) FC_law T (tb _ List.mem_cons_self) ne F_box b_box g_box (G_box.mono (by decide)) F_take b_take g_take (G_take.mono (by decide)) F_nam b_nam g_nam (G_nam.mono (by decide)) F_req b_req g_req (G_req.mono (by decide)) F_lni b_lni g_lni (G_lni.mono (by decide))
    k_lmin b_lmin g_lmin (G_lmin.mono (by decide)) F_ms b_ms g_ms G_ms F_mb b_mb g_mb G_mb F_lsat b_lsat g_lsat (G_lsat.mono (by decide)) F_lblk b_lblk g_lblk G_lblk
end Moot
set_option linter.all false
open PySem PySem.W PyProof.Rows
set_option maxRecDepth 100000 in
set_option maxHeartbeats 0 in
theorem PySem.Challenge.cw_oathmoot_k04_minimal_sets_holds : PySem.Challenge.rw_oathmoot_k04_minimal_sets.Holds := by
  w_on; o_law; k_head; (case hw => w_witness2)
  k_fill
  refine Moot.walk_tabs (l := PySem.Challenge.rw_oathmoot_k04_minimal_sets) (n := 63) (k := 7) (x := "_law_script") (CX := fun _ => L2.CX0) rfl (by decide) rfl ⟨rfl, by decide, by decide⟩ (fun w h Y => PySem.W.km_in_of Y) ?F (fun _ _ _ _ _ h => h)
  case F =>
    intro w mg fa h KX G hmg own
    refine' Moot.all_mk KX G hmg (fun c P => own "law" c P (by decide +kernel)) (fun c P => own "_law_minimal" c P (by decide +kernel)) ?a_ns ?l_ns ?q_ns ?k_ns ?a_wit ?l_wit ?q_wit ?k_wit ?a_ord ?l_ord ?q_ord ?k_ord ?a_sub ?l_sub ?q_sub ?k_sub ?a_min ?l_min ?q_min ?k_min ?a_nwr ?l_nwr ?q_nwr ?k_nwr ?a_nin ?l_nin ?q_nin ?k_nin ?a_sp ?l_sp ?q_sp ?k_sp ?a_sat ?l_sat ?q_sat ?k_sat ?a_blk ?l_blk ?q_blk ?k_blk ?a_ms ?l_ms ?q_ms ?k_ms ?a_mb ?l_mb ?q_mb ?k_mb ?a_box ?l_box ?q_box ?k_box ?a_mix ?l_mix ?q_mix ?k_mix ?a_take ?l_take ?q_take ?k_take ?a_nam ?l_nam ?q_nam ?k_nam ?a_som ?l_som ?q_som ?k_som ?a_cnt ?l_cnt ?q_cnt ?k_cnt ?a_req ?l_req ?q_req ?k_req ?a_lni ?l_lni ?q_lni ?k_lni ?a_lsat ?l_lsat ?q_lsat ?k_lsat ?a_lblk ?l_lblk ?q_lblk ?k_lblk ?a_lsub ?l_lsub ?q_lsub ?k_lsub ?a_lis ?l_lis ?q_lis ?k_lis ?a_lmin ?l_lmin ?q_lmin ?k_lmin ?a_law ?l_law ?q_law ?k_law ?u_lmin ?v_lmin ?n_lmin ?e_lmin ?u_law ?v_law ?n_law ?e_law ?pp ?z_isi ?z_str ?z_len ?z_tup ?z_lst ?z_srt ?z_set ?z_rng ?z_int ?z_bool ?z_sum ?z_min ?z_max ?z_all ?z_any
    (case a_ns => k_is); (case l_ns => k_is); (case q_ns => k_is); (case k_ns => k_is); (case a_wit => k_is); (case l_wit => k_is); (case q_wit => k_is); (case k_wit => k_is)
    (case a_ord => k_is); (case l_ord => k_is); (case q_ord => k_is); (case k_ord => k_is); (case a_sub => k_is); (case l_sub => k_is); (case q_sub => k_is); (case k_sub => k_is)
    (case a_min => k_is); (case l_min => k_is); (case q_min => k_is); (case k_min => k_is); (case a_nwr => k_is); (case l_nwr => k_is); (case q_nwr => k_is); (case k_nwr => k_is)
    (case a_nin => k_is); (case l_nin => k_is); (case q_nin => k_is); (case k_nin => k_is); (case a_sp => k_is); (case l_sp => k_is); (case q_sp => k_is); (case k_sp => k_is)
    (case a_sat => k_is); (case l_sat => k_is); (case q_sat => k_is); (case k_sat => k_is); (case a_blk => k_is); (case l_blk => k_is); (case q_blk => k_is); (case k_blk => k_is)
    (case a_ms => k_is); (case l_ms => k_is); (case q_ms => k_is); (case k_ms => k_is); (case a_mb => k_is); (case l_mb => k_is); (case q_mb => k_is); (case k_mb => k_is)
    (case a_box => k_is); (case l_box => k_is); (case q_box => k_is); (case k_box => k_is); (case a_mix => k_is); (case l_mix => k_is); (case q_mix => k_is); (case k_mix => k_is)
    (case a_take => k_is); (case l_take => k_is); (case q_take => k_is); (case k_take => k_is); (case a_nam => k_is); (case l_nam => k_is); (case q_nam => k_is); (case k_nam => k_is)
    (case a_som => k_is); (case l_som => k_is); (case q_som => k_is); (case k_som => k_is); (case a_cnt => k_is); (case l_cnt => k_is); (case q_cnt => k_is); (case k_cnt => k_is)
    (case a_req => k_is); (case l_req => k_is); (case q_req => k_is); (case k_req => k_is); (case a_lni => k_is); (case l_lni => k_is); (case q_lni => k_is); (case k_lni => k_is)
    (case a_lsat => k_is); (case l_lsat => k_is); (case q_lsat => k_is); (case k_lsat => k_is); (case a_lblk => k_is); (case l_lblk => k_is); (case q_lblk => k_is); (case k_lblk => k_is)
    (case a_lsub => k_is); (case l_lsub => k_is); (case q_lsub => k_is); (case k_lsub => k_is); (case a_lis => k_is); (case l_lis => k_is); (case q_lis => k_is); (case k_lis => k_is)
    (case a_lmin => k_is); (case l_lmin => k_is); (case q_lmin => k_is); (case k_lmin => k_is); (case a_law => k_is); (case l_law => k_is); (case q_law => k_is); (case k_law => k_is)
    (case u_lmin => k_is); (case v_lmin => rfl); (case n_lmin => kernel_rfl); (case e_lmin => kernel_rfl); (case u_law => k_is); (case v_law => rfl); (case n_law => kernel_rfl); (case e_law => kernel_rfl)
    (case pp => decide); (case z_isi => k_is); (case z_str => k_is); (case z_len => k_is); (case z_tup => k_is); (case z_lst => k_is); (case z_srt => k_is); (case z_set => k_is)
    (case z_rng => k_is); (case z_int => k_is); (case z_bool => k_is); (case z_sum => k_is); (case z_min => k_is); (case z_max => k_is); (case z_all => k_is); (case z_any => k_is)
