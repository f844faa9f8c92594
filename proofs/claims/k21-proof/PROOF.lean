import PyProof.Rows.All
import Wide.All
import OpenK.AllK
import Wide.FinOn
import PyProof.Rows.SetFrom
import HandS.List
import HandS.Set
import PyProof.SetRoads
import HandS.ForMost
import HandS.Deep
import HandS.More
import HandS.IsInst
import HandS.Flow
import HandS.Codes
import HandS.Walk
import PyProof.TupleOfGen
import HandS.DictComp
import HandS.Conv
import HandS.Defaults
import HandS.Star
import HandS.EndTab
import PySem.Challenge.RW_oathmoot_k21_majority_networks_intersect
set_option Elab.async false
set_option linter.unusedVariables false
set_option maxRecDepth 100000
set_option maxHeartbeats 8000000
/-! Sets of keys of any one kind, filled and then walked in whatever order the world has. -/
namespace Moot
open PySem PySem.Spec PyProof.Rows L2
section
variable {P : Program} {w : World} {T : Type} [DecidableEq T]
/-- what is known of a set's entries and of its table -/
structure Laid (knd : KeyKind P w T) (S : T → Bool) (es : Array (Int × Value)) (t : SetTable) : Prop where
  el : ElemsOf knd es.toList
  mem : ∀ k, S k = true ↔ ∃ e ∈ es.toList, knd.is k e.2 = true
  one : es.toList.Pairwise fun e f => ∀ k, knd.is k e.2 = true → knd.is k f.2 = true → False
  few : es.size < scanBound
  fit : t.fits es.size = true
  ris : Ris t.place.toList
  led : w.params.followText "set-order" = true ∨ t.led = true
/-- a set of n keys stands at a, S tells which -/
def Stands (knd : KeyKind P w T) (h : Heap) (a : Addr) (S : T → Bool) (n : Nat) : Prop :=
  ∃ o es ep t, h.get? a = some o ∧ o.ExactSet ∧ o.data = .set es ep t ∧ es.size = n ∧ Laid knd S es t
variable {knd : KeyKind P w T} {S : T → Bool} {es es' : Array (Int × Value)} {t t' : SetTable}
/-- entries in another order, in a table that still rises -/
theorem Laid.moved (L : Laid knd S es t) (p : es'.toList.Perm es.toList) (f : t'.fits es'.size = true) (r : Ris t'.place.toList) (l : t'.led = t.led) : Laid knd S es' t' := by
  have z : es'.size = es.size := by
    have q := p.length_eq
    simpa using q
  refine ⟨L.el.perm p, fun k => (L.mem k).trans ⟨?_, ?_⟩, ?_, by rw [z]; exact L.few, f, r, ?_⟩
  · rintro ⟨e, m, i⟩
    exact ⟨e, p.mem_iff.mpr m, i⟩
  · rintro ⟨e, m, i⟩
    exact ⟨e, p.mem_iff.mp m, i⟩
  · exact (p.pairwise_iff fun {e f} q k a b => q k b a).mpr L.one
  · rw [l]
    exact L.led
/-- a key more -/
theorem Laid.more (L : Laid knd S es t) {k : T} {x : Value} (hk : knd.is k x = true) (hx : x.scannable = true) (new : ∀ e ∈ es.toList, knd.is k e.2 = false)
    (p : es'.toList.Perm (es.push (knd.hash k, x)).toList) (room : es.size + 1 < scanBound) (f : t'.fits es'.size = true) (r : Ris t'.place.toList) (l : t'.led = t.led) :
    Laid knd (fun j => S j || decide (j = k)) es' t' := by
  rw [Array.toList_push] at p
  have z : es'.size = es.size + 1 := by
    have q := p.length_eq
    simpa using q
  have inj : ∀ j, knd.is j x = true → j = k := fun j h => knd.inj x j k h hk
  refine ⟨(L.el.push hk hx).perm p, fun j => ?_, ?_, by rw [z]; exact room, f, r, by rw [l]; exact L.led⟩
  · rw [Bool.or_eq_true, decide_eq_true_eq, L.mem j]
    constructor
    · rintro (⟨e, m, i⟩ | rfl)
      · exact ⟨e, p.mem_iff.mpr (List.mem_append_left _ m), i⟩
      · exact ⟨_, p.mem_iff.mpr (List.mem_append_right _ List.mem_cons_self), hk⟩
    · rintro ⟨e, m, i⟩
      rcases List.mem_append.mp (p.mem_iff.mp m) with m | m
      · exact .inl ⟨e, m, i⟩
      · rw [List.mem_singleton.mp m] at i
        exact .inr (inj j i)
  · refine (p.pairwise_iff fun {e f} q k a b => q k b a).mpr ?_
    refine List.pairwise_append.mpr ⟨L.one, List.pairwise_singleton _ _, fun e m e2 m2 j a b => ?_⟩
    rw [List.mem_singleton.mp m2] at b
    have c := new e m
    rw [inj j b] at a
    rw [a] at c
    cases c
section
variable {A : Around} {E : Value → Shared → Prop} {s : Shared} {a : Addr} {n : Nat} {k : T} {x : Value}
/-- the table with one mark taken off is as good -/
theorem Laid.off (L : Laid knd S es t) (b : Bool) : Laid knd S es (if b = true then t else { t with plain := false }) := by
  cases b with
  | true => exact L
  | false => exact ⟨L.el, L.mem, L.one, L.few, SetTable.fits_plain_off L.fit, L.ris, L.led⟩
/-- entries are stored, and laid anew where the table has grown too full -/
theorem stow {g : Bool → Sem Unit} (quiet : ∀ (b : Bool) (s₁ : Shared) (Q₁ : Unit → Shared → Prop), Q₁ () s₁ → wpAny (model P w) A (g b) Q₁ E s₁)
    {o : Obj} {es₀ : Array (Int × Value)} {ep : Nat} {t₀ : SetTable} (ho : s.heap.get? a = some o) (hex : o.ExactSet) (hd : o.data = .set es₀ ep t₀) (L : Laid knd S es t) {full : Bool} {Q : Option Bool → Shared → Prop}
    (q : ∀ h', Heap.SameBut a s.heap h' → Stands knd h' a S es.size → Q (some true) { s with heap := h' }) :
    wpAny (model P w) A (storeSet a es t >>= fun _ => if full = true then (match relayAll t es (SetTable.grown es.size) with | (es2, t2, gave) => g gave >>= fun _ => storeSet a es2 t2 >>= fun _ => pure (some true)) else pure (some true)) Q E s := by
  have first := store_at (es' := es) (t' := t) ho hd
  have same := Heap.SameBut.update s.heap a (Obj.putSet es t)
  apply wpAny_bind
  apply wpAny_storeSet_of ho hd _ (fits_of_scanBound L.few)
  cases full with
  | false => exact wpAny_pure (q _ same ⟨_, es, _, t, first, hex, rfl, rfl, L⟩)
  | true =>
    have p := relayAll_perm t es (SetTable.grown es.size)
    have L2 := L.moved p (relayAll_fits t es _) (relayAll_ris t es _) (relayAll_led t es _)
    have z : (relayAll t es (SetTable.grown es.size)).1.size = es.size := by simpa using p.length_eq
    rw [if_pos rfl]
    revert L2 z
    rcases relayAll t es (SetTable.grown es.size) with ⟨es2, t2, gave⟩
    intro L2 z
    apply wpAny_bind
    apply quiet
    apply wpAny_bind
    apply wpAny_storeSet_of first rfl _ (fits_of_scanBound L2.few)
    exact wpAny_pure (q _ (same.trans (Heap.SameBut.update _ a _)) ⟨_, es2, _, t2, store_at first rfl, hex, rfl, z, L2⟩)
theorem add_key {Q : Bool → Shared → Prop} (R : Stands knd s.heap a S n) (hk : knd.is k x = true) (hx : x.scannable = true) (room : n + 1 < scanBound)
    (q : ∀ h', Heap.SameBut a s.heap h' → Stands knd h' a (fun j => S j || decide (j = k)) (if S k = true then n else n + 1) → Q (!S k) { s with heap := h' }) :
    wpAny (model P w) A (setAddHashed a x (knd.hash k)) Q E s := by
  obtain ⟨o, es, ep, t, ho, hex, hd, rfl, L⟩ := R
  unfold setAddHashed setAddHashedIn
  apply wpAny_holding
  apply wpAny_bind
  apply wpAny_setState_of ho hd L.fit
  show wpAny _ _ (if byScan x es = true then _ else _) _ _ _
  rw [byScan_of hx L.few L.el, if_pos rfl]
  unfold setAddByScan
  apply wpAny_bind
  apply wpAny_bind
  apply wpAny_rule
  apply wpAny_bind
  apply wpAny_setScan_of hk ho hd L.fit L.el
  cases met : List.findIdx? (fun e => knd.is k e.2) es.toList with
  | some j =>
    obtain ⟨lt, hit, _⟩ := List.findIdx?_eq_some_iff_getElem.mp met
    have old : S k = true := (L.mem k).mpr ⟨_, List.getElem_mem lt, hit⟩
    have same : (fun j => S j || decide (j = k)) = S := funext fun i => by
      by_cases e : i = k
      · rw [e, old, Bool.true_or]
      · rw [decide_eq_false e, Bool.or_false]
    have r := q s.heap (Heap.SameBut.refl a s.heap)
    rw [same, old] at r
    exact wpAny_pure (wpAny_pure (r ⟨o, es, ep, t, ho, hex, hd, rfl, L⟩))
  | none =>
    have new : ∀ e ∈ es.toList, knd.is k e.2 = false := List.findIdx?_eq_none_iff.mp met
    have no : S k = false := by
      cases c : S k with
      | false => rfl
      | true =>
        obtain ⟨e, m, i⟩ := (L.mem k).mp c
        rw [new e m] at i
        cases i
    have p := layNew_perm t es (knd.hash k) x
    have L1 := L.more hk hx new p room (layNew_fits t es (knd.hash k) x) (layNew_ris t es (knd.hash k) x L.ris) (layNew_led t es (knd.hash k) x)
    have z : (layNew t es (knd.hash k) x).1.size = es.size + 1 := by simpa using p.length_eq
    rw [no] at q
    dsimp only
    clear p
    generalize layNew t es (knd.hash k) x = Z at L1 z ⊢
    obtain ⟨es1, t1, dm, gave⟩ := Z
    dsimp only at L1 z ⊢
    have fin : ∀ h', Heap.SameBut a s.heap h' → Stands knd h' a (fun j => S j || decide (j = k)) es1.size → Q true { s with heap := h' } := fun h' sb r => q h' sb (z ▸ r)
    apply wpAny_bind
    have calm : ∀ {s₁ : Shared} {Q₁ : Unit → Shared → Prop}, Q₁ () s₁ → ∀ b : Bool, wpAny (model P w) A (match b with | true => rule "set.scan.the-table-gave-way" | false => pure ()) Q₁ E s₁ := fun h b => by
      cases b with
      | true => exact wpAny_rule h
      | false => exact wpAny_pure h
    refine calm ?_ gave
    have step : ∀ b : Bool, _ := fun b => stow (A := A) (E := E) (s := s) (Q := fun r s₁ => wpAny (model P w) A (match r with | some added => pure added | none => setAddHashedIn a x (knd.hash k) 99999) Q E s₁)
      (fun b s₁ Q₁ h => calm h b) ho hex hd (L1.off b) (full := !dm && (if b = true then t1 else { t1 with plain := false }).tooFull) fun h' sb r => wpAny_pure (fin h' sb r)
    split
    · rw [hashByValue_scannable 8 hx]
      exact wpAny_bind (wpAny_pure (step _))
    · exact wpAny_bind (wpAny_pure (step true))
end
end
end Moot
namespace Moot
open PySem PySem.Spec PyProof.Rows L2
section
variable {P : Program} {w : World} {T : Type} [DecidableEq T] {knd : KeyKind P w T} {A : Around} {E : Value → Shared → Prop} {s : Shared}
/-- the new set, empty -/
def setNew (w : World) : Obj := { cls := .type "set", dict := none, data := .set #[] 0 (.fresh 0 0 (!w.params.followText "set-order")) }
theorem setNew_stands (h : Heap) : Stands knd (h.push (setNew w)) h.objs.size (fun _ => false) 0 := by
  refine ⟨setNew w, #[], 0, _, Heap.get?_push_size _ rfl, ⟨rfl, rfl, rfl⟩, rfl, rfl, ?_⟩
  refine ⟨fun e m => by simp at m, fun k => by simp, by simp, by decide, rfl, List.Pairwise.nil, ?_⟩
  show _ ∨ (!w.params.followText "set-order") = true
  cases w.params.followText "set-order" <;> simp
/-- set.__new__(set, x) -/
theorem new_of (x : Value) {Q : Value → Shared → Prop} (q : Q (.ref s.heap.objs.size) { s with heap := s.heap.push (setNew w) }) :
    codeAny (model P w) A (.call (.builtin "set.__new__") ⟨[.type "set", x], []⟩) (wants Q E) s := by
  apply codeAny_of_tree
  show wpAny _ A.in1 (checkBuiltinCall "set.__new__" ⟨[.type "set", x], []⟩ >>= fun _ => again (.builtin "set.__new__" ⟨[.type "set", x], []⟩)) _ _ s
  apply wpAny_bind
  apply wpAny_of_eq (PySem.F.newCall_set_1 x)
  refine wpAny_pure ⟨plainId_quiet PySem.F.plain_set_new _, codeAny_builtin PySem.F.entry_set_new ?_⟩
  rw [Around.under_plainId PySem.F.plain_set_new _]
  unfold Builtin.«set.__new__» Builtin.Frozenset.newClass
  have self := sub_set_self
  rcases s with ⟨hp, gs, dr, tk, os⟩
  dsimp only at q ⊢
  wp_walk
  apply wpAny_askSetting
  apply wpAny_pure
  show wpAny _ _ (newObj (Value.type "set") (.set #[] 0 (SetTable.fresh 0 0 !w.params.followText "set-order"))) _ _ _
  unfold newObj
  exact wpAny_bind (wpAny_alloc (wpAny_pure (wpAny_pure q)))
/-- the same set in a heap that keeps it -/
theorem Stands.kept {h h' : Heap} {a : Addr} {S : T → Bool} {n : Nat} (R : Stands knd h a S n) (k : ∀ o, h.get? a = some o → h'.get? a = some o) : Stands knd h' a S n := by
  obtain ⟨o, es, ep, t, ho, r⟩ := R
  exact ⟨o, es, ep, t, k o ho, r⟩
theorem Stands.says {h : Heap} {a : Addr} {S S' : T → Bool} {n n' : Nat} (R : Stands knd h a S n) (e : ∀ k, S k = S' k) (en : n = n') : Stands knd h a S' n' := by
  have f : S = S' := funext e
  subst f en
  exact R
section
variable {R : Result → Shared → Prop} {I : Addr} {fp wr : List Addr} {G : Array GenState → Array GenState → Prop} {n : Nat} {Pv : Nat → Value → Prop} {St : Nat → Shared → Prop}
/-- each thing that an iterator yields goes into the set -/
theorem fill (W : WalksS P w A.in1 I fp wr G n Pv St) {a : Addr} (out : a ∉ fp) {xs : List T} (len : xs.length = n) (few : n + 1 < scanBound)
    (val : ∀ i v, Pv i v → ∃ k, xs[i]? = some k ∧ knd.is k v = true ∧ v.scannable = true) :
    ∀ (left i m : Nat) (s : Shared), i + left = n → m ≤ i → St i s → Stands knd s.heap a (fun k => decide (k ∈ xs.take i)) m →
      (∀ s' m', Moved (a :: wr) G s s' → m' ≤ n → Stands knd s'.heap a (fun k => decide (k ∈ xs)) m' → R (.ok (.ret .none)) s') →
      codeAny (model P w) A (.builtin "set.update.loop" ⟨[.ref a, .ref I], []⟩) R s := by
  have outw : a ∉ wr := fun h => out (W.sub _ h)
  have wider : ∀ b ∈ wr, b ∈ a :: wr := fun b h => List.mem_cons_of_mem _ h
  intro left
  induction left with
  | zero =>
    intro i m s e hm st X r
    obtain rfl : i = n := e
    apply codeAny_builtin PyProof.Rows.F.entry_set_update_loop
    rw [Around.under_plainId PyProof.Rows.F.plain_set_update_loop _]
    show wpAny _ A.in1 (pyNext (.ref I) >>= _) _ _ s
    apply wpAny_bind
    refine W.done s _ _ st fun s' mv => wpAny_pure ?_
    refine r s' m (mv.mono wider) hm ((X.kept fun o => mv.heap a o outw).says (fun k => ?_) rfl)
    rw [List.take_of_length_le (Nat.le_of_eq len)]
  | succ left ih =>
    intro i m s e hm st X r
    have lt : i < n := by omega
    apply codeAny_builtin PyProof.Rows.F.entry_set_update_loop
    rw [Around.under_plainId PyProof.Rows.F.plain_set_update_loop _]
    show wpAny _ A.in1 (pyNext (.ref I) >>= _) _ _ s
    apply wpAny_bind
    refine W.item i s _ _ lt st fun v s' pv st' mv => ?_
    obtain ⟨k, hk, isk, sc⟩ := val i v pv
    have X' := X.kept fun o => mv.heap a o outw
    show wpAny _ A.in1 (holding [v] (setAdd a v) >>= _) _ _ s'
    apply wpAny_bind
    apply wpAny_holding
    unfold setAdd
    apply wpAny_holding
    apply wpAny_bind
    apply knd.pyHash isk
    refine add_key (s := { s' with toks := s'.toks + 1 }) X' isk sc (by omega) fun h' sb Y => ?_
    have Z : Stands knd h' a (fun k => decide (k ∈ xs.take (i + 1))) (if decide (k ∈ xs.take i) = true then m else m + 1) := Y.says (fun j => by
      rw [List.take_add_one, hk]
      simp [List.mem_append]) rfl
    have hm' : (if decide (k ∈ xs.take i) = true then m else m + 1) ≤ i + 1 := by
      split <;> omega
    refine wpAny_pure ⟨plainId_quiet PyProof.Rows.F.plain_set_update_loop _, ?_⟩
    refine ih (i + 1) _ _ (by omega) hm' (W.frame _ s' _ _ st' (Nat.le_succ _) fun b hb o e => ?_) Z fun s'' m' mv' hm'' X'' => ?_
    · rw [sb.2 b fun c => out (c ▸ hb)]
      exact e
    · refine r s'' m' (Moved.trans W.gtrans ((mv.mono wider).then_heap (Nat.le_succ _) fun b o nb e => ?_) mv') hm'' X''
      rw [sb.2 b fun c => nb (c ▸ List.mem_cons_self)]
      exact e
end
end
end Moot
namespace Moot
open PySem PySem.Spec PyProof.Rows L2
section
variable {P : Program} {w : World} {T : Type} [DecidableEq T] {knd : KeyKind P w T} {A : Around} {E : Value → Shared → Prop} {s : Shared}
/-- what set(xs) leaves -/
def Filled (knd : KeyKind P w T) (xs : List T) (s s' : Shared) : Prop :=
  ∃ (h' : Heap) (tk m : Nat), s' = { s with heap := h', toks := tk } ∧ m ≤ xs.length ∧ Stands knd h' s.heap.objs.size (fun k => decide (k ∈ xs)) m ∧ ∀ b o, s.heap.get? b = some o → h'.get? b = some o
/-- set.__init__ of the new set, over a list -/
theorem init_list {l : Addr} {vs : List Value} {xs : List T} (calm : A.handled = none) (hl : s.heap.IsList l vs.toArray) (len : xs.length = vs.length) (few : vs.length + 1 < scanBound)
    (val : ∀ (i : Nat) v, vs[i]? = some v → ∃ k, xs[i]? = some k ∧ knd.is k v = true ∧ v.scannable = true) :
    codeAny (model P w) A (.call (.builtin "set.__init__") ⟨[.ref s.heap.objs.size, .ref l], []⟩) (wants (fun r s' => r = .none ∧ Filled knd xs s s') E) { s with heap := s.heap.push (setNew w) } := by
  have at0 : (s.heap.push (setNew w)).get? s.heap.objs.size = some (setNew w) := Heap.get?_push_size _ rfl
  have ty : Shared.TypeIs { s with heap := s.heap.push (setNew w) } (.ref s.heap.objs.size) "set" := ⟨_, at0, rfl⟩
  refine codeAny_call_builtin PySem.F.called_set.init.plain PySem.F.entry_set_init (check_set_init_1 ty ?_)
  have hl1 : (s.heap.push (setNew w)).IsList l vs.toArray := hl.push _
  have hlo := hl1
  obtain ⟨⟨oc, od, oda, osl⟩, ol, hc, nl, hda⟩ := hlo
  dsimp only at hc hda
  subst hc hda
  have n1 := PySem.F.sub_list_set
  have n2 := PySem.F.sub_list_frozenset
  have n3 : (Value.type "list" == Value.type "dict") = false := by decide
  unfold Builtin.«set.__init__» noKeywords Builtin.Frozenset.updateFrom
  generalize it : pyIter = iter
  wp_walk
  subst it
  apply wpAny_pyIter_list hl1
  apply wpAny_bind
  apply wpAny_runValue
  have size1 : (s.heap.push (setNew w)).objs.size = s.heap.objs.size + 1 := size_push' _ _
  have low : l < s.heap.objs.size := by
    obtain ⟨o, ho, _⟩ := hl
    exact Heap.lt_size ho
  have calm2 : A.in1.in1.handled = none := calm
  have ne : l ≠ (s.heap.push (setNew w)).objs.size := by
    rw [size1]
    exact Nat.ne_of_lt (Nat.lt_succ_of_lt low)
  have out : s.heap.objs.size ∉ [(s.heap.push (setNew w)).objs.size, l] := by
    rw [size1]
    intro m
    rcases List.mem_cons.mp m with c | c
    · exact Nat.ne_of_lt (Nat.lt_succ_self _) c
    · exact Nat.ne_of_gt low (List.mem_singleton.mp c)
  have walk := (Walks.list (prog := P) (w := w) calm2 _ l ne vs.toArray).toS
  refine fill (knd := knd) (xs := xs) walk out (by rw [len]; simp) (by simpa using few) (fun i v h => ?_) vs.toArray.size 0 0 _ (by simp) (Nat.le_refl _) ?_ ?_ fun s' m mv hm X => ?_
  · exact val i v (by simpa using h)
  · exact ⟨⟨_, Heap.get?_push_size _ rfl, rfl, rfl⟩, hl1.push _⟩
  · exact ((setNew_stands s.heap).kept fun o => Heap.get?_push_of_some _).says (fun k => by simp) rfl
  · apply wpAny_pure
    refine wpAny_pure ⟨rfl, s'.heap, s'.toks, m, ?_, by rw [len]; simpa using hm, X, fun b o e => ?_⟩
    · rcases s' with ⟨h', g', d', t', o'⟩
      obtain rfl : g' = s.gens := mv.gens
      obtain rfl : d' = s.drawn := mv.drawn
      obtain rfl : o' = s.os := mv.os
      rfl
    · have lt := Heap.lt_size e
      refine mv.heap b o (fun c => ?_) (Heap.get?_push_of_some _ (Heap.get?_push_of_some _ e))
      rcases List.mem_cons.mp c with c | c
      · exact Nat.ne_of_lt lt c
      · refine Nat.ne_of_lt (Nat.lt_succ_of_lt lt) (Eq.trans (List.mem_singleton.mp c) size1)
/-- set(xs) of a list -/
theorem set_list {l : Addr} {vs : List Value} {xs : List T} (calm : A.handled = none) (hl : s.heap.IsList l vs.toArray) (len : xs.length = vs.length) (few : vs.length + 1 < scanBound)
    (val : ∀ (i : Nat) v, vs[i]? = some v → ∃ k, xs[i]? = some k ∧ knd.is k v = true ∧ v.scannable = true) {Q : Value → Shared → Prop} (q : ∀ s', Filled knd xs s s' → Q (.ref s.heap.objs.size) s') :
    wpAny (model P w) A (call (.type "set") [.ref l]) Q E s := by
  obtain ⟨c, tl, mro⟩ := PySem.F.called_set.mro
  have made := PySem.F.called_set.made
  have sub := PySem.F.called_set.sub
  have f1 := PySem.F.called_set.notType
  have f2 := PySem.F.called_set.canCreate
  have f3 := PySem.F.typeCall_set_1 (.ref l)
  apply wpAny_call
  apply codeAny_of_tree
  show wpAny _ _ (callAny (.type "set") _) _ _ _
  refine wpAny_pure ⟨Code.quiet_builtin _ (by decide +kernel), ?_⟩
  apply codeAny_builtin PySem.F.entry_type_call
  rw [Around.under_plain (weight_type_call_type "set" [.ref l] []) rfl]
  repeat (any_goals (first | assumption | wp_step))
  refine codeAny_mono (new_of (.ref l) (E := E) (Q := fun x s₁ => x = .ref s.heap.objs.size ∧ s₁ = { s with heap := s.heap.push (setNew w) }) ⟨rfl, rfl⟩) ?_
  rintro (e | f) s₁ h
  · exact h
  · cases f with
    | ret x =>
      obtain ⟨rfl, rfl⟩ := h
      have ty : Shared.TypeIs { s with heap := s.heap.push (setNew w) } (.ref s.heap.objs.size) "set" := ⟨_, Heap.get?_push_size _ rfl, rfl⟩
      have g1 := PySem.F.called_set.init.lookup
      have g2 := PySem.F.called_set.init.bind (.ref s.heap.objs.size)
      repeat (any_goals (first | assumption | wp_step))
      refine codeAny_mono (init_list (A := A.in1) (E := E) (knd := knd) calm hl len few val) ?_
      rintro (e | f) s₂ h
      · exact h
      · cases f with
        | ret r =>
          obtain ⟨rfl, F⟩ := h
          exact wpAny_pure (wpAny_pure (q s₂ F))
        | _ => exact h.elim
    | _ => exact h.elim
end
end Moot
namespace Moot
open PySem PySem.Spec PyProof.Rows L2
section
variable {P : Program} {w : World} {A : Around} {E : Value → Shared → Prop} {s : Shared}
/-- the text of an entry -/
def txt (v : Value) : Str := match v with | .str x _ => x | _ => Str.empty
theorem txts_are : ∀ {vs : List Value}, (∀ v ∈ vs, ∃ x t, v = Value.str x t) → StrsAre vs (vs.map txt)
  | [], _ => .nil
  | v :: vs, h => by
    obtain ⟨x, t, rfl⟩ := h v List.mem_cons_self
    exact .cons x t (txts_are fun u m => h u (List.mem_cons_of_mem _ m))
theorem entry_txt {e : Int × Value} (h : ∃ k, (PySem.strKind P w).is k e.2 = true) : (∃ x t, e.2 = Value.str x t) ∧ (PySem.strKind P w).is (txt e.2) e.2 = true := by
  obtain ⟨k, i⟩ := h
  obtain ⟨t, q⟩ := Value.isStrOf_shape (x := k) i
  refine ⟨⟨k, t, q⟩, ?_⟩
  rw [q]
  exact strKind_is P w k t
/-- the texts of a set's entries -/
theorem Laid.txts {S : Str → Bool} {es : Array (Int × Value)} {t : SetTable} (L : Laid (PySem.strKind P w) S es t) :
    (∀ v ∈ es.toList.map (·.2), ∃ x t, v = Value.str x t) ∧ (es.toList.map fun e => txt e.2).Nodup ∧ ∀ k, k ∈ (es.toList.map fun e => txt e.2) ↔ S k = true := by
  have ok : ∀ e ∈ es.toList, (∃ x t, e.2 = Value.str x t) ∧ (PySem.strKind P w).is (txt e.2) e.2 = true := fun e m => by
    obtain ⟨⟨k, i, _⟩, _⟩ := L.el e m
    exact entry_txt ⟨k, i⟩
  refine ⟨fun v m => ?_, ?_, fun k => ?_⟩
  · obtain ⟨e, me, rfl⟩ := List.mem_map.mp m
    exact (ok e me).1
  · refine List.pairwise_map.mpr (List.Pairwise.imp_of_mem (fun {e f} me mf h c => ?_) L.one)
    refine h _ (ok e me).2 ?_
    rw [c]
    exact (ok f mf).2
  · rw [L.mem k, List.mem_map]
    constructor
    · rintro ⟨e, m, rfl⟩
      exact ⟨e, m, (ok e m).2⟩
    · rintro ⟨e, m, i⟩
      exact ⟨e, m, (PySem.strKind P w).inj e.2 _ _ (ok e m).2 i⟩
/-- sorted(a set of texts) -/
theorem sorted_txts {a : Addr} {S : Str → Bool} {n : Nat} {Q : Value → Shared → Prop} (R : Stands (PySem.strKind P w) s.heap a S n) (calm : A.handled = none) (few : n < 64)
    (q : ∀ s' p (out : Array Value) (c : Nat) (ys : List Str), (∀ b o, s.heap.get? b = some o → s'.heap.get? b = some o) → s'.gens = s.gens → s'.os = s.os → s.heap.objs.size ≤ p →
      s'.heap.get? p = some (seqObj "list" out c) → StrsAre out.toList ys → sortedS ys = true → ys.Nodup → (∀ k, k ∈ ys ↔ S k = true) → ys.length = n → Q (.ref p) s') :
    wpAny (model P w) A (call (.builtin "sorted") [.ref a]) Q E s := by
  obtain ⟨o, es, ep, t, ho, hex, hd, rfl, L⟩ := R
  obtain ⟨x1, x2, x3⟩ := L.txts
  apply Calls.call_function_entry kind_sorted plain_sorted entry_sorted (args_sorted1 _)
  unfold Builtin.«sorted»
  apply wpAny_bind (m := checkCount "sorted" 1 1 _)
  apply wpAny_pure
  apply wpAny_bind
  refine collect_set (A := A.in1) calm ⟨o, ho, hex.1, hd⟩ L.fit L.few L.ris L.led fun s1 vs kept grown same1 same2 pm => ?_
  have len : vs.length = es.size := by simpa using pm.length_eq
  have are : StrsAre vs (vs.map txt) := txts_are fun v m => x1 v (pm.mem_iff.mp m)
  have perm : (vs.map txt).Perm (es.toList.map fun e => txt e.2) := by
    have z := pm.map txt
    rwa [List.map_map] at z
  apply wpAny_bind
  refine wpAny_newList ?_ (by rw [len, sizeLine_eq]; omega)
  have here : (s1.heap.push (seqObj "list" vs.toArray 0)).get? s1.heap.objs.size = some (seqObj "list" vs.toArray 0) := Heap.get?_push_size _ rfl
  apply wpAny_bind
  apply wpAny_holding
  refine wpAny_call_entry slot_list_sort ⟨_, here, rfl⟩ entry_list_sort ?_ (args_list_sort _)
  refine list_sort_treeK strKind_oneLt here are.keysOf (fun v₁ v₂ rest e => keyKind_strs (by rw [← e]; exact are)) (by rw [len]; exact few) fun st a1 a2 => ⟨_, rfl, ?_⟩
  obtain ⟨ys, y1, y2, y3⟩ := sorted_out_str are a1 a2
  obtain ⟨c, at'⟩ := sortedHeap_at (vs := vs) (out := (arrOf st).map (·.2)) here
  have all := y2.trans perm
  refine wpAny_pure ⟨_, rfl, q _ s1.heap.objs.size _ c ys (fun b u e => ?_) same1 same2 grown at' y1 y3 (all.nodup_iff.mpr x2) (fun k => all.mem_iff.trans (x3 k)) ?_⟩
  · have z := kept b u e
    have lt := Heap.lt_size z
    show (sortedHeap (s1.heap.push (seqObj "list" vs.toArray 0)) s1.heap.objs.size vs _).get? b = some u
    rw [sortedHeap_old (Nat.ne_of_lt lt) (by rw [size_push']; exact Nat.lt_succ_of_lt lt)]
    exact Heap.get?_push_of_some _ z
  · simpa using all.length_eq
end
/-- the set of texts at a, as a thing of the abstract heap -/
def TxtSet (P : Program) (w : World) (a : Addr) (S : Str → Bool) (n : Nat) : HO := .ext fun h => Stands (PySem.strKind P w) h a S n
theorem txtSet_ok {P : Program} {w : World} {H : Hp} {h : Heap} {a : Addr} {S : Str → Bool} {n : Nat} (R : Stands (PySem.strKind P w) h a S n) : ObjOk P w H h a (TxtSet P w a S n) := by
  obtain ⟨o, _, _, _, ho, _⟩ := id R
  exact ⟨R, ⟨o, ho⟩, fun h1 h2 r k => r.kept k⟩
/-- set(zs), zs a list of fewer than 64 texts -/
def rTxtSet (K : PySem.W.Frag) (P : Program) (w : World) : List V → Hp → VK → Prop := fun vs H Q =>
  ∃ (l : Addr) (zs : List Str), vs = [V.ref l] ∧ SqL K H l (zs.map V.str) ∧ zs.length < 64 ∧ ∀ p m, H p = none → m ≤ zs.length → Q (.ref p) (upd H p (TxtSet P w p (fun k => decide (k ∈ zs)) m))
/-- sorted(S), S such a set -/
def rTxtSorted (P : Program) (w : World) : List V → Hp → VK → Prop := fun vs H Q =>
  ∃ (a : Addr) (S : Str → Bool) (n : Nat), vs = [V.ref a] ∧ H a = some (TxtSet P w a S n) ∧ n < 64 ∧
    ∀ (ys : List Str) (p : Addr), sortedS ys = true → ys.Nodup → (∀ k, k ∈ ys ↔ S k = true) → ys.length = n → H p = none → Q (.ref p) (upd H p (.lst (ys.map V.str)))
section
variable {X : Cx}
theorem cr_txtSet (calm : X.calm = true) : CallR X (.type "set") (rTxtSet X.K X.prog X.w) := by
  intro pins s σ H vs us Q I r h
  obtain ⟨l, zs, rfl, hl, few, q⟩ := h
  rw [Vals.ref1 r]
  obtain ⟨its, rel, pl, _⟩ := I.list hl
  have len : zs.length = its.length := by
    have z := rel.length
    rwa [List.length_map] at z
  refine set_list (knd := PySem.strKind X.prog X.w) (xs := zs) (I.ok.hd calm) pl.isList len (by unfold scanBound; omega) (fun i v e => ?_) fun s' F => ?_
  · have lt : i < zs.length := by
      rw [len]
      exact (List.getElem?_eq_some_iff.mp e).1
    obtain ⟨u, hu, t, rfl⟩ := rel.get (i := i) (x := .str zs[i]) (by simp [lt])
    cases Option.some.inj (e.symm.trans hu)
    exact ⟨zs[i], List.getElem?_eq_getElem lt, strKind_is _ _ _ _, rfl⟩
  · obtain ⟨h', tk, m, rfl, hm, R, kept⟩ := F
    exact ⟨.ref _, _, I.laid (t' := tk) kept (Nat.le_refl _) (txtSet_ok R), rfl, q _ m (I.hok.fresh (Nat.le_refl _)) hm⟩
theorem cr_txtSorted (calm : X.calm = true) : CallR X (.builtin "sorted") (rTxtSorted X.prog X.w) := by
  intro pins s σ H vs us Q I r h
  obtain ⟨a, S, n, rfl, ha, few, q⟩ := h
  have R : Stands (PySem.strKind X.prog X.w) s.heap a S n := (I.hok a _ ha).1
  rw [Vals.ref1 r]
  refine sorted_txts R (I.ok.hd calm) few fun s' p out c ys kept e1 e2 hp here are srt nd mem len => ?_
  have fits : (ys.map V.str).length ≤ sizeLine := by
    rw [List.length_map, len]
    exact small64 few
  have free : H p = none := I.hok.fresh hp
  have J : Inv X pins σ (upd H p (.lst (ys.map V.str))) { s with heap := s'.heap, gens := s'.gens, drawn := s'.drawn, toks := s'.toks } :=
    I.call (ch := []) (Un.laid kept hp free) (I.hok.laid kept hp ⟨fits, out.toList, c, vals_of_strs are, here⟩) (by rw [e1]; exact I.bare) fun _ z => nomatch z
  have same : s' = { s with heap := s'.heap, gens := s'.gens, drawn := s'.drawn, toks := s'.toks } := by
    rcases s' with ⟨h', g', d', t', o'⟩
    cases e2
    rfl
  rw [same]
  exact ⟨.ref p, _, J, rfl, q ys p srt nd mem len free⟩
end
end Moot
namespace Moot
open PySem PySem.Spec PyProof.Rows L2
section
variable {P : Program} {w : World} {T : Type} [DecidableEq T] {knd : KeyKind P w T} {A : Around} {E : Value → Shared → Prop} {s : Shared}
/-- set.__init__ of the new set, over a tuple -/
theorem init_tuple {l : Addr} {vs : List Value} {xs : List T} (calm : A.handled = none) (hl : s.heap.IsTuple l vs.toArray) (len : xs.length = vs.length) (few : vs.length + 1 < scanBound)
    (val : ∀ (i : Nat) v, vs[i]? = some v → ∃ k, xs[i]? = some k ∧ knd.is k v = true ∧ v.scannable = true) :
    codeAny (model P w) A (.call (.builtin "set.__init__") ⟨[.ref s.heap.objs.size, .ref l], []⟩) (wants (fun r s' => r = .none ∧ Filled knd xs s s') E) { s with heap := s.heap.push (setNew w) } := by
  have at0 : (s.heap.push (setNew w)).get? s.heap.objs.size = some (setNew w) := Heap.get?_push_size _ rfl
  have ty : Shared.TypeIs { s with heap := s.heap.push (setNew w) } (.ref s.heap.objs.size) "set" := ⟨_, at0, rfl⟩
  refine codeAny_call_builtin PySem.F.called_set.init.plain PySem.F.entry_set_init (check_set_init_1 ty ?_)
  have hl1 : (s.heap.push (setNew w)).IsTuple l vs.toArray := hl.push _
  have hlo := hl1
  obtain ⟨⟨oc, od, oda, osl⟩, ol, hc, nl, hda⟩ := hlo
  dsimp only at hc hda
  subst hc hda
  have n1 := PySem.F.sub_tuple_set
  have n2 := PySem.F.sub_tuple_frozenset
  have n3 : (Value.type "tuple" == Value.type "dict") = false := by decide
  unfold Builtin.«set.__init__» noKeywords Builtin.Frozenset.updateFrom
  generalize it : pyIter = iter
  wp_walk
  subst it
  apply wpAny_pyIter_tuple hl1
  apply wpAny_bind
  apply wpAny_runValue
  have size1 : (s.heap.push (setNew w)).objs.size = s.heap.objs.size + 1 := size_push' _ _
  have low : l < s.heap.objs.size := by
    obtain ⟨o, ho, _⟩ := hl
    exact Heap.lt_size ho
  have calm2 : A.in1.in1.handled = none := calm
  have ne : l ≠ (s.heap.push (setNew w)).objs.size := by
    rw [size1]
    exact Nat.ne_of_lt (Nat.lt_succ_of_lt low)
  have out : s.heap.objs.size ∉ [(s.heap.push (setNew w)).objs.size, l] := by
    rw [size1]
    intro m
    rcases List.mem_cons.mp m with c | c
    · exact Nat.ne_of_lt (Nat.lt_succ_self _) c
    · exact Nat.ne_of_gt low (List.mem_singleton.mp c)
  have walk := (Walks.tuple (prog := P) (w := w) calm2 _ l ne vs.toArray).toS
  refine fill (knd := knd) (xs := xs) walk out (by rw [len]; simp) (by simpa using few) (fun i v h => ?_) vs.toArray.size 0 0 _ (by simp) (Nat.le_refl _) ?_ ?_ fun s' m mv hm X => ?_
  · exact val i v (by simpa using h)
  · exact ⟨⟨_, Heap.get?_push_size _ rfl, rfl, rfl⟩, hl1.push _⟩
  · exact ((setNew_stands s.heap).kept fun o => Heap.get?_push_of_some _).says (fun k => by simp) rfl
  · apply wpAny_pure
    refine wpAny_pure ⟨rfl, s'.heap, s'.toks, m, ?_, by rw [len]; simpa using hm, X, fun b o e => ?_⟩
    · rcases s' with ⟨h', g', d', t', o'⟩
      obtain rfl : g' = s.gens := mv.gens
      obtain rfl : d' = s.drawn := mv.drawn
      obtain rfl : o' = s.os := mv.os
      rfl
    · have lt := Heap.lt_size e
      refine mv.heap b o (fun c => ?_) (Heap.get?_push_of_some _ (Heap.get?_push_of_some _ e))
      rcases List.mem_cons.mp c with c | c
      · exact Nat.ne_of_lt lt c
      · refine Nat.ne_of_lt (Nat.lt_succ_of_lt lt) (Eq.trans (List.mem_singleton.mp c) size1)
/-- set(xs) of a tuple -/
theorem set_tuple {l : Addr} {vs : List Value} {xs : List T} (calm : A.handled = none) (hl : s.heap.IsTuple l vs.toArray) (len : xs.length = vs.length) (few : vs.length + 1 < scanBound)
    (val : ∀ (i : Nat) v, vs[i]? = some v → ∃ k, xs[i]? = some k ∧ knd.is k v = true ∧ v.scannable = true) {Q : Value → Shared → Prop} (q : ∀ s', Filled knd xs s s' → Q (.ref s.heap.objs.size) s') :
    wpAny (model P w) A (call (.type "set") [.ref l]) Q E s := by
  obtain ⟨c, tl, mro⟩ := PySem.F.called_set.mro
  have made := PySem.F.called_set.made
  have sub := PySem.F.called_set.sub
  have f1 := PySem.F.called_set.notType
  have f2 := PySem.F.called_set.canCreate
  have f3 := PySem.F.typeCall_set_1 (.ref l)
  apply wpAny_call
  apply codeAny_of_tree
  show wpAny _ _ (callAny (.type "set") _) _ _ _
  refine wpAny_pure ⟨Code.quiet_builtin _ (by decide +kernel), ?_⟩
  apply codeAny_builtin PySem.F.entry_type_call
  rw [Around.under_plain (weight_type_call_type "set" [.ref l] []) rfl]
  repeat (any_goals (first | assumption | wp_step))
  refine codeAny_mono (new_of (.ref l) (E := E) (Q := fun x s₁ => x = .ref s.heap.objs.size ∧ s₁ = { s with heap := s.heap.push (setNew w) }) ⟨rfl, rfl⟩) ?_
  rintro (e | f) s₁ h
  · exact h
  · cases f with
    | ret x =>
      obtain ⟨rfl, rfl⟩ := h
      have ty : Shared.TypeIs { s with heap := s.heap.push (setNew w) } (.ref s.heap.objs.size) "set" := ⟨_, Heap.get?_push_size _ rfl, rfl⟩
      have g1 := PySem.F.called_set.init.lookup
      have g2 := PySem.F.called_set.init.bind (.ref s.heap.objs.size)
      repeat (any_goals (first | assumption | wp_step))
      refine codeAny_mono (init_tuple (A := A.in1) (E := E) (knd := knd) calm hl len few val) ?_
      rintro (e | f) s₂ h
      · exact h
      · cases f with
        | ret r =>
          obtain ⟨rfl, F⟩ := h
          exact wpAny_pure (wpAny_pure (q s₂ F))
        | _ => exact h.elim
    | _ => exact h.elim
end
/-- a set holds as many as there are -/
theorem Stands.least {P : Program} {w : World} {T : Type} [DecidableEq T] {knd : KeyKind P w T} {h : Heap} {a : Addr} {S : T → Bool} {n : Nat} (R : Stands knd h a S n) {xs : List T} (nd : xs.Nodup) (all : ∀ k ∈ xs, S k = true) : xs.length ≤ n := by
  obtain ⟨o, es, ep, t, _, _, _, rfl, L⟩ := R
  have pig : ∀ (l : List T) (D : List (Int × Value)), l.Nodup → (∀ k ∈ l, ∃ e ∈ D, knd.is k e.2 = true) → l.length ≤ D.length := by
    intro l
    induction l with
    | nil => intros; exact Nat.zero_le _
    | cons k l ih =>
      intro D nd hD
      obtain ⟨n1, n2⟩ := List.nodup_cons.mp nd
      obtain ⟨e, me, ie⟩ := hD k List.mem_cons_self
      obtain ⟨D1, D2, rfl⟩ := List.append_of_mem me
      have := ih (D1 ++ D2) n2 fun k' mk' => by
        obtain ⟨e', me', ie'⟩ := hD k' (List.mem_cons_of_mem _ mk')
        rcases List.mem_append.mp me' with z | z
        · exact ⟨e', List.mem_append_left _ z, ie'⟩
        · rcases List.mem_cons.mp z with rfl | z
          · exact absurd (knd.inj _ _ _ ie' ie ▸ mk') n1
          · exact ⟨e', List.mem_append_right _ z, ie'⟩
      rw [List.length_append] at this
      rw [List.length_cons, List.length_append, List.length_cons]
      omega
  have := pig xs es.toList nd fun k mk => (L.mem k).mp (all k mk)
  simpa using this
/-- set(zs), zs a list or a tuple of fewer than 64 texts -/
def rTxtSetA (K : PySem.W.Frag) (P : Program) (w : World) : List V → Hp → VK → Prop := fun vs H Q =>
  ∃ (l : Addr) (zs : List Str), vs = [V.ref l] ∧ (SqL K H l (zs.map V.str) ∨ SqT K H l (zs.map V.str)) ∧ zs.length < 64 ∧ ∀ p m, H p = none → m ≤ zs.length → Q (.ref p) (upd H p (TxtSet P w p (fun k => decide (k ∈ zs)) m))
/-- len(S), S such a set -/
def rTxtLen (P : Program) (w : World) : List V → Hp → VK → Prop := fun vs H Q =>
  ∃ (a : Addr) (S : Str → Bool) (n : Nat), vs = [V.ref a] ∧ H a = some (TxtSet P w a S n) ∧ n < 1000 ∧ ((∀ xs : List Str, xs.Nodup → (∀ k ∈ xs, S k = true) → xs.length ≤ n) → Q (.int (n : Int)) H)
section
variable {X : Cx}
theorem cr_txtSetA (calm : X.calm = true) : CallR X (.type "set") (rTxtSetA X.K X.prog X.w) := by
  intro pins s σ H vs us Q I r h
  obtain ⟨l, zs, rfl, hl, few, q⟩ := h
  rcases hl with hl | hl
  · exact cr_txtSet calm pins s σ H _ us Q I r ⟨l, zs, rfl, hl, few, q⟩
  · rw [Vals.ref1 r]
    obtain ⟨its, rel, pl, _⟩ := I.tuple hl
    have len : zs.length = its.length := by
      have z := rel.length
      rwa [List.length_map] at z
    refine set_tuple (knd := PySem.strKind X.prog X.w) (xs := zs) (I.ok.hd calm) pl len (by unfold scanBound; omega) (fun i v e => ?_) fun s' F => ?_
    · have lt : i < zs.length := by
        rw [len]
        exact (List.getElem?_eq_some_iff.mp e).1
      obtain ⟨u, hu, t, rfl⟩ := rel.get (i := i) (x := .str zs[i]) (by simp [lt])
      cases Option.some.inj (e.symm.trans hu)
      exact ⟨zs[i], List.getElem?_eq_getElem lt, strKind_is _ _ _ _, rfl⟩
    · obtain ⟨h', tk, m, rfl, hm, R, kept⟩ := F
      exact ⟨.ref _, _, I.laid (t' := tk) kept (Nat.le_refl _) (txtSet_ok R), rfl, q _ m (I.hok.fresh (Nat.le_refl _)) hm⟩
theorem cr_txtLen : CallR X (.builtin "len") (rTxtLen X.prog X.w) := by
  intro pins s σ H vs us Q I r h
  obtain ⟨a, S, n, rfl, ha, few, q⟩ := h
  have R : Stands (PySem.strKind X.prog X.w) s.heap a S n := (I.hok a _ ha).1
  have le := fun xs nd all => R.least (xs := xs) nd all
  rw [Vals.ref1 r]
  obtain ⟨o, es, ep, t, ho, hex, hd, rfl, L⟩ := R
  exact call_len_set ho hex hd L.fit (by omega) ⟨.int _, H, I.tok _, ⟨_, rfl⟩, q le⟩
end
end Moot
namespace Moot
open PySem PySem.Spec PyProof.Rows L2
def top (i : Nat) : Stmt := PySem.Challenge.pw_oathmoot_k21_majority_networks_intersect.main.body.getD i (.Pass ⟨0, 0, 0, 0⟩)
/-! the box of drawn numbers -/
structure Box (H : Hp) (b g m : Addr) (n : Nat) : Prop where
  ex : ∃ (x k : Int) (gs ms : List Int), H b = some (.lst [.ref g, .int x, .ref m, .int k]) ∧ H g = some (.lst (gs.map V.int)) ∧ H m = some (.lst (ms.map V.int)) ∧ 0 ≤ k ∧ k ≤ n ∧ gs.length ≤ 63 ∧ ms.length ≤ 63
  bg : b ≠ g
  bm : b ≠ m
  gm : g ≠ m
/-- all but the box's own cells stays -/
def Keep (b g : Addr) (H H' : Hp) : Prop := ∀ c o, H c = some o → c ≠ b → c ≠ g → H' c = some o
theorem same_new {H : Hp} {p : Addr} {o : HO} (h : H p = none) : Same H (upd H p o) := fun b x e => by
  rw [upd_ne (ne_of_none e h)]
  exact e
theorem Keep.refl (b g : Addr) (H : Hp) : Keep b g H H := fun _ _ e _ _ => e
theorem Keep.trans {b g : Addr} {H H1 H2 : Hp} (k : Keep b g H H1) (l : Keep b g H1 H2) : Keep b g H H2 := fun c o e n1 n2 => l c o (k c o e n1 n2) n1 n2
theorem Same.keep {b g : Addr} {H H' : Hp} (s : Same H H') : Keep b g H H' := fun c o e _ _ => s c o e
theorem Box.same {H H' : Hp} {b g m : Addr} {n : Nat} (B : Box H b g m n) (s : Same H H') : Box H' b g m n := by
  obtain ⟨⟨x, k, gs, ms, h1, h2, h3, r⟩, n1, n2, n3⟩ := B
  exact ⟨⟨x, k, gs, ms, s _ _ h1, s _ _ h2, s _ _ h3, r⟩, n1, n2, n3⟩
theorem Box.more {H : Hp} {b g m : Addr} {n n' : Nat} (B : Box H b g m n) (h : n ≤ n') : Box H b g m n' := by
  obtain ⟨⟨x, k, gs, ms, h1, h2, h3, h4, h5, r⟩, n1, n2, n3⟩ := B
  exact ⟨⟨x, k, gs, ms, h1, h2, h3, h4, by omega, r⟩, n1, n2, n3⟩
/-- a store elsewhere -/
theorem Box.store {H : Hp} {b g m p : Addr} {n : Nat} {o : HO} (B : Box H b g m n) (p1 : p ≠ b) (p2 : p ≠ g) (p3 : p ≠ m) : Box (upd H p o) b g m n := by
  obtain ⟨⟨x, k, gs, ms, h1, h2, h3, r⟩, n1, n2, n3⟩ := B
  exact ⟨⟨x, k, gs, ms, by rw [upd_ne p1.symm]; exact h1, by rw [upd_ne p2.symm]; exact h2, by rw [upd_ne p3.symm]; exact h3, r⟩, n1, n2, n3⟩
theorem Box.b_in {H : Hp} {b g m : Addr} {n : Nat} (B : Box H b g m n) : ∃ o, H b = some o := let ⟨_, _, _, _, h, _⟩ := B.ex; ⟨_, h⟩
theorem Box.g_in {H : Hp} {b g m : Addr} {n : Nat} (B : Box H b g m n) : ∃ o, H g = some o := let ⟨_, _, _, _, _, h, _⟩ := B.ex; ⟨_, h⟩
theorem Box.m_in {H : Hp} {b g m : Addr} {n : Nat} (B : Box H b g m n) : ∃ o, H m = some o := let ⟨_, _, _, _, _, _, h, _⟩ := B.ex; ⟨_, h⟩
/-- an int at a place in bounds -/
theorem int_at (l : List Int) {i : Int} (h0 : 0 ≤ i) (h1 : i < l.length) : ∃ z : Int, atI (l.map V.int) i = some (.int z) := by
  obtain ⟨j, rfl⟩ := Int.eq_ofNat_of_zero_le h0
  have lt : j < l.length := by omega
  exact ⟨l[j], atI_nat (by rw [List.getElem?_map, List.getElem?_eq_getElem lt]; rfl)⟩
section
variable {P : Program} {w : World} {K : PySem.W.Frag} {mg : Str → Option Value} {base : Heap}
/-! _law_box -/
abbrev sBox : Stmt := top 39
abbrev nBox : List Str := ["_law_script", "_law_great", "_law_cell"]
theorem scBox : FnScope nBox ["_law_script"] (defScope sBox) := ⟨rfl, rfl, rfl, by decide +kernel, rfl, by decide +kernel, by decide +kernel⟩
def spBox (K : PySem.W.Frag) : Sp := fun vs H Q _ => ∃ (a : Addr) (ns : List Int), vs = [.ref a] ∧ SqL K H a (ns.map V.int) ∧ ns.length ≤ 63 ∧
  ∀ H' b g m, Same H H' → Box H' b g m 0 → Q (.ref b) H'
/-- some ints, no more than there were -/
def Ints (H : Hp) (p : Addr) (n : Nat) : Prop := ∃ ns : List Int, H p = some (.lst (ns.map V.int)) ∧ ns.length ≤ n
theorem ok_box {f : Addr} {fd : FuncData} {k : Nat} (F : Fun K "_law_box" "_law_box" sBox f fd) : FnOk P w K mg base CX0 (k + 1) f fd ["_law_script"] (spBox K) := by
  refine F.ok scBox (fun vs H Q E h => ?_) (fun cdv A outer s H vs Q E hr h => ?_)
  · obtain ⟨a, ns, rfl, _⟩ := h
    rfl
  · obtain ⟨a, ns, rfl, hS, len, q⟩ := h
    refine ⟨_, pss_cons (ps_setLc (i := 1) (own := [("_law_cell", 2)]) (g := gName 2) (by rfl) scBox.nd rfl rfl (sw_true rfl rfl rfl (by decide +kernel)) (pi_list (pv 0)) (blkOk_by (N := nBox) (sc := defScope sBox) (by decide +kernel))
        (fun _ _ _ _ _ => pg_name (i := 2) scBox.nd rfl (Or.inl rfl)) (fun _ _ _ _ _ => pts_one (pt_cmpR op_ge (pv 2) (pe_op op_pow pe_int pe_int) (nomark _))) (fun _ _ _ _ _ => pv 2))
      (pss_one (ps_ret (pe_lst (pa_cons (pv 1) (pa_cons pe_int (pa_cons
        (pe_lc (own := [("_law_cell", 2)]) (g := gName 2) (by rfl) scBox.nd (pi_list (pv 0)) (blkOk_by (N := nBox) (sc := defScope sBox) (by decide +kernel))
          (fun _ _ _ _ _ => pg_name (i := 2) scBox.nd rfl (Or.inl rfl)) (fun _ _ _ _ _ => pts_one (pt_cmpR op_lt (pv 2) (pe_op op_pow pe_int pe_int) (nomark _))) (fun _ _ _ _ _ => pv 2))
        (pa_cons pe_int pa_nil))))))), ?_⟩
    have item : ∀ (i : Nat) (x : V), (ns.map V.int)[i]? = some x → ∃ z, x = V.int z := fun i x e => by
      rw [List.getElem?_map] at e
      obtain ⟨z, _, rfl⟩ := Option.map_eq_some_iff.mp e
      exact ⟨z, rfl⟩
    have pow : CPow 10 18 := ⟨by decide, by decide, by decide⟩
    have small : ∀ {l : List Int} {i : Nat}, l.length ≤ i → i < ns.length → (l.map V.int).length < sizeLine := fun h1 h2 => by
      rw [List.length_map]
      exact small1000 (by omega)
    refine ⟨.ref a, rfl, a, rfl, ⟨_, hS⟩, fun D nD => lc_list (K := K) (a := a) (xs := ns.map V.int) (fun i H1 => Same H H1 ∧ ∃ gs : List Int, H1 D = some (.lst (gs.map V.int)) ∧ gs.length ≤ i) ?_ (fun i H1 _ h => Same.seq h.1 hS) ?_ ?_⟩
    · exact ⟨same_new nD, [], upd_same, Nat.le_refl _⟩
    · rintro i x H1 hx ⟨s1, gs, hD, hl⟩
      have hi : i < ns.length := by
        have := (List.getElem?_eq_some_iff.mp hx).1
        rwa [List.length_map] at this
      obtain ⟨z, rfl⟩ := item i x hx
      refine ⟨rfl, .int z, rfl, 10, 18, rfl, rfl, pow, _, _, rfl, rfl, _, rfl, ite2 (fun _ => ?_) (fun _ => ?_)⟩
      · refine ⟨.int z, rfl, _, hD, small hl hi, fun c o e => ?_, gs ++ [z], ?_, ?_⟩
        · rw [upd_ne (ne_of_none e nD)]
          exact s1 c o e
        · rw [upd_same, List.map_append]
          rfl
        · rw [List.length_append]
          exact Nat.succ_le_succ hl
      · exact ⟨s1, gs, hD, Nat.le_succ_of_le hl⟩
    · rintro H1 ⟨s1, gs, hD, hl⟩
      rw [List.length_map] at hl
      have hS1 : SqL K H1 a (ns.map V.int) := Same.seq s1 hS
      refine ⟨.ref D, rfl, .ref a, rfl, a, rfl, ⟨_, hS1⟩, fun D2 nD2 => lc_list (K := K) (a := a) (xs := ns.map V.int) (fun i H2 => Same H1 H2 ∧ ∃ ms : List Int, H2 D2 = some (.lst (ms.map V.int)) ∧ ms.length ≤ i) ?_ (fun i H2 _ h => Same.seq h.1 hS1) ?_ ?_⟩
      · exact ⟨same_new nD2, [], upd_same, Nat.le_refl _⟩
      · rintro i x H2 hx ⟨s2, ms, hD2, hl2⟩
        have hi : i < ns.length := by
          have := (List.getElem?_eq_some_iff.mp hx).1
          rwa [List.length_map] at this
        obtain ⟨z, rfl⟩ := item i x hx
        refine ⟨rfl, .int z, rfl, 10, 18, rfl, rfl, pow, _, _, rfl, rfl, _, rfl, ite2 (fun _ => ?_) (fun _ => ?_)⟩
        · refine ⟨.int z, rfl, _, hD2, small hl2 hi, fun c o e => ?_, ms ++ [z], ?_, ?_⟩
          · rw [upd_ne (ne_of_none e nD2)]
            exact s2 c o e
          · rw [upd_same, List.map_append]
            rfl
          · rw [List.length_append]
            exact Nat.succ_le_succ hl2
        · exact ⟨s2, ms, hD2, Nat.le_succ_of_le hl2⟩
      · rintro H2 ⟨s2, ms, hD2, hl2⟩
        rw [List.length_map] at hl2
        refine ⟨by show 4 ≤ sizeLine; decide, fun b nb => ?_⟩
        have nD' : H2 D = some (.lst (gs.map V.int)) := s2 _ _ hD
        have ne : D ≠ D2 := ne_of_none hD nD2
        have e1 : D ≠ b := ne_of_none nD' nb
        have e2 : D2 ≠ b := ne_of_none hD2 nb
        refine q _ b D D2 ((s1.trans s2).trans (same_new nb)) ⟨⟨0, 0, gs, ms, upd_same, ?_, ?_, Int.le_refl _, Int.le_refl _, by omega, by omega⟩, e1.symm, e2.symm, ne⟩
        · rw [upd_ne e1]
          exact nD'
        · rw [upd_ne e2]
          exact hD2
/-! _law_mixed -/
abbrev sMixed : Stmt := top 40
abbrev nMixed : List Str := ["_law_cell", "_law_k", "_law_whole"]
theorem scMixed : FnScope nMixed ["_law_cell", "_law_k"] (defScope sMixed) := ⟨rfl, rfl, rfl, by decide +kernel, rfl, by decide +kernel, by decide +kernel⟩
def spMixed : Sp := fun vs H Q _ => ∃ c k : Int, vs = [.int c, .int k] ∧ 0 ≤ k ∧ k ≤ 10000000 ∧ ∀ v : Int, Q (.int v) H
theorem ok_mixed {f : Addr} {fd : FuncData} {k : Nat} (F : Fun K "_law_mixed" "_law_mixed" sMixed f fd) : FnOk P w K mg base CX0 (k + 1) f fd ["_law_cell", "_law_k"] spMixed := by
  refine F.ok scMixed (fun vs H Q E h => ?_) (fun cdv A outer s H vs Q E hr h => ?_)
  · obtain ⟨c, k, rfl, _⟩ := h
    rfl
  · obtain ⟨c, k, rfl, k0, k1, q⟩ := h
    refine ⟨_, pss_cons (ps_set (i := 2) scMixed.nd rfl (Or.inl rfl) (pe_op op_mod (pe_op op_pow
        (pe_op op_add (pe_op op_add (pe_op op_add (pe_op op_mod (pv 0) pe_int) (pe_op op_mul (pe_op op_mul pe_int (pv 1)) (pv 1))) (pe_op op_mul pe_int (pv 1))) pe_int) pe_int) pe_int))
      (pss_one (ps_ret (pe_op op_mod (pe_op op_add (pe_op op_mul (pv 2) pe_int) (pe_op op_mul pe_int (pv 1))) pe_int))), ?_⟩
    have m0 : 0 ≤ c % 2147483647 := Int.emod_nonneg _ (by decide)
    have m1 : c % 2147483647 < 2147483647 := Int.emod_lt_of_pos _ (by decide)
    have sq : 0 ≤ k * k ∧ k * k ≤ 10000000 * 10000000 := ⟨Int.mul_nonneg k0 k0, Int.mul_le_mul k1 k1 k0 (by decide)⟩
    have e : 1009 * k * k = 1009 * (k * k) := Int.mul_assoc _ _ _
    have big : (c % 2147483647 + 1009 * k * k + 48611 * k + 17).natAbs < 2 ^ 64 := by
      rw [e]
      omega
    refine ⟨_, rfl, _, _, rfl, rfl, (by show (0 : Int) < 2147483647; decide), _, rfl, _, _, rfl, rfl, .inl ⟨by decide, by decide⟩, _, rfl, _, _, rfl, rfl, .inr ⟨by omega, by omega⟩, _, _, rfl, rfl, _, rfl, _, _, rfl, rfl, .inl ⟨by decide, by decide⟩, _, _, rfl, rfl, _, _, rfl, rfl,
      _, _, rfl, rfl, ⟨by decide, by decide, big⟩, _, _, rfl, rfl, (by show (0 : Int) < 2147483647; decide), ?_⟩
    refine ⟨_, rfl, _, _, rfl, rfl, .inr ⟨by decide, by decide⟩, _, rfl, _, _, rfl, rfl, .inl ⟨by decide, by decide⟩, _, _, rfl, rfl, _, _, rfl, rfl, (by show (0 : Int) < 1000000007; decide), ?_⟩
    exact q _
/-! _law_take -/
abbrev sTake : Stmt := top 41
abbrev nTake : List Str := ["_law_box_here", "_law_size", "_law_found", "_law_cell", "_law_reach"]
theorem scTake : FnScope nTake ["_law_box_here", "_law_size"] (defScope sTake) := ⟨rfl, rfl, rfl, by decide +kernel, rfl, by decide +kernel, by decide +kernel⟩
/-- a drawn number below size; the box is a box again -/
def spTake : Sp := fun vs H Q _ => ∃ (b g m : Addr) (n : Nat) (size : Int), vs = [.ref b, .int size] ∧ Box H b g m n ∧ n ≤ 1000000 ∧ 1 ≤ size ∧ size ≤ 1000 ∧
  ∀ (v : Int) (H' : Hp), 0 ≤ v → v < size → Box H' b g m (n + 1) → Keep b g H H' → Q (.int v) H'
theorem ok_take {f fM : Addr} {fd fdM : FuncData} {k : Nat} (F : Fun K "_law_take" "_law_take" sTake f fd) (FM : Fun K "_law_mixed" "_law_mixed" sMixed fM fdM) (bM : Binds K fdM ["_law_cell", "_law_k"] []) (gM : mg "_law_mixed" = some (.ref fM))
    (ml : mg "len" = none) (mx : mg "max" = none) : FnOk P w K mg base CX0 (k + 2) f fd ["_law_box_here", "_law_size"] spTake := by
  have GM : FnOk P w K mg base CX0 (k + 1) fM fdM ["_law_cell", "_law_k"] spMixed := ok_mixed FM
  refine F.ok scTake (fun vs H Q E h => ?_) (fun cdv A outer s H vs Q E hr h => ?_)
  · obtain ⟨b, g, m, n, size, rfl, _⟩ := h
    rfl
  · obtain ⟨b, g, m, n, size, rfl, B, hn, s1, s2, q⟩ := h
    refine ⟨_, pss_cons (ps_asg (pe_op op_add (pe_ix ix_list (pv 0) pe_int (fun _ _ => rfl)) pe_int) (pg_sub (pv 0) pe_int L2.set_list))
      (C8.pss_cut (ps_if (PW.pt (pw_and (pt_cmpR op_eq (pe_ix ix_list (pv 0) pe_int (fun _ _ => rfl)) pe_int (nomark _))
          (pw_and1 (pt_cmpR op_gt (pe_callB call_len_seq (by rfl) ml PySem.boot_len (pa_cons (pe_ix ix_list (pv 0) pe_int (fun _ _ => rfl)) pa_nil)) pe_int (nomark _)))))
        (pss_one (ps_asg (pe_bm PySem.F.plainAttrs_list PySem.F.slot_list_pop PySem.F.type_list_pop mt_popAt (pe_ix ix_list (pv 0) pe_int (fun _ _ => rfl)) (pa_cons pe_int pa_nil)) (pg_sub (pv 0) pe_int L2.set_list))) pss_nil)
      (pss_cons (ps_if (pt_cmpR op_gt (pe_ix ix_list (pv 0) pe_int (fun _ _ => rfl)) pe_int (nomark _))
        (pss_cons (ps_set (i := 2) scTake.nd rfl (Or.inl rfl) (pe_op op_mod (pe_ix ix_list (pv 0) pe_int (fun _ _ => rfl)) (pv 1)))
        (pss_cons (ps_asg (pe_op op_fdiv (pe_ix ix_list (pv 0) pe_int (fun _ _ => rfl)) (pv 1)) (pg_sub (pv 0) pe_int L2.set_list))
        (pss_one (ps_ret (pv 2))))) pss_nil)
      (pss_cons (ps_set (i := 3) scTake.nd rfl (Or.inl rfl) (pe_ix ix_list (pe_op op_cat (pe_ix ix_list (pv 0) pe_int (fun _ _ => rfl)) (pe_lst (pa_cons (pe_op op_mul pe_int (pe_ix ix_list (pv 0) pe_int (fun _ _ => rfl))) pa_nil)))
          (pe_op op_mod (pe_ix ix_list (pv 0) pe_int (fun _ _ => rfl)) (pe_callB (call_max2 rfl) (by rfl) mx (by decide +kernel) (pa_cons pe_int (pa_cons (pe_callB call_len_seq (by rfl) ml PySem.boot_len (pa_cons (pe_ix ix_list (pv 0) pe_int (fun _ _ => rfl)) pa_nil)) pa_nil)))) (fun _ _ => rfl)))
      (pss_cons (ps_set (i := 2) scTake.nd rfl (Or.inl rfl) pe_int)
      (pss_cons (ps_set (i := 4) scTake.nd rfl (Or.inl rfl) pe_int)
      (pss_cons (ps_while PassesOwn.never (pt_cmpR op_lt (pv 4) (pv 1) (nomark _))
        (pss_cons (ps_set (i := 2) scTake.nd rfl (Or.inl rfl) (pe_op op_add (pe_op op_mul (pv 2) pe_int) (pe_call GM hr (by rfl) gM FM.kp bM .nil pass0 (pa_cons (pv 3) (pa_cons (pe_op op_add (pe_ix ix_list (pv 0) pe_int (fun _ _ => rfl)) (pe_op op_mul pe_int (pe_op op_mod (pv 2) pe_int))) pa_nil)))))
        (pss_one (ps_set (i := 4) scTake.nd rfl (Or.inl rfl) (pe_op op_mul (pv 4) pe_int)))))
      (pss_one (ps_ret (pe_op op_mod (pv 2) (pv 1)))))))))), ?_⟩
    obtain ⟨⟨x, c, gs, ms, hb, hg, hm, c0, c1, gl, mlen⟩, bg, bm, gm⟩ := id B
    -- box[3] = box[3] + 1
    refine ⟨.ref b, rfl, b, _, 3, .int c, rfl, rfl, SqL.of hb, rfl, _, _, rfl, rfl, .ref b, rfl, b, _, 3, 3, rfl, rfl, hb, rfl, ?_⟩
    -- the word between
    refine ⟨fun σ H1 => σ = [some (.ref b), some (.int size), none, none, none] ∧ ∃ (x1 : Int) (gs1 : List Int), H1 b = some (.lst [.ref g, .int x1, .ref m, .int (c + 1)]) ∧ H1 g = some (.lst (gs1.map V.int)) ∧ gs1.length ≤ 63 ∧ Keep b g H H1, ?_, ?_⟩
    · have hb1 : (upd H b (.lst [.ref g, .int x, .ref m, .int (c + 1)])) b = some (.lst [.ref g, .int x, .ref m, .int (c + 1)]) := upd_same
      have hg1 : (upd H b (.lst [.ref g, .int x, .ref m, .int (c + 1)])) g = some (.lst (gs.map V.int)) := by rw [upd_ne bg.symm]; exact hg
      have kp1 : Keep b g H (upd H b (.lst [.ref g, .int x, .ref m, .int (c + 1)])) := fun d o e n1 _ => by rw [upd_ne n1]; exact e
      refine ⟨.ref b, rfl, b, _, 1, .int x, rfl, rfl, SqL.of hb1, rfl, rfl, _, rfl, ?_⟩
      refine ite2 (fun _ => ?_) (fun _ => ?_)
      · refine ⟨.ref b, rfl, b, _, 0, .ref g, rfl, rfl, SqL.of hb1, rfl, g, _, rfl, .inl (SqL.of hg1), _, _, rfl, rfl, _, rfl, ite2 (fun e => ?_) (fun _ => ?_)⟩
        · have pos := of_decide_eq_true e
          rw [List.length_map] at pos
          obtain ⟨z, r, rfl⟩ : ∃ z r, gs = z :: r := by
            cases gs with
            | nil => simp at pos
            | cons z r => exact ⟨z, r, rfl⟩
          refine ⟨.ref b, rfl, b, _, 0, .ref g, rfl, rfl, SqL.of hb1, rfl, .inl ⟨rfl, _, SqL.of hg1⟩, g, _, 0, 0, .int z, rfl, rfl, hg1, by decide, by decide, ?_, rfl, ?_⟩
          · simp [seqIndex?]
          · refine ⟨.ref b, rfl, b, [.ref g, .int x, .ref m, .int (c + 1)], 1, 1, rfl, rfl, by rw [upd_ne bg]; exact hb1, rfl, rfl, z, r, upd_same, ?_, ?_, ?_⟩
            · rw [upd_ne bg.symm, upd_same]
              rfl
            · simp at gl
              omega
            · intro d o e n1 n2
              rw [upd_ne n1, upd_ne n2]
              exact kp1 d o e n1 n2
        · exact ⟨rfl, x, gs, hb1, hg1, gl, kp1⟩
      · exact ⟨rfl, x, gs, hb1, hg1, gl, kp1⟩
    · rintro σ H1 ⟨rfl, x1, gs1, hb1, hg1, gl1, kp1⟩
      have hm1 : H1 m = some (.lst (ms.map V.int)) := kp1 _ _ hm bm.symm gm.symm
      -- if box[1] > 0
      refine ⟨.ref b, rfl, b, _, 1, .int x1, rfl, rfl, SqL.of hb1, rfl, _, _, rfl, rfl, _, rfl, ite2 (fun _ => ?_) (fun _ => ?_)⟩
      · refine ⟨.ref b, rfl, b, _, 1, .int x1, rfl, rfl, SqL.of hb1, rfl, .int size, rfl, _, _, rfl, rfl, (by show 0 < size; omega), ?_⟩
        refine ⟨.ref b, rfl, b, _, 1, .int x1, rfl, rfl, SqL.of hb1, rfl, .int size, rfl, _, _, rfl, rfl, ⟨by omega, by omega⟩, .ref b, rfl, b, _, 1, 1, rfl, rfl, hb1, rfl, ?_⟩
        refine ⟨.int (x1 % size), rfl, q _ _ (Int.emod_nonneg _ (by omega)) (Int.emod_lt_of_pos _ (by omega)) ⟨⟨x1 / size, c + 1, gs1, ms, upd_same, ?_, ?_, by omega, by omega, gl1, mlen⟩, bg, bm, gm⟩ ?_⟩
        · rw [upd_ne bg.symm]
          exact hg1
        · rw [upd_ne bm.symm]
          exact hm1
        · intro d o e n1 n2
          rw [upd_ne n1]
          exact kp1 d o e n1 n2
      · -- the cell
        have mx0 : (0 : Int) < (if ((ms.map V.int).length : Int) > 1 then ((ms.map V.int).length : Int) else 1) := by
          split <;> omega
        refine ⟨.ref b, rfl, b, _, 2, .ref m, rfl, rfl, SqL.of hb1, rfl, .ref b, rfl, b, _, 3, .int (c + 1), rfl, rfl, SqL.of hb1, rfl, _, _, rfl, rfl, .inl ⟨by decide, by decide⟩, by show 1 ≤ sizeLine; decide, fun l1 nl1 => ?_⟩
        have ne1 : m ≠ l1 := ne_of_none hm1 nl1
        refine ⟨m, l1, ms.map V.int, [.int (7 * (c + 1))], rfl, rfl, by rw [upd_ne ne1]; exact hm1, upd_same, ?_, fun l2 nl2 => ?_⟩
        · rw [List.length_map]
          have : (63 : Nat) + 1 ≤ sizeLine := by decide
          show ms.length + 1 ≤ sizeLine
          omega
        have hb2 : upd (upd H1 l1 (.lst [.int (7 * (c + 1))])) l2 (.lst (ms.map V.int ++ [.int (7 * (c + 1))])) b = some (.lst [.ref g, .int x1, .ref m, .int (c + 1)]) := by
          rw [upd_ne (ne_of_none (by rw [upd_ne (ne_of_none hb1 nl1)]; exact hb1) nl2), upd_ne (ne_of_none hb1 nl1)]
          exact hb1
        have s2' : Same H1 (upd (upd H1 l1 (.lst [.int (7 * (c + 1))])) l2 (.lst (ms.map V.int ++ [.int (7 * (c + 1))]))) := (same_new nl1).trans (same_new nl2)
        have at2 : upd (upd H1 l1 (.lst [.int (7 * (c + 1))])) l2 (.lst (ms.map V.int ++ [.int (7 * (c + 1))])) l2 = some (.lst (ms.map V.int ++ [.int (7 * (c + 1))])) := upd_same
        generalize upd (upd H1 l1 (.lst [.int (7 * (c + 1))])) l2 (.lst (ms.map V.int ++ [.int (7 * (c + 1))])) = H2 at hb2 s2' at2
        have hm2 := s2' _ _ hm1
        have idx : ∃ z : Int, atI (ms.map V.int ++ [V.int (7 * (c + 1))]) ((c + 1) % (if ((ms.map V.int).length : Int) > 1 then ((ms.map V.int).length : Int) else 1)) = some (.int z) := by
          have e : ms.map V.int ++ [V.int (7 * (c + 1))] = (ms ++ [7 * (c + 1)]).map V.int := by rw [List.map_append]; rfl
          rw [e]
          refine int_at _ (Int.emod_nonneg _ (by omega)) ?_
          refine Int.lt_of_lt_of_le (Int.emod_lt_of_pos (c + 1) mx0) ?_
          rw [List.length_map, List.length_append, List.length_singleton]
          split <;> omega
        obtain ⟨z, idx⟩ := idx
        refine ⟨.ref b, rfl, b, _, 3, .int (c + 1), rfl, rfl, SqL.of hb2, rfl, .ref b, rfl, b, _, 2, .ref m, rfl, rfl, SqL.of hb2, rfl, m, _, rfl, .inl (SqL.of hm2), _, _, rfl, _, _, rfl, rfl, mx0, l2, _, _, .int z, rfl, rfl, SqL.of at2, idx, ?_⟩
        -- the loop
        refine while_by (fun σ H3 => H3 = H2 ∧ ∃ fo re : Int, σ = [some (.ref b), some (.int size), some (.int fo), some (.int z), some (.int re)] ∧ (re = 1 ∧ fo = 0 ∨ re = 1000000007))
          (fun (σ : L2.St) _ => match σ[4]? with | some (some (V.int r)) => if r = 1 then 1 else 0 | _ => 0) ⟨rfl, 0, 1, rfl, .inl ⟨rfl, rfl⟩⟩ ?_
          (fun σ H Q Q' hq ⟨v, e, v', e', i, j, e1, e2, b, eb, h⟩ => ⟨v, e, v', e', i, j, e1, e2, b, eb, hq _ _ h⟩)
        rintro σ H3 ⟨rfl, fo, re, rfl, hre⟩
        refine ⟨.int re, rfl, .int size, rfl, _, _, rfl, rfl, _, rfl, ite2 (fun e => ?_) (fun _ => ?_)⟩
        · have lt : re < size := of_decide_eq_true e
          obtain ⟨rfl, rfl⟩ : re = 1 ∧ fo = 0 := by
            rcases hre with h | h
            · exact h
            · omega
          refine ⟨.int 0, rfl, _, _, rfl, rfl, .inl ⟨by decide, by decide⟩, .int z, rfl, .ref b, rfl, b, _, 3, .int (c + 1), rfl, rfl, SqL.of hb2, rfl, .int 0, rfl, _, _, rfl, rfl, (by show (0 : Int) < 89; decide), _, _, rfl, rfl, .inl ⟨by decide, by decide⟩, _, _, rfl, rfl, z, _, rfl, ?_, ?_, fun v => ?_⟩
          · show 0 ≤ c + 1 + 1000 * (0 % 89)
            omega
          · show c + 1 + 1000 * (0 % 89) ≤ 10000000
            omega
          · refine ⟨_, _, rfl, rfl, .int 1, rfl, _, _, rfl, rfl, .inl ⟨by decide, by decide⟩, ⟨rfl, _, 1 * 1000000007, rfl, .inr rfl⟩, ?_⟩
            show (if (1 * 1000000007 : Int) = 1 then 1 else 0) < (if (1 : Int) = 1 then 1 else 0)
            decide
        · refine ⟨.int fo, rfl, .int size, rfl, _, _, rfl, rfl, (by show 0 < size; omega), q _ _ (Int.emod_nonneg _ (by omega)) (Int.emod_lt_of_pos _ (by omega)) ⟨⟨x1, c + 1, gs1, ms, hb2, s2' _ _ hg1, hm2, by omega, by omega, gl1, mlen⟩, bg, bm, gm⟩ ?_⟩
          exact kp1.trans (Same.keep s2')
end
end Moot
namespace Moot
open PySem PySem.Spec PyProof.Rows L2
/-! texts of one sign -/
def sg (c : Nat) : Str := ⟨#[c]⟩
theorem sg_inj {c d : Nat} (h : sg c = sg d) : c = d := by
  have := congrArg (fun s : Str => s.cps.toList) h
  simpa [sg] using this
theorem glue_one : ∀ (cs : List Nat) (acc : Array Nat), (cs.map sg).foldl (fun a p => a ++ Str.empty.cps ++ p.cps) acc = acc ++ cs.toArray
  | [], acc => by simp
  | c :: cs, acc => by
    rw [List.map_cons, List.foldl_cons, glue_one cs]
    simp [Str.empty, sg]
theorem join_signs (cs : List Nat) : Txt.join Str.empty (cs.map sg) = ⟨cs.toArray⟩ := by
  unfold Txt.join Builtin.Str.glued
  cases cs with
  | nil => rfl
  | cons c cs =>
    show (⟨(cs.map sg).foldl _ (sg c).cps⟩ : Str) = _
    rw [glue_one]
    simp [sg]
/-- a name: one to eight letters -/
structure Nm (x : Str) : Prop where
  lo : 1 ≤ x.cps.size
  hi : x.cps.size ≤ 8
  low : ∀ c ∈ x.cps.toList, 97 ≤ c ∧ c ≤ 122
theorem Nm.ok {x : Str} (h : Nm x) : PyData.strOk x = true := by
  unfold PyData.strOk
  rw [Array.all_eq_true]
  intro i hi
  have := h.low x.cps[i] (by simp)
  simp
  omega
abbrev abc : Str := "abcdefghijklmnopqrstuvwxyz"
theorem abc_list : abc.cps.toList = (List.range 26).map (· + 97) := by decide +kernel
theorem abc_size : abc.cps.size = 26 := by decide +kernel
theorem abc_at {i : Nat} (h : i < 26) : abc.cps.toList[i]? = some (i + 97) := by
  rw [abc_list, List.getElem?_map, List.getElem?_range h]
  rfl
theorem sg_nm {c : Nat} (h : c < 26) : Nm (sg (c + 97)) := ⟨by simp [sg], by simp [sg], fun d m => by
  have : d = c + 97 := by simpa [sg] using m
  omega⟩
theorem nm_of {cs : List Nat} (h1 : 1 ≤ cs.length) (h2 : cs.length ≤ 8) (h : ∀ c ∈ cs, 97 ≤ c ∧ c ≤ 122) : Nm ⟨cs.toArray⟩ := ⟨by simpa using h1, by simpa using h2, fun c m => h c (by simpa using m)⟩
theorem inV_str (z : Str) (xs : List Str) : inV (.str z) (xs.map V.str) = decide (z ∈ xs) := by
  unfold inV
  rw [List.any_map]
  rw [Bool.eq_iff_iff, List.any_eq_true, decide_eq_true_eq]
  constructor
  · rintro ⟨y, m, e⟩
    have : y = z := by simpa [eqV] using e
    exact this ▸ m
  · intro m
    exact ⟨z, m, by simp [eqV]⟩
theorem flats (xs : List Str) : (xs.map V.str).all flatV = true := by
  rw [List.all_map]
  exact List.all_eq_true.mpr fun _ _ => rfl
/-- some letter is not among fewer than 26 names -/
theorem letter_left (xs : List Str) (h : xs.length < 26) : ∃ c, c < 26 ∧ sg (c + 97) ∉ xs := by
  rcases Classical.em (∃ c, c < 26 ∧ sg (c + 97) ∉ xs) with h' | h'
  · exact h'
  · exfalso
    have all : ∀ y ∈ (List.range 26).map (fun c => sg (c + 97)), y ∈ xs := fun y m => by
      obtain ⟨c, hc, rfl⟩ := List.mem_map.mp m
      rcases Classical.em (sg (c + 97) ∈ xs) with k | k
      · exact k
      · exact absurd ⟨c, List.mem_range.mp hc, k⟩ h'
    have nd : ((List.range 26).map (fun c => sg (c + 97))).Nodup := by
      refine List.Pairwise.map _ (fun a b n e => n ?_) (List.nodup_range (n := 26))
      have := sg_inj e
      omega
    have : ∀ (l D : List Str), l.Nodup → (∀ y ∈ l, y ∈ D) → l.length ≤ D.length := by
      intro l
      induction l with
      | nil => intros; exact Nat.zero_le _
      | cons y l ih =>
        intro D n s
        obtain ⟨n1, n2⟩ := List.nodup_cons.mp n
        have my := s y List.mem_cons_self
        have := ih (D.erase y) n2 fun z mz => (List.mem_erase_of_ne fun (e : z = y) => n1 (e ▸ mz)).mpr (s z (List.mem_cons_of_mem _ mz))
        have e := List.length_erase_of_mem my
        have := List.length_pos_of_mem my
        rw [List.length_cons]
        omega
    have := this _ xs nd all
    rw [List.length_map, List.length_range] at this
    omega
theorem Box.ne {H : Hp} {b g m p : Addr} {n : Nat} (B : Box H b g m n) (h : H p = none) : p ≠ b ∧ p ≠ g ∧ p ≠ m := by
  obtain ⟨o1, h1⟩ := B.b_in
  obtain ⟨o2, h2⟩ := B.g_in
  obtain ⟨o3, h3⟩ := B.m_in
  exact ⟨(ne_of_none h1 h).symm, (ne_of_none h2 h).symm, (ne_of_none h3 h).symm⟩
theorem Keep.free {b g p : Addr} {H H' : Hp} (k : Keep b g H H') (p1 : p ≠ b) (p2 : p ≠ g) (h : H' p = none) : H p = none := by
  cases e : H p with
  | none => rfl
  | some o =>
    rw [k p o e p1 p2] at h
    cases h
theorem one_two_eight {v : Int} (h0 : 0 ≤ v) (h1 : v < 3) : ∃ s : Int, atI [V.int 1, V.int 2, V.int 8] v = some (.int s) ∧ 1 ≤ s ∧ s ≤ 8 := by
  have c : v = 0 ∨ v = 1 ∨ v = 2 := by omega
  rcases c with rfl | rfl | rfl
  · exact ⟨1, rfl, by decide, by decide⟩
  · exact ⟨2, rfl, by decide, by decide⟩
  · exact ⟨8, rfl, by decide, by decide⟩
theorem erase_map {α β : Type} (f : α → β) : ∀ (l : List α) (k : Nat), (l.map f).eraseIdx k = (l.eraseIdx k).map f
  | [], _ => rfl
  | _ :: _, 0 => rfl
  | x :: l, k + 1 => by
    show f x :: (l.map f).eraseIdx k = f x :: (l.eraseIdx k).map f
    rw [erase_map f l k]
theorem seq_at {n : Nat} {v : Int} (h0 : 0 ≤ v) (h1 : v < n) : seqIndex? v n = some v.toNat := by
  have e : ixN n v = some v.toNat := by
    unfold ixN
    rw [if_pos h0, if_pos (by omega)]
  exact (ixN_seq e).1
section
variable {P : Program} {w : World} {K : PySem.W.Frag} {mg : Str → Option Value} {base : Heap}
/-! _law_names -/
abbrev sNames : Stmt := top 42
abbrev nNames : List Str := ["_law_box_here", "_law_many", "_law_letters", "_law_found", "_law_k", "_law_size", "_law_name", "_law_j", "_law_one"]
theorem scNames : FnScope nNames ["_law_box_here", "_law_many"] (defScope sNames) := ⟨rfl, rfl, rfl, by decide +kernel, rfl, by decide +kernel, by decide +kernel⟩
/-- that many names, none twice -/
def spNames : Sp := fun vs H Q _ => ∃ (b g m : Addr) (n : Nat) (many : Nat), vs = [.ref b, .int many] ∧ Box H b g m n ∧ n ≤ 900000 ∧ many ≤ 8 ∧
  ∀ (p : Addr) (xs : List Str) (H' : Hp), H p = none → H' p = some (.lst (xs.map V.str)) → xs.length = many → xs.Nodup → (∀ x ∈ xs, Nm x) → Box H' b g m (n + 100) → Keep b g H H' → Q (.ref p) H'
theorem ok_names {f fT : Addr} {fd fdT : FuncData} {k : Nat} (F : Fun K "_law_names" "_law_names" sNames f fd) (FT : Fun K "_law_take" "_law_take" sTake fT fdT) (bT : Binds K fdT ["_law_box_here", "_law_size"] []) (gT : mg "_law_take" = some (.ref fT))
    (GT : FnOk P w K mg base CX0 k fT fdT ["_law_box_here", "_law_size"] spTake) (mr : mg "range" = none) : FnOk P w K mg base CX0 (k + 1) f fd ["_law_box_here", "_law_many"] spNames := by
  refine F.ok scNames (fun vs H Q E h => ?_) (fun cdv A outer s H vs Q E hr h => ?_)
  · obtain ⟨b, g, m, n, many, rfl, _⟩ := h
    rfl
  · obtain ⟨b, g, m, n, many, rfl, B, hn, hmany, q⟩ := h
    refine ⟨_, pss_cons (ps_set (i := 2) scNames.nd rfl (Or.inr rfl) pe_str)
      (pss_cons (ps_set (i := 3) scNames.nd rfl (Or.inr rfl) (pe_lst pa_nil))
      (pss_cons (ps_for PassesOwn.never rfl (pi_range1 rfl mr (pa_cons (pv 1) pa_nil)) (pg_name (i := 4) scNames.nd rfl (Or.inl rfl))
        (pss_cons (ps_set (i := 5) scNames.nd rfl (Or.inl rfl) (pe_op op_add pe_int (pe_call GT hr (by rfl) gT FT.kp bT .nil pass0 (pa_cons (pv 0) (pa_cons (pe_ix ix_list (pe_lst (pa_cons pe_int (pa_cons pe_int (pa_cons pe_int pa_nil)))) (pe_call GT hr (by rfl) gT FT.kp bT .nil pass0 (pa_cons (pv 0) (pa_cons pe_int pa_nil))) (fun _ _ => rfl)) pa_nil)))))
        (pss_cons (ps_set (i := 6) scNames.nd rfl (Or.inl rfl) (pe_join pe_str (pe_lc (own := [("_law_j", 7)]) (g := gName 7) (tt := tYes) (by rfl) scNames.nd (pi_range1 rfl mr (pa_cons (pv 5) pa_nil)) (blkOk_by (N := nNames) (sc := defScope sNames) (by decide +kernel))
            (fun _ _ _ _ _ => pg_name (i := 7) scNames.nd rfl (Or.inl rfl)) (fun _ _ _ _ _ => pts_nil) (fun _ _ _ _ _ => pe_ix ix_str (pv 2) (pe_call GT hr (by rfl) gT FT.kp bT .nil pass0 (pa_cons (pv 0) (pa_cons pe_int pa_nil))) (fun _ _ => rfl)))))
        (pss_one (ps_expr (pe_bm PySem.F.plainAttrs_list PySem.F.slot_list_append PySem.F.type_list_append mt_append (pv 3) (pa_cons (pe_ifExp (pt_cmpR op_notIn_seq (pv 6) (pv 3) (by rfl)) (pv 6)
            (pe_ix ix_list (pe_lc (own := [("_law_one", 8)]) (g := gName 8) (by rfl) scNames.nd (pi_str (pv 2)) (blkOk_by (N := nNames) (sc := defScope sNames) (by decide +kernel))
              (fun _ _ _ _ _ => pg_name (i := 8) scNames.nd rfl (Or.inl rfl)) (fun _ _ _ _ _ => pts_one (pt_cmpR (show OpR _ (compareOp .NotIn) (rIn K true) from op_notIn_seq) (pv 8) (pv 3) (by rfl))) (fun _ _ _ _ _ => pv 8)) pe_int (fun _ _ => rfl))) pa_nil)))))))
      (pss_one (ps_ret (pv 3))))), ?_⟩
    -- letters, found
    refine ⟨Nat.zero_le _, fun p np => ?_⟩
    obtain ⟨pb, pg, pm⟩ := B.ne np
    refine ⟨.int many, rfl, many, rfl, by omega, by omega, for_range (lo := 0) (n := (many : Int).toNat) (fun i σ H1 => ∃ (xs : List Str) (y4 y5 y6 y7 y8 : Option V), σ = [some (.ref b), some (.int many), some (.str abc), some (.ref p), y4, y5, y6, y7, y8] ∧
      Box H1 b g m (n + 12 * i) ∧ Keep b g H H1 ∧ H1 p = some (.lst (xs.map V.str)) ∧ xs.length = i ∧ xs.Nodup ∧ ∀ x ∈ xs, Nm x) ?_ ?_ ?_⟩
    · exact ⟨[], none, none, none, none, none, rfl, B.store pb pg pm, Same.keep (same_new np), upd_same, rfl, List.nodup_nil, fun x m => by simp at m⟩
    · rintro i σ H1 hi ⟨xs, y4, y5, y6, y7, y8, rfl, B1, K1, h1, len, nd, nm⟩
      have hi8 : i < 8 := by omega
      -- the size
      refine ⟨.ref b, rfl, by show 3 ≤ sizeLine; decide, fun l1 nl1 => ?_⟩
      have B1' := B1.same (same_new (o := .lst [.int 1, .int 2, .int 8]) nl1)
      obtain ⟨lb, lg, lm⟩ := B1.ne nl1
      refine ⟨.ref b, rfl, b, g, m, _, 3, rfl, B1', by omega, by decide, by decide, fun v1 H2 v0 v3 B2 K2 => ?_⟩
      have hl2 : H2 l1 = some (.lst [.int 1, .int 2, .int 8]) := K2 _ _ upd_same lb lg
      obtain ⟨sz, at1, sz1, sz8⟩ := one_two_eight v0 v3
      refine ⟨l1, _, v1, .int sz, rfl, rfl, SqL.of hl2, at1, b, g, m, _, sz, rfl, B2, by omega, sz1, by omega, fun v2 H3 v20 v2s B3 K3 => ?_⟩
      have K13 : Keep b g H1 H3 := ((Same.keep (same_new nl1)).trans K2).trans K3
      refine ⟨_, _, rfl, rfl, ?_⟩
      -- the name
      refine ⟨⟨_, rfl⟩, .int (1 + v2), rfl, 1 + v2, rfl, by omega, by omega, fun D nD => ?_⟩
      obtain ⟨Db, Dg, Dm⟩ := B3.ne nD
      have abcAt : ∀ v : Int, 0 ≤ v → v < 26 → atI abc.cps.toList v = some (v.toNat + 97) := fun v a0 a1 => by
        obtain ⟨j, rfl⟩ := Int.eq_ofNat_of_zero_le a0
        exact atI_nat (abc_at (by omega))
      refine lc_range (lo := 0) (n := (1 + v2).toNat) (fun j H4 => Box H4 b g m (n + 12 * i + 2 + j) ∧ Keep b g H3 H4 ∧ ∃ cs : List Nat, H4 D = some (.lst ((cs.map sg).map V.str)) ∧ cs.length = j ∧ ∀ c ∈ cs, 97 ≤ c ∧ c ≤ 122) ?_ ?_ ?_
      · exact ⟨B3.store Db Dg Dm, Same.keep (same_new nD), [], upd_same, rfl, fun c m => by simp at m⟩
      · rintro j H4 hj ⟨B4, K4, cs, hD, lcs, low⟩
        refine ⟨rfl, .str abc, rfl, .ref b, rfl, b, g, m, _, 26, rfl, B4, by omega, by decide, by decide, fun v H5 a0 a1 B5 K5 => ?_⟩
        refine ⟨abc, v, v.toNat + 97, rfl, rfl, by show abc.cps.size ≤ sizeLine; rw [abc_size]; decide, abcAt v a0 a1, _, K5 _ _ hD Db Dg, ?_, ?_⟩
        · rw [List.length_map, List.length_map]
          exact small1000 (by omega)
        · refine ⟨(B5.store Db Dg Dm).more (by omega), fun d o e n1 n2 => ?_, cs ++ [v.toNat + 97], ?_, ?_, ?_⟩
          · rw [upd_ne (ne_of_none e nD)]
            exact K5 _ _ (K4 _ _ e n1 n2) n1 n2
          · rw [upd_same, List.map_append, List.map_append]
            rfl
          · rw [List.length_append, lcs]
            rfl
          · intro c mc
            rcases List.mem_append.mp mc with mc | mc
            · exact low c mc
            · have := List.mem_singleton.mp mc
              omega
      · rintro H4 ⟨B4, K4, cs, hD, lcs, low⟩
        have K14 : Keep b g H1 H4 := K13.trans K4
        have hp4 : H4 p = some (.lst (xs.map V.str)) := K14 _ _ h1 pb pg
        have lc8 : cs.length ≤ 8 := by omega
        have lc1 : 1 ≤ cs.length := by omega
        refine ⟨Str.empty, D, cs.map sg, rfl, rfl, .inl (SqL.of hD), ?_, ?_⟩
        · have : ((cs.map sg).map (·.length)).sum = cs.length := by
            clear lcs low hD lc8 lc1
            induction cs with
            | nil => rfl
            | cons c cs ih =>
              rw [List.map_cons, List.map_cons, List.sum_cons, ih, List.length_cons]
              show 1 + cs.length = _
              omega
          rw [this]
          show cs.length + _ * 0 ≤ _
          omega
        rw [join_signs]
        have nmN : Nm ⟨cs.toArray⟩ := nm_of lc1 lc8 low
        generalize (⟨cs.toArray⟩ : Str) = name at nmN ⊢
        refine ⟨.ref p, rfl, .inl ⟨rfl, _, SqL.of hp4⟩, .str name, rfl, .ref p, rfl, p, _, rfl, .inl (SqL.of hp4), rfl, flats xs, _, rfl, ?_⟩
        have put : ∀ (z : Str) (H5 : Hp), Nm z → z ∉ xs → Same H4 H5 → Box (upd H5 p (.lst (xs.map V.str ++ [.str z]))) b g m (n + 12 * (i + 1)) ∧ Keep b g H (upd H5 p (.lst (xs.map V.str ++ [.str z]))) ∧
            upd H5 p (.lst (xs.map V.str ++ [.str z])) p = some (.lst ((xs ++ [z]).map V.str)) ∧ (xs ++ [z]).length = i + 1 ∧ (xs ++ [z]).Nodup ∧ ∀ x ∈ xs ++ [z], Nm x := fun z H5 nz out s5 => by
          refine ⟨((B4.same s5).store pb pg pm).more (by omega), ?_, ?_, ?_, ?_, ?_⟩
          · intro d o e n1 n2
            rw [upd_ne (ne_of_none e np)]
            exact s5 _ _ (K14 _ _ (K1 _ _ e n1 n2) n1 n2)
          · rw [upd_same, List.map_append]
            rfl
          · rw [List.length_append, len]
            rfl
          · exact List.nodup_append.mpr ⟨nd, List.nodup_cons.mpr ⟨by simp, List.nodup_nil⟩, fun a ma c mc e => out (by rw [← List.mem_singleton.mp mc, ← e]; exact ma)⟩
          · intro x mx
            rcases List.mem_append.mp mx with mx | mx
            · exact nm x mx
            · rw [List.mem_singleton.mp mx]
              exact nz
        have room : (xs.map V.str).length < sizeLine := by
          rw [List.length_map, len]
          exact small1000 (by omega)
        rw [inV_str]
        by_cases inn : name ∈ xs
        · rw [decide_eq_true inn]
          refine iteF ?_
          refine ⟨.str abc, rfl, abc, rfl, fun D2 nD2 => ?_⟩
          refine lc_it walk_str (fun j H5 => Same H4 H5 ∧ H5 D2 = some (.lst (((((List.range 26).take j).filter fun c => decide (sg (c + 97) ∉ xs)).map fun c => sg (c + 97)).map V.str))) ?_ (fun _ _ _ _ => trivial) ?_ ?_
          · exact ⟨same_new nD2, upd_same⟩
          · rintro j x H5 H6 hj ⟨s5, hD2⟩ ⟨rfl, c, hc, rfl⟩
            have hj26 : j < 26 := by
              rw [abc_size] at hj
              exact hj
            have ec : c = j + 97 := by
              have := abc_at hj26
              rw [Array.getElem?_toList] at this
              exact Option.some.inj (hc.symm.trans this)
            subst ec
            have hp5 := s5 _ _ hp4
            have tk : (List.range 26).take (j + 1) = (List.range 26).take j ++ [j] := by
              rw [List.take_add_one, List.getElem?_range hj26]
              rfl
            refine ⟨rfl, .str (sg (j + 97)), rfl, .ref p, rfl, p, _, rfl, .inl (SqL.of hp5), rfl, flats xs, _, rfl, ?_⟩
            rw [inV_str]
            by_cases isIn : sg (j + 97) ∈ xs
            · rw [decide_eq_true isIn]
              refine iteF ⟨s5, ?_⟩
              rw [hD2, tk, List.filter_append]
              simp [isIn]
            · rw [decide_eq_false isIn]
              refine iteT ⟨.str (sg (j + 97)), rfl, _, hD2, ?_, fun d o e => ?_, ?_⟩
              · rw [List.length_map, List.length_map]
                refine small1000 (Nat.le_trans (List.length_filter_le _ _) ?_)
                rw [List.length_take]
                omega
              · rw [upd_ne (ne_of_none e nD2)]
                exact s5 d o e
              · rw [upd_same, tk, List.filter_append]
                simp [isIn]
          · rintro H5 ⟨s5, hD2⟩
            obtain ⟨c, hc, out⟩ := letter_left xs (by omega)
            have e26 : (List.range 26).take abc.cps.size = List.range 26 := by
              rw [abc_size]
              rfl
            rw [e26] at hD2
            have mem : c ∈ (List.range 26).filter fun c => decide (sg (c + 97) ∉ xs) := List.mem_filter.mpr ⟨List.mem_range.mpr hc, decide_eq_true out⟩
            obtain ⟨d, r, er⟩ : ∃ d r, ((List.range 26).filter fun c => decide (sg (c + 97) ∉ xs)) = d :: r := by
              cases h : ((List.range 26).filter fun c => decide (sg (c + 97) ∉ xs)) with
              | nil => rw [h] at mem; simp at mem
              | cons d r => exact ⟨d, r, rfl⟩
            have hd : d < 26 ∧ sg (d + 97) ∉ xs := by
              have : d ∈ (List.range 26).filter fun c => decide (sg (c + 97) ∉ xs) := by rw [er]; exact List.mem_cons_self
              obtain ⟨m1, m2⟩ := List.mem_filter.mp this
              exact ⟨List.mem_range.mp m1, of_decide_eq_true m2⟩
            rw [er] at hD2
            exact ⟨D2, _, 0, .str (sg (d + 97)), rfl, rfl, SqL.of hD2, atI_nat (j := 0) rfl, p, _, _, rfl, rfl, s5 _ _ hp4, room, xs ++ [sg (d + 97)], _, _, _, _, _, rfl, put _ H5 (sg_nm hd.1) hd.2 s5⟩
        · rw [decide_eq_false inn]
          refine iteT ?_
          exact ⟨.str name, rfl, p, _, _, rfl, rfl, hp4, room, xs ++ [name], _, _, _, _, _, rfl, put name H4 nmN inn (Same.refl _)⟩
    · rintro σ H1 ⟨xs, y4, y5, y6, y7, y8, rfl, B1, K1, h1, len, nd, nm⟩
      exact ⟨.ref p, rfl, q p xs H1 np h1 (by omega) nd nm (B1.more (by omega)) K1⟩
/-- len by a reading over K alone -/
abbrev rLen (K : PySem.W.Frag) : List V → Hp → VK → Prop := fun xs H Q => ∃ p ys, xs = [.ref p] ∧ (SqL K H p ys ∨ SqT K H p ys) ∧ Q (.int ys.length) H
end
end Moot
namespace Moot
open PySem PySem.Spec PyProof.Rows L2
/-! requirements -/
/-- a part: a name, or a count of names -/
abbrev Part := Str ⊕ (Int × List Str)
def PartAt (H : Hp) (v : V) : Part → Prop
  | .inl x => v = .str x
  | .inr (c, ns) => ∃ q p, v = .ref q ∧ H q = some (.tup [.int c, .ref p]) ∧ H p = some (.tup (ns.map V.str))
inductive Parts (H : Hp) : List V → List Part → Prop
  | nil : Parts H [] []
  | cons {v : V} {vs : List V} {p : Part} {ps : List Part} : PartAt H v p → Parts H vs ps → Parts H (v :: vs) (p :: ps)
def ReqAt (H : Hp) (r : Addr) (c : Int) (ps : List Part) : Prop := ∃ p vs, H r = some (.tup [.int c, .ref p]) ∧ H p = some (.tup vs) ∧ Parts H vs ps
/-- tuples stay -/
def Tups (H H' : Hp) : Prop := ∀ a xs, H a = some (.tup xs) → H' a = some (.tup xs)
theorem Same.tups {H H' : Hp} (s : Same H H') : Tups H H' := fun a _ h => s a _ h
theorem Tups.refl (H : Hp) : Tups H H := fun _ _ h => h
theorem Tups.trans {H H1 H2 : Hp} (a : Tups H H1) (b : Tups H1 H2) : Tups H H2 := fun c xs h => b c xs (a c xs h)
theorem Keep.tups {H H' : Hp} {b g m : Addr} {n : Nat} (k : Keep b g H H') (B : Box H b g m n) : Tups H H' := fun a xs h => by
  obtain ⟨x, c, gs, ms, hb, hg, _⟩ := B.ex
  refine k a _ h (fun e => ?_) fun e => ?_
  · rw [e, hb] at h
    cases h
  · rw [e, hg] at h
    cases h
theorem tups_store {H : Hp} {p : Addr} {xs ys : List V} (h : H p = some (.lst xs)) : Tups H (upd H p (.lst ys)) := fun a zs e => by
  rw [upd_ne (fun c => by rw [c, h] at e; cases e)]
  exact e
theorem PartAt.tups {H H' : Hp} {v : V} {p : Part} (h : PartAt H v p) (t : Tups H H') : PartAt H' v p := by
  cases p with
  | inl x => exact h
  | inr y =>
    obtain ⟨c, ns⟩ := y
    obtain ⟨q, p, e, h1, h2⟩ := h
    exact ⟨q, p, e, t _ _ h1, t _ _ h2⟩
theorem Parts.tups {H H' : Hp} {vs : List V} {ps : List Part} (h : Parts H vs ps) (t : Tups H H') : Parts H' vs ps := by
  induction h with
  | nil => exact .nil
  | cons a _ ih => exact .cons (a.tups t) ih
theorem ReqAt.tups {H H' : Hp} {r : Addr} {c : Int} {ps : List Part} (h : ReqAt H r c ps) (t : Tups H H') : ReqAt H' r c ps := by
  obtain ⟨p, vs, h1, h2, h3⟩ := h
  exact ⟨p, vs, t _ _ h1, t _ _ h2, h3.tups t⟩
theorem Parts.length {H : Hp} {vs : List V} {ps : List Part} (h : Parts H vs ps) : vs.length = ps.length := by
  induction h with
  | nil => rfl
  | cons _ _ ih => rw [List.length_cons, List.length_cons, ih]
theorem Parts.at {H : Hp} {vs : List V} {ps : List Part} (h : Parts H vs ps) : ∀ {i : Nat} {v : V}, vs[i]? = some v → ∃ p, ps[i]? = some p ∧ PartAt H v p := by
  induction h with
  | nil => intro i v e; simp at e
  | cons a _ ih =>
    intro i v e
    cases i with
    | zero =>
      cases Option.some.inj e
      exact ⟨_, rfl, a⟩
    | succ i => exact ih (i := i) e
theorem Parts.names {H : Hp} : ∀ ns : List Str, Parts H (ns.map V.str) (ns.map Sum.inl)
  | [] => .nil
  | _ :: ns => .cons rfl (Parts.names ns)
/-- an inner requirement is one -/
theorem PartAt.req {H : Hp} {v : V} {c : Int} {ns : List Str} (h : PartAt H v (.inr (c, ns))) : ∃ q, v = .ref q ∧ ReqAt H q c (ns.map Sum.inl) := by
  obtain ⟨q, p, e, h1, h2⟩ := h
  exact ⟨q, e, p, _, h1, h2, Parts.names ns⟩
/-- the names as they are written -/
def namesOf : List Part → List Str
  | [] => []
  | .inl x :: r => x :: namesOf r
  | .inr (_, ns) :: r => ns ++ namesOf r
theorem namesOf_append : ∀ a b : List Part, namesOf (a ++ b) = namesOf a ++ namesOf b
  | [], _ => rfl
  | .inl x :: a, b => by
    show x :: namesOf (a ++ b) = x :: (namesOf a ++ namesOf b)
    rw [namesOf_append a b]
  | .inr (c, ns) :: a, b => by
    show ns ++ namesOf (a ++ b) = (ns ++ namesOf a) ++ namesOf b
    rw [namesOf_append a b, List.append_assoc]
theorem namesOf_names : ∀ ns : List Str, namesOf (ns.map Sum.inl) = ns
  | [] => rfl
  | x :: ns => by
    show x :: namesOf (ns.map Sum.inl) = x :: ns
    rw [namesOf_names ns]
theorem namesOf_take {ps : List Part} {i : Nat} {p : Part} (h : ps[i]? = some p) : namesOf (ps.take (i + 1)) = namesOf (ps.take i) ++ namesOf [p] := by
  rw [List.take_add_one, h, namesOf_append]
  rfl
theorem namesOf_le (ps : List Part) (i : Nat) : (namesOf (ps.take i)).length ≤ (namesOf ps).length := by
  have e := namesOf_append (ps.take i) (ps.drop i)
  rw [List.take_append_drop] at e
  rw [e, List.length_append]
  omega
/-- which sets satisfy -/
def satP (S : List Str) : Part → Bool
  | .inl x => decide (x ∈ S)
  | .inr (c, ns) => decide (c ≤ ((ns.countP fun x => decide (x ∈ S) : Nat) : Int))
def sat (S : List Str) (c : Int) (ps : List Part) : Bool := decide (c ≤ ((ps.countP (satP S) : Nat) : Int))
theorem sat_names (S : List Str) (c : Int) (ns : List Str) : sat S c (ns.map Sum.inl) = satP S (.inr (c, ns)) := by
  unfold sat
  rw [List.countP_map]
  rfl
/-- only the members count -/
theorem satP_same {S S' : List Str} {p : Part} (h : ∀ x ∈ namesOf [p], x ∈ S ↔ x ∈ S') : satP S p = satP S' p := by
  cases p with
  | inl x =>
    have := h x (List.mem_cons_self)
    show decide _ = decide _
    rw [decide_eq_decide]
    exact this
  | inr y =>
    obtain ⟨c, ns⟩ := y
    have e : ns.countP (fun x => decide (x ∈ S)) = ns.countP (fun x => decide (x ∈ S')) := by
      refine List.countP_congr fun x m => ?_
      rw [decide_eq_true_eq, decide_eq_true_eq]
      exact h x (by show x ∈ ns ++ []; rw [List.append_nil]; exact m)
    show decide _ = decide _
    rw [e]
theorem sat_same {S S' : List Str} {c : Int} {ps : List Part} (h : ∀ x ∈ namesOf ps, x ∈ S ↔ x ∈ S') : sat S c ps = sat S' c ps := by
  have e : ps.countP (satP S) = ps.countP (satP S') := by
    refine List.countP_congr fun p m => ?_
    have : satP S p = satP S' p := satP_same fun x mx => h x (by
      obtain ⟨a, b, rfl⟩ := List.append_of_mem m
      rw [namesOf_append, show p :: b = [p] ++ b from rfl, namesOf_append]
      exact List.mem_append_right _ (List.mem_append_left _ mx))
    rw [this]
  unfold sat
  rw [e]
/-- isinstance(part, str) -/
theorem isi_part {K : PySem.W.Frag} {H : Hp} {v : V} {p : Part} (h : PartAt H v p) : ∃ t : Value, TyX K H v t ∧ PySem.W.kitOne K t (.type "str") = some p.isLeft := by
  cases p with
  | inl x =>
    cases h
    exact ⟨.type "str", .base (.str x), kit_ty (r := true) (by decide +kernel)⟩
  | inr y =>
    obtain ⟨c, ns⟩ := y
    obtain ⟨a, p, rfl, h1, h2⟩ := h
    exact ⟨.type "tuple", .base (.tup h1), kit_ty (r := false) (by decide +kernel)⟩
section
variable {P : Program} {w : World} {K : PySem.W.Frag} {mg : Str → Option Value} {base : Heap}
/-! node_set -/
abbrev sNs : Stmt := top 2
theorem scNs : FnScope ["names"] ["names"] (defScope sNs) := ⟨rfl, rfl, rfl, by decide +kernel, rfl, by decide +kernel, by decide +kernel⟩
def spNs (K : PySem.W.Frag) : Sp := fun vs H Q _ => ∃ (l : Addr) (zs : List Str), vs = [.ref l] ∧ SqL K H l (zs.map V.str) ∧ zs.length < 64 ∧
  ∀ (p : Addr) (ys : List Str) (H' : Hp), Same H H' → H p = none → H' p = some (.tup (ys.map V.str)) → sortedS ys = true → ys.Nodup → (∀ x, x ∈ ys ↔ x ∈ zs) → Q (.ref p) H'
theorem ok_ns {f : Addr} {fd : FuncData} {k : Nat} (F : Fun K "node_set" "node_set" sNs f fd) (mt : mg "tuple" = none) (mso : mg "sorted" = none) (mse : mg "set" = none) : FnOk P w K mg base CX0 (k + 1) f fd ["names"] (spNs K) := by
  refine F.ok scNs (fun vs H Q E h => ?_) (fun cdv A outer s H vs Q E hr h => ?_)
  · obtain ⟨l, zs, rfl, _⟩ := h
    rfl
  · obtain ⟨l, zs, rfl, hl, few, q⟩ := h
    refine ⟨_, pss_one (ps_ret (pe_callTy call_tuple_of (by rfl) mt (by decide +kernel) (pa_cons (pe_callB (cr_txtSorted rfl) (by rfl) mso (by decide +kernel)
      (pa_cons (pe_callTy (cr_txtSet rfl) (by rfl) mse (by decide +kernel) (pa_cons (pv 0) pa_nil)) pa_nil)) pa_nil))), ?_⟩
    refine ⟨.ref l, rfl, l, zs, rfl, hl, few, fun a m na hm => ?_⟩
    refine ⟨a, _, m, rfl, upd_same, by omega, fun ys p srt nd mem len np => ?_⟩
    refine ⟨p, _, rfl, .inl ⟨SqL.of upd_same, fun t nt => ?_⟩⟩
    have s1 := same_new (o := TxtSet P w a (fun k => decide (k ∈ zs)) m) na
    have s2 := same_new (o := .lst (ys.map V.str)) np
    have s3 := same_new (o := .tup (ys.map V.str)) nt
    exact q t ys _ ((s1.trans s2).trans s3) ((s1.trans s2).free nt) upd_same srt nd fun x => (mem x).trans (by simp)
end
end Moot
namespace Moot
open PySem PySem.Spec PyProof.Rows L2
/-- a set of names, as a list or a tuple -/
def NodesAt (K : PySem.W.Frag) (H : Hp) (p : Addr) (S : List Str) : Prop := SqL K H p (S.map V.str) ∨ SqT K H p (S.map V.str)
theorem Same.seqT {K : PySem.W.Frag} {H H' : Hp} {a : Addr} {xs : List V} (e : Same H H') (h : SqT K H a xs) : SqT K H' a xs := by
  rcases h with (h | ⟨o, h⟩) | h
  · exact .inl (.inl (e _ _ h))
  · exact .inl (.inr ⟨o, e _ _ h⟩)
  · exact .inr h
theorem NodesAt.same {K : PySem.W.Frag} {H H' : Hp} {p : Addr} {S : List Str} (h : NodesAt K H p S) (s : Same H H') : NodesAt K H' p S := h.imp (Same.seq s) (Same.seqT s)
/-- what the built-in names are -/
structure Blt (mg : Str → Option Value) : Prop where
  isi : mg "isinstance" = none
  str : mg "str" = none
  len : mg "len" = none
  tup : mg "tuple" = none
  lst : mg "list" = none
  srt : mg "sorted" = none
  set : mg "set" = none
  rng : mg "range" = none
  int : mg "int" = none
  bool : mg "bool" = none
  sum : mg "sum" = none
  min : mg "min" = none
  max : mg "max" = none
section
variable {P : Program} {w : World} {K : PySem.W.Frag} {mg : Str → Option Value} {base : Heap}
theorem fn_none {CX : CXT} {f : Addr} {fd : FuncData} {ps : List Str} {sp : Sp} (k : Nat) (h : ∀ vs H Q E, ¬ sp vs H Q E) : FnOk P w K mg base CX k f fd ps sp :=
  ⟨fun vs H Q E y => absurd y (h vs H Q E), fun _ _ _ H _ _ vs Q E _ _ _ _ y => absurd y (h vs H Q E)⟩
/-! names_with_repetition -/
abbrev sNwr : Stmt := top 15
abbrev nNwr : List Str := ["requirement", "names", "part"]
theorem scNwr : FnScope nNwr ["requirement"] (defScope sNwr) := ⟨rfl, rfl, rfl, by decide +kernel, rfl, by decide +kernel, by decide +kernel⟩
def spNwr (D : List Part → Prop) : Sp := fun vs H Q _ => ∃ (r : Addr) (c : Int) (ps : List Part), vs = [.ref r] ∧ ReqAt H r c ps ∧ D ps ∧ (namesOf ps).length ≤ 1000 ∧
  ∀ (p : Addr) (H' : Hp), Same H H' → H p = none → H' p = some (.lst ((namesOf ps).map V.str)) → Q (.ref p) H'
theorem ok_nwr {D0 D : List Part → Prop} {f : Addr} {fd : FuncData} {k : Nat} (F : Fun K "names_with_repetition" "names_with_repetition" sNwr f fd) (bN : Binds K fd ["requirement"] []) (gN : mg "names_with_repetition" = some (.ref f)) (T : Blt mg)
    (G : FnOk P w K mg base CX0 k f fd ["requirement"] (spNwr D0)) (imp : ∀ ps, D ps → ∀ c ns, Sum.inr (c, ns) ∈ ps → D0 (ns.map Sum.inl)) : FnOk P w K mg base CX0 (k + 1) f fd ["requirement"] (spNwr D) := by
  refine F.ok scNwr (fun vs H Q E h => ?_) (fun cdv A outer s H vs Q E hr h => ?_)
  · obtain ⟨r, c, ps, rfl, _⟩ := h
    rfl
  · obtain ⟨r, c, ps, rfl, R, hD, few, q⟩ := h
    refine ⟨_, pss_cons (ps_set (i := 1) scNwr.nd rfl (Or.inl rfl) (pe_lst pa_nil))
      (pss_cons (ps_for PassesOwn.never rfl (pi_tup (pe_ix ix_tup (pv 0) pe_int (fun _ _ => rfl))) (pg_name (i := 2) scNwr.nd rfl (Or.inl rfl))
        (pss_one (ps_if (pt_val (pe_callB call_isi (by rfl) T.isi (by decide +kernel) (pa_cons (pv 2) (pa_cons (pe_bltn (v := .ty "str") (by rfl) T.str (by decide +kernel) rfl) pa_nil))))
          (pss_one (ps_expr (pe_bm PySem.F.plainAttrs_list PySem.F.slot_list_append PySem.F.type_list_append mt_append (pv 1) (pa_cons (pv 2) pa_nil))))
          (pss_one (ps_expr (pe_bm PySem.F.plainAttrs_list PySem.F.slot_list_extend PySem.F.type_list_extend mt_extend (pv 1) (pa_cons (pe_call G hr (by rfl) gN F.kp bN .nil pass0 (pa_cons (pv 2) pa_nil)) pa_nil)))))))
      (pss_one (ps_ret (pv 1)))), ?_⟩
    obtain ⟨pp, vs, hr1, hp1, PS⟩ := R
    refine ⟨Nat.zero_le _, fun l nl => ?_⟩
    have s1 : Same H (upd H l (.lst [])) := same_new nl
    refine ⟨.ref r, rfl, r, _, 1, .ref pp, rfl, rfl, SqT.of (s1 _ _ hr1), atI_nat (j := 1) rfl, pp, rfl, ⟨_, SqT.of (s1 _ _ hp1)⟩, for_tup (K := K) (a := pp) (xs := vs) (fun i σ H1 => ∃ y2 : Option V, σ = [some (.ref r), some (.ref l), y2] ∧
      Same H H1 ∧ H1 l = some (.lst ((namesOf (ps.take i)).map V.str))) ⟨none, rfl, s1, upd_same⟩ (fun i σ H1 _ ⟨_, _, s2, _⟩ => SqT.of (s2 _ _ hp1)) ?_ ?_⟩
    · rintro i x σ H1 hx ⟨y2, rfl, s2, h1⟩
      obtain ⟨p, hp, pa⟩ := PS.at hx
      have pa1 := pa.tups (Same.tups s2)
      have e := namesOf_take hp
      have le := namesOf_le ps (i + 1)
      have le0 := namesOf_le ps i
      obtain ⟨ty, ty1, ty2⟩ := isi_part (K := K) pa1
      refine ⟨x, rfl, _, _, ty, .type "str", _, rfl, .ty _, ty1, ty2, _, rfl, ?_⟩
      cases p with
      | inl z =>
        cases pa
        refine iteT ⟨.ref l, rfl, .inl ⟨rfl, _, SqL.of h1⟩, .str z, rfl, l, _, _, rfl, rfl, h1, ?_, _, rfl, fun d o c => ?_, ?_⟩
        · rw [List.length_map]
          exact small1000 (by omega)
        · rw [upd_ne (ne_of_none c nl)]
          exact s2 d o c
        · rw [upd_same, e, List.map_append]
          rfl
      | inr y =>
        obtain ⟨c', ns⟩ := y
        obtain ⟨q', rfl, R'⟩ := pa1.req
        have mem : Sum.inr (c', ns) ∈ ps := List.mem_of_getElem? hp
        have en : namesOf (ns.map Sum.inl) = ns := namesOf_names ns
        have e1 : namesOf [(Sum.inr (c', ns) : Part)] = ns := List.append_nil ns
        rw [e1] at e
        have lens := congrArg List.length e
        rw [List.length_append] at lens
        refine iteF ⟨.ref l, rfl, .inl ⟨rfl, _, SqL.of h1⟩, .ref q', rfl, q', c', ns.map Sum.inl, rfl, R', imp ps hD c' ns mem, by rw [en]; omega, fun p2 H2 s3 np2 h2 => ?_⟩
        rw [en] at h2
        refine ⟨l, p2, _, _, rfl, rfl, s3 _ _ h1, h2, ?_, _, rfl, fun d o c => ?_, ?_⟩
        · rw [List.length_map, List.length_map]
          exact Nat.le_of_lt (small1000 (by omega))
        · rw [upd_ne (ne_of_none c nl)]
          exact s3 _ _ (s2 d o c)
        · rw [upd_same, e, List.map_append]
    · rintro σ H1 ⟨y2, rfl, s2, h1⟩
      rw [PS.length, List.take_length] at h1
      exact ⟨.ref l, rfl, q l H1 s2 nl h1⟩
/-! names_in -/
abbrev sNin : Stmt := top 16
theorem scNin : FnScope ["requirement"] ["requirement"] (defScope sNin) := ⟨rfl, rfl, rfl, by decide +kernel, rfl, by decide +kernel, by decide +kernel⟩
def spNin : Sp := fun vs H Q _ => ∃ (r : Addr) (c : Int) (ps : List Part), vs = [.ref r] ∧ ReqAt H r c ps ∧ (namesOf ps).length < 64 ∧
  ∀ (p : Addr) (ys : List Str) (H' : Hp), Same H H' → H p = none → H' p = some (.tup (ys.map V.str)) → sortedS ys = true → ys.Nodup → (∀ x, x ∈ ys ↔ x ∈ namesOf ps) → Q (.ref p) H'
theorem ok_nin {f fN fW : Addr} {fd fdN fdW : FuncData} {k : Nat} (F : Fun K "names_in" "names_in" sNin f fd) (FN : Fun K "node_set" "node_set" sNs fN fdN) (bN : Binds K fdN ["names"] []) (gN : mg "node_set" = some (.ref fN))
    (FW : Fun K "names_with_repetition" "names_with_repetition" sNwr fW fdW) (bW : Binds K fdW ["requirement"] []) (gW : mg "names_with_repetition" = some (.ref fW)) (GN : FnOk P w K mg base CX0 k fN fdN ["names"] (spNs K)) (GW : FnOk P w K mg base CX0 k fW fdW ["requirement"] (spNwr fun _ => True)) :
    FnOk P w K mg base CX0 (k + 1) f fd ["requirement"] spNin := by
  refine F.ok scNin (fun vs H Q E h => ?_) (fun cdv A outer s H vs Q E hr h => ?_)
  · obtain ⟨r, c, ps, rfl, _⟩ := h
    rfl
  · obtain ⟨r, c, ps, rfl, R, few, q⟩ := h
    refine ⟨_, pss_one (ps_ret (pe_call GN hr (by rfl) gN FN.kp bN .nil pass0 (pa_cons (pe_call GW hr (by rfl) gW FW.kp bW .nil pass0 (pa_cons (pv 0) pa_nil)) pa_nil))), ?_⟩
    refine ⟨.ref r, rfl, r, c, ps, rfl, R, trivial, by omega, fun l H1 s1 nl h1 => ?_⟩
    exact ⟨l, _, rfl, SqL.of h1, few, fun p ys H2 s2 np h2 a1 a2 a3 => q p ys H2 (s1.trans s2) (s1.free np) h2 a1 a2 a3⟩
/-! satisfies_part -/
abbrev sSp : Stmt := top 17
theorem scSp : FnScope ["part", "nodes"] ["part", "nodes"] (defScope sSp) := ⟨rfl, rfl, rfl, by decide +kernel, rfl, by decide +kernel, by decide +kernel⟩
def spSp (K : PySem.W.Frag) (D : Part → Prop) : Sp := fun vs H Q _ => ∃ (v : V) (p : Part) (np : Addr) (S : List Str), vs = [v, .ref np] ∧ PartAt H v p ∧ D p ∧ NodesAt K H np S ∧ ∀ H', Same H H' → Q (.bl (satP S p)) H'
def spSat (K : PySem.W.Frag) (D : List Part → Prop) : Sp := fun vs H Q _ => ∃ (r : Addr) (c : Int) (ps : List Part) (np : Addr) (S : List Str), vs = [.ref r, .ref np] ∧ ReqAt H r c ps ∧ D ps ∧ ps.length ≤ 1000 ∧ NodesAt K H np S ∧ ∀ H', Same H H' → Q (.bl (sat S c ps)) H'
abbrev sSat : Stmt := top 18
theorem ok_sp {D0 : List Part → Prop} {D : Part → Prop} {f fS : Addr} {fd fdS : FuncData} {k : Nat} (F : Fun K "satisfies_part" "satisfies_part" sSp f fd) (FS : Fun K "satisfies" "satisfies" sSat fS fdS) (bS : Binds K fdS ["requirement", "nodes"] []) (gS : mg "satisfies" = some (.ref fS)) (T : Blt mg)
    (G : FnOk P w K mg base CX0 k fS fdS ["requirement", "nodes"] (spSat K D0)) (imp : ∀ c ns, D (.inr (c, ns)) → D0 (ns.map Sum.inl) ∧ ns.length ≤ 1000) : FnOk P w K mg base CX0 (k + 1) f fd ["part", "nodes"] (spSp K D) := by
  refine F.ok scSp (fun vs H Q E h => ?_) (fun cdv A outer s H vs Q E hr h => ?_)
  · obtain ⟨v, p, np, S, rfl, _⟩ := h
    rfl
  · obtain ⟨v, p, np, S, rfl, pa, hD, N, q⟩ := h
    refine ⟨_, pss_cons (ps_if (pt_val (pe_callB call_isi (by rfl) T.isi (by decide +kernel) (pa_cons (pv 0) (pa_cons (pe_bltn (v := .ty "str") (by rfl) T.str (by decide +kernel) rfl) pa_nil))))
        (pss_one (ps_ret (pe_cmpR op_in_seq (pv 0) (pv 1) (by rfl)))) pss_nil)
      (pss_one (ps_ret (pe_call G hr (by rfl) gS FS.kp bS .nil pass0 (pa_cons (pv 0) (pa_cons (pv 1) pa_nil))))), ?_⟩
    obtain ⟨ty, ty1, ty2⟩ := isi_part (K := K) pa
    refine ⟨v, rfl, _, _, ty, .type "str", _, rfl, .ty _, ty1, ty2, _, rfl, ?_⟩
    cases p with
    | inl z =>
      cases pa
      refine iteT ⟨.str z, rfl, .ref np, rfl, np, _, rfl, N, rfl, flats S, ?_⟩
      have e : inV (.str z) (S.map V.str) = satP S (.inl z) := inV_str z S
      rw [if_neg Bool.false_ne_true, e]
      exact q H (Same.refl H)
    | inr y =>
      obtain ⟨c, ns⟩ := y
      obtain ⟨r, rfl, R⟩ := pa.req
      obtain ⟨i1, i2⟩ := imp c ns hD
      refine iteF ⟨.ref r, rfl, .ref np, rfl, r, c, _, np, S, rfl, R, i1, by rw [List.length_map]; exact i2, N, fun H' s' => ?_⟩
      rw [sat_names]
      exact q H' s'
/-! satisfies -/
abbrev nSat : List Str := ["requirement", "nodes", "count", "parts", "satisfied", "part"]
theorem scSat : FnScope nSat ["requirement", "nodes"] (defScope sSat) := ⟨rfl, rfl, rfl, by decide +kernel, rfl, by decide +kernel, by decide +kernel⟩
theorem ok_sat {D0 : Part → Prop} {D : List Part → Prop} {f fP : Addr} {fd fdP : FuncData} {k : Nat} (F : Fun K "satisfies" "satisfies" sSat f fd) (FP : Fun K "satisfies_part" "satisfies_part" sSp fP fdP) (bP : Binds K fdP ["part", "nodes"] []) (gP : mg "satisfies_part" = some (.ref fP)) (T : Blt mg)
    (G : FnOk P w K mg base CX0 k fP fdP ["part", "nodes"] (spSp K D0)) (imp : ∀ ps, D ps → ∀ p ∈ ps, D0 p) : FnOk P w K mg base CX0 (k + 1) f fd ["requirement", "nodes"] (spSat K D) := by
  refine F.ok scSat (fun vs H Q E h => ?_) (fun cdv A outer s H vs Q E hr h => ?_)
  · obtain ⟨r, c, ps, np, S, rfl, _⟩ := h
    rfl
  · obtain ⟨r, c, ps, np, S, rfl, R, hD, few, N, q⟩ := h
    refine ⟨_, pss_cons (ps_asg (pv 0) (pg_tup (by rfl) (pgs_cons (pg_name (i := 2) scSat.nd rfl (Or.inl rfl)) (pgs_cons (pg_name (i := 3) scSat.nd rfl (Or.inl rfl)) pgs_nil))))
      (pss_cons (ps_setLc (i := 4) (own := [("part", 5)]) (g := gName 5) (by rfl) scSat.nd rfl rfl (sw_true rfl rfl rfl (by decide +kernel)) (pi_tup (pv 3)) (blkOk_by (N := nSat) (sc := defScope sSat) (by decide +kernel))
        (fun _ _ _ _ _ => pg_name (i := 5) scSat.nd rfl (Or.inl rfl)) (fun _ _ _ _ _ => pts_one (pt_val (pe_call G hr (by rfl) gP FP.kp bP .nil pass0 (pa_cons (pv 5) (pa_cons (pv 1) pa_nil))))) (fun _ _ _ _ _ => pv 5))
      (pss_one (ps_ret (pe_cmpR op_ge (pe_callB call_len_seq (by rfl) T.len PySem.boot_len (pa_cons (pv 4) pa_nil)) (pv 2) (nomark _))))), ?_⟩
    obtain ⟨pp, vs, hr1, hp1, PS⟩ := R
    refine ⟨.ref r, rfl, r, _, rfl, SqT.of hr1, rfl, _, _, rfl, _, _, rfl, rfl, ?_⟩
    refine ⟨.ref pp, rfl, pp, rfl, ⟨_, SqT.of hp1⟩, fun l nl => lc_tup (K := K) (a := pp) (xs := vs) (fun i H1 => Same H H1 ∧ ∃ us : List V, H1 l = some (.lst us) ∧ us.length = (ps.take i).countP (satP S)) ?_ (fun i H1 _ h => SqT.of (h.1 _ _ hp1)) ?_ ?_⟩
    · exact ⟨same_new nl, [], upd_same, rfl⟩
    · rintro i x H1 hx ⟨s1, us, h1, hl⟩
      obtain ⟨p, hp, pa⟩ := PS.at hx
      have tk : (ps.take (i + 1)).countP (satP S) = (ps.take i).countP (satP S) + (if satP S p = true then 1 else 0) := by
        rw [List.take_add_one, hp, List.countP_append]
        show _ + List.countP (satP S) [p] = _
        rw [List.countP_singleton]
      have le : (ps.take i).countP (satP S) ≤ 1000 := by
        refine Nat.le_trans List.countP_le_length ?_
        rw [List.length_take]
        omega
      refine ⟨rfl, x, rfl, .ref np, rfl, x, p, np, S, rfl, pa.tups (Same.tups s1), imp ps hD p (List.mem_of_getElem? hp), N.same s1, fun H2 s2 => ⟨_, rfl, ?_⟩⟩
      cases c' : satP S p with
      | true =>
        rw [c', if_pos rfl] at tk
        refine iteT ⟨x, rfl, us, s2 _ _ h1, small1000 (by omega), fun d o e => ?_, us ++ [x], upd_same, ?_⟩
        · rw [upd_ne (ne_of_none e nl)]
          exact s2 _ _ (s1 d o e)
        · rw [List.length_append, hl, tk]
          rfl
      | false =>
        rw [c', if_neg Bool.false_ne_true] at tk
        exact iteF ⟨s1.trans s2, us, s2 _ _ h1, by rw [hl, tk]; rfl⟩
    · rintro H1 ⟨s1, us, h1, hl⟩
      rw [PS.length, List.take_length] at hl
      refine ⟨.ref l, rfl, l, us, rfl, .inl (SqL.of h1), .int c, rfl, _, _, rfl, rfl, ?_⟩
      rw [hl]
      exact q H1 s1
end
end Moot
namespace Moot
open PySem PySem.Spec PyProof.Rows L2
/-- the names that are left -/
def outs (S : List Str) (ps : List Part) : List Str := (namesOf ps).filter fun x => decide (x ∉ S)
def blk (S : List Str) (c : Int) (ps : List Part) : Bool := !sat (outs S ps) c ps
theorem sat_outs {S zs : List Str} {c : Int} {ps : List Part} (h : ∀ x, x ∈ zs ↔ x ∈ namesOf ps) : sat (zs.filter fun x => decide (x ∉ S)) c ps = sat (outs S ps) c ps := by
  refine sat_same fun x _ => ?_
  unfold outs
  rw [List.mem_filter, List.mem_filter, h x]
/-- every inner one is short -/
def Short (ps : List Part) : Prop := ∀ c ns, Sum.inr (c, ns) ∈ ps → ns.length ≤ 1000
def ShortP (p : Part) : Prop := ∀ c ns, p = .inr (c, ns) → ns.length ≤ 1000
theorem Short.p {ps : List Part} (h : Short ps) : ∀ p ∈ ps, ShortP p := fun p m c ns e => h c ns (e ▸ m)
def AllNames (ps : List Part) : Prop := ∀ p ∈ ps, p.isLeft = true
theorem allNames (ns : List Str) : AllNames (ns.map Sum.inl) := fun p m => by
  obtain ⟨x, _, rfl⟩ := List.mem_map.mp m
  rfl
theorem nodup_le : ∀ {l D : List Str}, l.Nodup → (∀ y ∈ l, y ∈ D) → l.length ≤ D.length
  | [], _, _, _ => Nat.zero_le _
  | y :: l, D, n, s => by
    obtain ⟨n1, n2⟩ := List.nodup_cons.mp n
    have my := s y List.mem_cons_self
    have := nodup_le (D := D.erase y) n2 fun z mz => (List.mem_erase_of_ne fun (e : z = y) => n1 (e ▸ mz)).mpr (s z (List.mem_cons_of_mem _ mz))
    have e := List.length_erase_of_mem my
    have := List.length_pos_of_mem my
    rw [List.length_cons]
    omega
section
variable {P : Program} {w : World} {K : PySem.W.Frag} {mg : Str → Option Value} {base : Heap}
/-- satisfies, for all requirements -/
theorem ok_sat_all {f fP : Addr} {fd fdP : FuncData} (F : Fun K "satisfies" "satisfies" sSat f fd) (b : Binds K fd ["requirement", "nodes"] []) (g : mg "satisfies" = some (.ref f)) (FP : Fun K "satisfies_part" "satisfies_part" sSp fP fdP) (bP : Binds K fdP ["part", "nodes"] []) (gP : mg "satisfies_part" = some (.ref fP)) (T : Blt mg) :
    FnOk P w K mg base CX0 4 f fd ["requirement", "nodes"] (spSat K Short) := by
  have g0 : FnOk P w K mg base CX0 0 f fd ["requirement", "nodes"] (spSat K fun _ => False) := fn_none 0 fun vs H Q E ⟨r, c, ps, np, S, _, _, h, _⟩ => h
  have g1 : FnOk P w K mg base CX0 1 fP fdP ["part", "nodes"] (spSp K fun p => p.isLeft = true) := ok_sp FP F b g T g0 fun c ns h => by cases h
  have g2 : FnOk P w K mg base CX0 2 f fd ["requirement", "nodes"] (spSat K AllNames) := ok_sat F FP bP gP T g1 fun ps h => h
  have g3 : FnOk P w K mg base CX0 3 fP fdP ["part", "nodes"] (spSp K ShortP) := ok_sp FP F b g T g2 fun c ns h => ⟨allNames ns, h c ns rfl⟩
  exact ok_sat F FP bP gP T g3 fun ps h => h.p
/-- names_with_repetition, for all -/
theorem ok_nwr_all {f : Addr} {fd : FuncData} (F : Fun K "names_with_repetition" "names_with_repetition" sNwr f fd) (b : Binds K fd ["requirement"] []) (g : mg "names_with_repetition" = some (.ref f)) (T : Blt mg) : FnOk P w K mg base CX0 2 f fd ["requirement"] (spNwr fun _ => True) := by
  have g0 : FnOk P w K mg base CX0 0 f fd ["requirement"] (spNwr fun _ => False) := fn_none 0 fun vs H Q E ⟨r, c, ps, _, _, h, _⟩ => h
  have g1 : FnOk P w K mg base CX0 1 f fd ["requirement"] (spNwr AllNames) := ok_nwr F b g T g0 fun ps h c ns m => by
    have := h _ m
    cases this
  exact ok_nwr F b g T g1 fun ps _ c ns m => allNames ns
end
end Moot
namespace Moot
open PySem PySem.Spec PyProof.Rows L2
section
variable {P : Program} {w : World} {K : PySem.W.Frag} {mg : Str → Option Value} {base : Heap}
/-! _law_satisfies -/
abbrev sLsat : Stmt := top 44
abbrev nLsat : List Str := ["_law_requirement", "_law_nodes", "_law_many", "_law_part"]
theorem scLsat : FnScope nLsat ["_law_requirement", "_law_nodes"] (defScope sLsat) := ⟨rfl, rfl, rfl, by decide +kernel, rfl, by decide +kernel, by decide +kernel⟩
theorem ok_lsat {D0 D : List Part → Prop} {f : Addr} {fd : FuncData} {k : Nat} (F : Fun K "_law_satisfies" "_law_satisfies" sLsat f fd) (b : Binds K fd ["_law_requirement", "_law_nodes"] []) (g : mg "_law_satisfies" = some (.ref f)) (T : Blt mg)
    (G : FnOk P w K mg base CX0 k f fd ["_law_requirement", "_law_nodes"] (spSat K D0)) (imp : ∀ ps, D ps → ∀ c ns, Sum.inr (c, ns) ∈ ps → D0 (ns.map Sum.inl) ∧ ns.length ≤ 1000) : FnOk P w K mg base CX0 (k + 1) f fd ["_law_requirement", "_law_nodes"] (spSat K D) := by
  refine F.ok scLsat (fun vs H Q E h => ?_) (fun cdv A outer s H vs Q E hr h => ?_)
  · obtain ⟨r, c, ps, np, S, rfl, _⟩ := h
    rfl
  · obtain ⟨r, c, ps, np, S, rfl, R, hD, few, N, q⟩ := h
    refine ⟨_, pss_cons (ps_set (i := 2) scLsat.nd rfl (Or.inl rfl) pe_int)
      (pss_cons (ps_for PassesOwn.never rfl (pi_tup (pe_ix ix_tup (pv 0) pe_int (fun _ _ => rfl))) (pg_name (i := 3) scLsat.nd rfl (Or.inl rfl))
        (pss_one (ps_set (i := 2) scLsat.nd rfl (Or.inl rfl) (pe_op op_add (pv 2) (pe_callTy call_int1 (by rfl) T.int (by decide +kernel) (pa_cons
          (pe_ifExp (pt_val (pe_callB call_isi (by rfl) T.isi (by decide +kernel) (pa_cons (pv 3) (pa_cons (pe_bltn (v := .ty "str") (by rfl) T.str (by decide +kernel) rfl) pa_nil))))
            (pe_cmpR op_in_seq (pv 3) (pv 1) (by rfl)) (pe_call G hr (by rfl) g F.kp b .nil pass0 (pa_cons (pv 3) (pa_cons (pv 1) pa_nil)))) pa_nil))))))
      (pss_one (ps_ret (pe_cmpR op_ge (pv 2) (pe_ix ix_tup (pv 0) pe_int (fun _ _ => rfl)) (nomark _))))), ?_⟩
    obtain ⟨pp, vs, hr1, hp1, PS⟩ := R
    refine ⟨.ref r, rfl, r, _, 1, .ref pp, rfl, rfl, SqT.of hr1, atI_nat (j := 1) rfl, pp, rfl, ⟨_, SqT.of hp1⟩, for_tup (K := K) (a := pp) (xs := vs) (fun i σ H1 => ∃ y3 : Option V, σ = [some (.ref r), some (.ref np), some (.int ((ps.take i).countP (satP S) : Nat)), y3] ∧ Same H H1)
      ⟨none, rfl, Same.refl H⟩ (fun i σ H1 _ ⟨_, _, s2⟩ => SqT.of (s2 _ _ hp1)) ?_ ?_⟩
    · rintro i x σ H1 hx ⟨y3, rfl, s1⟩
      obtain ⟨p, hp, pa⟩ := PS.at hx
      have pa1 := pa.tups (Same.tups s1)
      obtain ⟨ty, ty1, ty2⟩ := isi_part (K := K) pa1
      have tk : (ps.take (i + 1)).countP (satP S) = (ps.take i).countP (satP S) + (if satP S p = true then 1 else 0) := by
        rw [List.take_add_one, hp, List.countP_append]
        show _ + List.countP (satP S) [p] = _
        rw [List.countP_singleton]
      have tkI : ((ps.take i).countP (satP S) : Nat) + (if satP S p = true then (1 : Int) else 0) = (((ps.take (i + 1)).countP (satP S) : Nat) : Int) := by
        rw [tk]
        split <;> simp
      refine ⟨_, rfl, x, rfl, _, _, ty, .type "str", _, rfl, .ty _, ty1, ty2, _, rfl, ?_⟩
      cases p with
      | inl z =>
        cases pa
        refine iteT ⟨.str z, rfl, .ref np, rfl, np, _, rfl, N.same s1, rfl, flats S, .inr ⟨_, rfl, _, _, rfl, rfl, some (.str z), ?_, s1⟩⟩
        have e : inV (.str z) (S.map V.str) = satP S (.inl z) := inV_str z S
        rw [if_neg Bool.false_ne_true, e]
        show ([some (.ref r), some (.ref np), some (.int (((ps.take i).countP (satP S) : Nat) + (if satP S (.inl z) = true then (1 : Int) else 0))), some (.str z)] : List (Option V)) = _
        rw [tkI]
      | inr y =>
        obtain ⟨c', ns⟩ := y
        obtain ⟨a, rfl, R'⟩ := pa1.req
        obtain ⟨i1, i2⟩ := imp ps hD c' ns (List.mem_of_getElem? hp)
        refine iteF ⟨.ref a, rfl, .ref np, rfl, a, c', _, np, S, rfl, R', i1, by rw [List.length_map]; exact i2, N.same s1, fun H2 s2 => .inr ⟨_, rfl, _, _, rfl, rfl, some (.ref a), ?_, s1.trans s2⟩⟩
        rw [sat_names]
        show ([some (.ref r), some (.ref np), some (.int (((ps.take i).countP (satP S) : Nat) + (if satP S (.inr (c', ns)) = true then (1 : Int) else 0))), some (.ref a)] : List (Option V)) = _
        rw [tkI]
    · rintro σ H1 ⟨y3, rfl, s1⟩
      refine ⟨_, rfl, .ref r, rfl, r, _, 0, .int c, rfl, rfl, SqT.of (s1 _ _ hr1), atI_nat (j := 0) rfl, _, _, rfl, rfl, ?_⟩
      rw [PS.length, List.take_length]
      exact q H1 s1
theorem ok_lsat_all {f : Addr} {fd : FuncData} (F : Fun K "_law_satisfies" "_law_satisfies" sLsat f fd) (b : Binds K fd ["_law_requirement", "_law_nodes"] []) (g : mg "_law_satisfies" = some (.ref f)) (T : Blt mg) : FnOk P w K mg base CX0 2 f fd ["_law_requirement", "_law_nodes"] (spSat K Short) := by
  have g0 : FnOk P w K mg base CX0 0 f fd ["_law_requirement", "_law_nodes"] (spSat K fun _ => False) := fn_none 0 fun vs H Q E ⟨r, c, ps, np, S, _, _, h, _⟩ => h
  have g1 : FnOk P w K mg base CX0 1 f fd ["_law_requirement", "_law_nodes"] (spSat K AllNames) := ok_lsat F b g T g0 fun ps h c ns m => by
    have := h _ m
    cases this
  exact ok_lsat F b g T g1 fun ps h c ns m => ⟨allNames ns, h c ns m⟩
end
end Moot
namespace Moot
open PySem PySem.Spec PyProof.Rows L2
/-! sets of names, certificates -/
theorem nd_len {α : Type} [DecidableEq α] : ∀ (l D : List α), l.Nodup → (∀ y ∈ l, y ∈ D) → l.length ≤ D.length
  | [], _, _, _ => Nat.zero_le _
  | y :: l, D, n, s => by
    obtain ⟨n1, n2⟩ := List.nodup_cons.mp n
    have my := s y List.mem_cons_self
    have := nd_len l (D.erase y) n2 fun z mz => (List.mem_erase_of_ne fun (e : z = y) => n1 (e ▸ mz)).mpr (s z (List.mem_cons_of_mem _ mz))
    have e := List.length_erase_of_mem my
    have := List.length_pos_of_mem my
    rw [List.length_cons]
    omega
/-! one sorted list of the same names -/
theorem lt_tr {a b c : List Nat} (h1 : ltCps b a = false) (h2 : ltCps c b = false) : ltCps c a = false := by
  rw [ltCps_eq] at h1 h2 ⊢
  have h1' : ¬ b < a := of_decide_eq_false h1
  have h2' : ¬ c < b := of_decide_eq_false h2
  exact decide_eq_false (List.not_lt.mpr (List.le_trans (List.not_lt.mp h1') (List.not_lt.mp h2')))
theorem rising_all : ∀ {r : List Str} {x : Str}, risingS x r = true → (∀ y ∈ r, ltCps y.cps.toList x.cps.toList = false) ∧ r.Pairwise fun a b => ltCps b.cps.toList a.cps.toList = false
  | [], _, _ => ⟨fun y m => by simp at m, List.Pairwise.nil⟩
  | z :: r, x, h => by
    have h' : (!ltCps z.cps.toList x.cps.toList && risingS z r) = true := h
    rw [Bool.and_eq_true, Bool.not_eq_true'] at h'
    obtain ⟨a, b⟩ := rising_all h'.2
    refine ⟨fun y m => ?_, List.pairwise_cons.mpr ⟨a, b⟩⟩
    rcases List.mem_cons.mp m with e | m
    · rw [e]
      exact h'.1
    · exact lt_tr h'.1 (a y m)
theorem sorted_pairs {l : List Str} (h : sortedS l = true) : l.Pairwise fun a b => ltCps b.cps.toList a.cps.toList = false := by
  cases l with
  | nil => exact List.Pairwise.nil
  | cons x r => exact List.pairwise_cons.mpr (rising_all h)
abbrev Srt (L : List Str) : Prop := L.Pairwise fun a b => ltCps b.cps.toList a.cps.toList = false
theorem srt_one {a b : List Str} (ha : Srt a) (na : a.Nodup) (hb : Srt b) (nb : b.Nodup) (h : ∀ x, x ∈ a ↔ x ∈ b) : a = b := by
  refine List.Perm.eq_of_pairwise (fun x y _ _ h1 h2 => ?_) ha hb ((List.perm_ext_iff_of_nodup na nb).mpr h)
  rw [ltCps_eq] at h1 h2
  have h1' : ¬ y.cps.toList < x.cps.toList := of_decide_eq_false h1
  have h2' : ¬ x.cps.toList < y.cps.toList := of_decide_eq_false h2
  have e := List.le_antisymm (List.not_lt.mp h1') (List.not_lt.mp h2')
  rcases x with ⟨x⟩
  rcases y with ⟨y⟩
  have : x = y := Array.toList_inj.mp e
  rw [this]
/-- how many of xs are in S -/
def cnt (xs S : List Str) : Nat := xs.countP fun x => decide (x ∈ S)
theorem cnt_perm {xs ys S : List Str} (h : ys.Perm xs) : cnt ys S = cnt xs S := h.countP_eq _
theorem cnt_len {xs S : List Str} (nx : xs.Nodup) (nS : S.Nodup) (h : ∀ x ∈ S, x ∈ xs) : cnt xs S = S.length := by
  unfold cnt
  rw [List.countP_eq_length_filter]
  have a := nd_len (xs.filter fun x => decide (x ∈ S)) S (nx.filter _) fun y my => of_decide_eq_true (List.mem_filter.mp my).2
  have b := nd_len S (xs.filter fun x => decide (x ∈ S)) nS fun y my => List.mem_filter.mpr ⟨h y my, decide_eq_true my⟩
  omega
/-- a set of nodes outside F, written in order -/
structure Hon (xs F L : List Str) : Prop where
  srt : Srt L
  nd : L.Nodup
  inn : ∀ x ∈ L, x ∈ xs
  out : ∀ x ∈ L, x ∉ F
theorem cnt_hon {xs F L : List Str} (nx : xs.Nodup) (nF : F.Nodup) (hF : ∀ x ∈ F, x ∈ xs) (h : Hon xs F L) : cnt xs (L ++ F) = L.length + F.length := by
  rw [cnt_len nx (List.nodup_append.mpr ⟨h.nd, nF, fun a ma b mb e => h.out a ma (e ▸ mb)⟩) fun x mx => (List.mem_append.mp mx).elim (h.inn x) (hF x), List.length_append]
def okL (c : Int) (f : Nat) (L : List Str) : Bool := !L.isEmpty && decide (c ≤ (L.length : Int) + (f : Int))
theorem okL_iff {c : Int} {f : Nat} {L : List Str} : okL c f L = true ↔ L ≠ [] ∧ c ≤ (L.length : Int) + (f : Int) := by
  unfold okL
  rw [Bool.and_eq_true, decide_eq_true_eq, Bool.not_eq_true', List.isEmpty_eq_false_iff]
theorem okL_not {c : Int} {f : Nat} {L : List Str} : okL c f L = false ↔ L = [] ∨ (L.length : Int) + (f : Int) < c := by
  rw [← Bool.not_eq_true, okL_iff]
  constructor
  · intro h
    by_cases e : L = []
    · exact .inl e
    · exact .inr (by
        rcases Int.lt_or_le ((L.length : Int) + (f : Int)) c with h1 | h1
        · exact h1
        · exact absurd ⟨e, h1⟩ h)
  · rintro (h | h) ⟨a, b⟩
    · exact a h
    · omega
def dropN (L : List Str) (x : Str) : List Str := L.filter fun y => decide (y ≠ x)
theorem dropN_out (L : List Str) (x : Str) : (L.filter fun y => decide (y ∉ [x])) = dropN L x := by
  unfold dropN
  refine List.filter_congr fun y _ => ?_
  rw [decide_eq_decide, List.mem_singleton]
theorem dropN_len {L : List Str} {x : Str} (h : x ∈ L) : (dropN L x).length < L.length := by
  unfold dropN
  exact List.length_filter_lt_length_iff_exists.mpr ⟨x, h, by simp⟩
theorem dropN_mem {L : List Str} {x y : Str} : y ∈ dropN L x ↔ y ∈ L ∧ y ≠ x := by
  unfold dropN
  rw [List.mem_filter, decide_eq_true_eq]
theorem Hon.filter {xs F L : List Str} (h : Hon xs F L) (p : Str → Bool) : Hon xs F (L.filter p) :=
  ⟨List.Pairwise.sublist List.filter_sublist h.srt, h.nd.filter _, fun x m => h.inn x (List.mem_filter.mp m).1, fun x m => h.out x (List.mem_filter.mp m).1⟩
theorem Hon.drop {xs F L : List Str} (h : Hon xs F L) (x : Str) : Hon xs F (dropN L x) := h.filter _
inductive Crt where
  | one (L : List Str)
  | other (L : List Str)
  | split (x : Str) (a b : Crt)
inductive Res where
  | disj (A B : List Str)
  | crt (t : Crt)
def cq (c : Int) (f : Nat) : Nat → List Str → List Str → Res
  | 0, A, _ => .crt (.one A)
  | n + 1, A, B =>
    if okL c f A = true then
      if okL c f B = true then
        match A.filter fun x => decide (x ∈ B) with
        | [] => .disj A B
        | x :: _ => match cq c f n (dropN A x) B with
          | .disj a b => .disj a b
          | .crt t => match cq c f n A (dropN B x) with
            | .disj a b => .disj a b
            | .crt u => .crt (.split x t u)
      else .crt (.other B)
    else .crt (.one A)
def Valid (c : Int) (f : Nat) : Crt → List Str → List Str → Prop
  | .one L, A, _ => L = A ∧ okL c f A = false
  | .other L, _, B => L = B ∧ okL c f B = false
  | .split x t u, A, B => x ∈ A ∧ x ∈ B ∧ Valid c f t (dropN A x) B ∧ Valid c f u A (dropN B x)
theorem cq_valid {c : Int} {f : Nat} : ∀ (n : Nat) (A B : List Str) (t : Crt), A.length + B.length < n → cq c f n A B = .crt t → Valid c f t A B := by
  intro n
  induction n with
  | zero => intro A B t h; omega
  | succ n ih =>
    intro A B t h e
    unfold cq at e
    by_cases oA : okL c f A = true
    · rw [if_pos oA] at e
      by_cases oB : okL c f B = true
      · rw [if_pos oB] at e
        cases hx : A.filter (fun x => decide (x ∈ B)) with
        | nil =>
          rw [hx] at e
          cases e
        | cons x r =>
          rw [hx] at e
          have mx : x ∈ A ∧ x ∈ B := by
            have : x ∈ A.filter (fun x => decide (x ∈ B)) := by rw [hx]; exact List.mem_cons_self
            obtain ⟨h1, h2⟩ := List.mem_filter.mp this
            exact ⟨h1, of_decide_eq_true h2⟩
          have lA := dropN_len mx.1
          have lB := dropN_len mx.2
          dsimp only at e
          cases h1 : cq c f n (dropN A x) B with
          | disj a b => rw [h1] at e; cases e
          | crt t1 =>
            rw [h1] at e
            dsimp only at e
            cases h2 : cq c f n A (dropN B x) with
            | disj a b => rw [h2] at e; cases e
            | crt t2 =>
              rw [h2] at e
              cases e
              exact ⟨mx.1, mx.2, ih _ _ _ (by omega) h1, ih _ _ _ (by omega) h2⟩
      · rw [if_neg oB] at e
        cases e
        exact ⟨rfl, by simpa using oB⟩
    · rw [if_neg oA] at e
      cases e
      exact ⟨rfl, by simpa using oA⟩
theorem cq_disj {c : Int} {f : Nat} : ∀ (n : Nat) (A B A' B' : List Str), cq c f n A B = .disj A' B' → A'.Sublist A ∧ B'.Sublist B ∧ okL c f A' = true ∧ okL c f B' = true ∧ ∀ x ∈ A', x ∉ B' := by
  intro n
  induction n with
  | zero => intro A B A' B' e; cases e
  | succ n ih =>
    intro A B A' B' e
    unfold cq at e
    by_cases oA : okL c f A = true
    · rw [if_pos oA] at e
      by_cases oB : okL c f B = true
      · rw [if_pos oB] at e
        cases hx : A.filter (fun x => decide (x ∈ B)) with
        | nil =>
          rw [hx] at e
          cases e
          refine ⟨List.Sublist.refl _, List.Sublist.refl _, oA, oB, fun x mA mB => ?_⟩
          have : x ∈ A.filter (fun x => decide (x ∈ B)) := List.mem_filter.mpr ⟨mA, decide_eq_true mB⟩
          rw [hx] at this
          cases this
        | cons x r =>
          rw [hx] at e
          dsimp only at e
          cases h1 : cq c f n (dropN A x) B with
          | disj a b =>
            rw [h1] at e
            cases e
            obtain ⟨s1, s2, r⟩ := ih _ _ _ _ h1
            exact ⟨s1.trans List.filter_sublist, s2, r⟩
          | crt t1 =>
            rw [h1] at e
            dsimp only at e
            cases h2 : cq c f n A (dropN B x) with
            | disj a b =>
              rw [h2] at e
              cases e
              obtain ⟨s1, s2, r⟩ := ih _ _ _ _ h2
              exact ⟨s1, s2.trans List.filter_sublist, r⟩
            | crt t2 => rw [h2] at e; cases e
      · rw [if_neg oB] at e
        cases e
    · rw [if_neg oA] at e
      cases e
theorem valid_none {c : Int} {f : Nat} : ∀ (t : Crt) (A B A' B' : List Str), Valid c f t A B → A'.Nodup → B'.Nodup → (∀ x ∈ A', x ∈ A) → (∀ x ∈ B', x ∈ B) → okL c f A' = true → okL c f B' = true → ¬ ∀ x ∈ A', x ∉ B' := by
  intro t
  have small : ∀ A A' : List Str, okL c f A = false → A'.Nodup → (∀ x ∈ A', x ∈ A) → okL c f A' = true → False := fun A A' hA nd sub ok => by
    obtain ⟨ne, le⟩ := okL_iff.mp ok
    have l := nd_len A' A nd sub
    rcases okL_not.mp hA with rfl | h
    · exact ne (List.length_eq_zero_iff.mp (by simpa using l))
    · omega
  induction t with
  | one L => intro A B A' B' v nA nB sA sB oA oB _; exact small A A' v.2 nA sA oA
  | other L => intro A B A' B' v nA nB sA sB oA oB _; exact small B B' v.2 nB sB oB
  | split x t u iht ihu =>
    intro A B A' B' v nA nB sA sB oA oB d
    obtain ⟨_, _, v1, v2⟩ := v
    by_cases m : x ∈ A'
    · exact ihu A (dropN B x) A' B' v2 nA nB sA (fun y my => dropN_mem.mpr ⟨sB y my, fun e => d x m (e ▸ my)⟩) oA oB d
    · exact iht (dropN A x) B A' B' v1 nA nB (fun y my => dropN_mem.mpr ⟨sA y my, fun e => m (e ▸ my)⟩) sB oA oB d
/-- the verdict by counting -/
theorem verdict {c : Int} {f n : Nat} {L : List Str} (nd : L.Nodup) (hn : L.length + L.length < n) : ((∃ A B, cq c f n L L = .disj A B) ↔ 2 * (if c - f > 1 then c - f else 1) ≤ (L.length : Int)) := by
  constructor
  · rintro ⟨A, B, e⟩
    obtain ⟨sA, sB, oA, oB, d⟩ := cq_disj _ _ _ _ _ e
    obtain ⟨nA, lA⟩ := okL_iff.mp oA
    obtain ⟨nB, lB⟩ := okL_iff.mp oB
    have pA := List.length_pos_iff.mpr nA
    have pB := List.length_pos_iff.mpr nB
    have := nd_len (A ++ B) L (List.nodup_append.mpr ⟨sA.nodup nd, sB.nodup nd, fun a ma b mb e => d a ma (e ▸ mb)⟩) fun y my => (List.mem_append.mp my).elim (fun m => sA.subset m) fun m => sB.subset m
    rw [List.length_append] at this
    split <;> omega
  · intro h
    cases e : cq c f n L L with
    | disj A B => exact ⟨A, B, rfl⟩
    | crt t =>
      exfalso
      have v := cq_valid _ _ _ _ hn e
      have w : ∃ k : Nat, (k : Int) = (if c - f > 1 then c - f else 1) := ⟨(if c - f > 1 then c - f else 1).toNat, by split <;> omega⟩
      obtain ⟨k, hk⟩ := w
      rw [← hk] at h
      have k1 : 1 ≤ k := by
        have : (1 : Int) ≤ (if c - f > 1 then c - f else 1) := by split <;> omega
        omega
      have kc : c ≤ (k : Int) + f := by
        have : c - f ≤ (if c - f > 1 then c - f else 1) := by split <;> omega
        omega
      have l1 : (L.take k).length = k := by rw [List.length_take]; omega
      have l2 : ((L.drop k).take k).length = k := by rw [List.length_take, List.length_drop]; omega
      have ok1 : okL c f (L.take k) = true := okL_iff.mpr ⟨fun z => by rw [z] at l1; simp at l1; omega, by omega⟩
      have ok2 : okL c f ((L.drop k).take k) = true := okL_iff.mpr ⟨fun z => by rw [z] at l2; simp at l2; omega, by omega⟩
      have nd2 := nd
      rw [← List.take_append_drop k L] at nd2
      obtain ⟨_, _, dj⟩ := List.nodup_append.mp nd2
      exact valid_none t L L (L.take k) ((L.drop k).take k) v ((List.take_sublist k L).nodup nd) (((List.take_sublist _ _).trans (List.drop_sublist k L)).nodup nd) (fun x m => List.mem_of_mem_take m) (fun x m => List.mem_of_mem_drop (List.mem_of_mem_take m)) ok1 ok2
        fun x m1 m2 => dj x m1 x (List.mem_of_mem_take m2) rfl
end Moot
namespace Moot
open PySem PySem.Spec PyProof.Rows L2
structure Bq (mg : Str → Option Value) : Prop where
  T : Blt mg
  all : mg "all" = none
  any : mg "any" = none
  dict : mg "dict" = none
  letters : ∃ u, mg "LETTERS" = some u ∧ RelV (.str abc) u
  longest : ∃ u, mg "LONGEST_NAME" = some u ∧ RelV (.int 8) u
  mostn : ∃ u, mg "MOST_NAMES" = some u ∧ RelV (.int 12) u
  mostd : ∃ u, mg "MOST_DIFFERENT_NAMES" = some u ∧ RelV (.int 8) u
theorem abc_mem {c : Nat} (h : 97 ≤ c ∧ c ≤ 122) : c ∈ abc.cps.toList := by
  rw [abc_list]
  exact List.mem_map.mpr ⟨c - 97, List.mem_range.mpr (by omega), by omega⟩
theorem all_true {α : Type} (l : List α) : ((l.map fun _ => true).all id) = true := by
  rw [List.all_map]
  exact List.all_eq_true.mpr fun _ _ => rfl
/-- a requirement of that many of the names -/
def Uni (H : Hp) (r : Addr) (c : Int) (xs : List Str) : Prop := ∃ (p : Addr) (zs : List Str), H r = some (.tup [.int c, .ref p]) ∧ H p = some (.tup (zs.map V.str)) ∧ zs.Perm xs
theorem Uni.same {H H' : Hp} {r : Addr} {c : Int} {xs : List Str} (h : Uni H r c xs) (s : Same H H') : Uni H' r c xs := let ⟨p, zs, h1, h2, h3⟩ := h; ⟨p, zs, s _ _ h1, s _ _ h2, h3⟩
theorem Uni.req {H : Hp} {r : Addr} {c : Int} {xs : List Str} (h : Uni H r c xs) : ∃ zs : List Str, ReqAt H r c (zs.map Sum.inl) ∧ zs.Perm xs := let ⟨p, zs, h1, h2, h3⟩ := h; ⟨zs, ⟨p, _, h1, h2, Parts.names zs⟩, h3⟩
section
variable {P : Program} {w : World} {K : PySem.W.Frag} {mg : Str → Option Value} {base : Heap}
/-! node_set, again -/
def spNs2 (K : PySem.W.Frag) : Sp := fun vs H Q _ => ∃ (l : Addr) (zs : List Str), vs = [.ref l] ∧ NodesAt K H l zs ∧ zs.length < 64 ∧
  ∀ (p : Addr) (ys : List Str) (H' : Hp), Same H H' → H p = none → H' p = some (.tup (ys.map V.str)) → Srt ys → ys.Nodup → (∀ x, x ∈ ys ↔ x ∈ zs) → Q (.ref p) H'
theorem ok_ns2 {f : Addr} {fd : FuncData} {k : Nat} (F : Fun K "node_set" "node_set" sNs f fd) (T : Bq mg) : FnOk P w K mg base CX0 (k + 1) f fd ["names"] (spNs2 K) := by
  refine F.ok scNs (fun vs H Q E h => ?_) (fun cdv A outer s H vs Q E hr h => ?_)
  · obtain ⟨l, zs, rfl, _⟩ := h
    rfl
  · obtain ⟨l, zs, rfl, hl, few, q⟩ := h
    refine ⟨_, pss_one (ps_ret (pe_callTy call_tuple_of (by rfl) T.T.tup (by decide +kernel) (pa_cons (pe_callB (cr_txtSorted rfl) (by rfl) T.T.srt (by decide +kernel)
      (pa_cons (pe_callTy (cr_txtSetA rfl) (by rfl) T.T.set (by decide +kernel) (pa_cons (pv 0) pa_nil)) pa_nil)) pa_nil))), ?_⟩
    refine ⟨.ref l, rfl, l, zs, rfl, hl, few, fun a m na hm => ?_⟩
    refine ⟨a, _, m, rfl, upd_same, by omega, fun ys p srt nd mem len np => ?_⟩
    refine ⟨p, _, rfl, .inl ⟨SqL.of upd_same, fun t nt => ?_⟩⟩
    have s1 := same_new (o := TxtSet P w a (fun k => decide (k ∈ zs)) m) na
    have s2 := same_new (o := .lst (ys.map V.str)) np
    have s3 := same_new (o := .tup (ys.map V.str)) nt
    exact q t ys _ ((s1.trans s2).trans s3) ((s1.trans s2).free nt) upd_same (sorted_pairs srt) nd fun x => (mem x).trans (by simp)
/-! names_outside -/
abbrev sOut : Stmt := top 3
abbrev nOut : List Str := ["names", "excluded", "name"]
theorem scOut : FnScope nOut ["names", "excluded"] (defScope sOut) := ⟨rfl, rfl, rfl, by decide +kernel, rfl, by decide +kernel, by decide +kernel⟩
def spOut (K : PySem.W.Frag) : Sp := fun vs H Q _ => ∃ (a e : Addr) (xs es : List Str), vs = [.ref a, .ref e] ∧ H a = some (.tup (xs.map V.str)) ∧ NodesAt K H e es ∧ xs.length ≤ 100 ∧
  ∀ (p : Addr) (H' : Hp), Same H H' → H p = none → H' p = some (.tup ((xs.filter fun x => decide (x ∉ es)).map V.str)) → Q (.ref p) H'
theorem ok_out {f : Addr} {fd : FuncData} {k : Nat} (F : Fun K "names_outside" "names_outside" sOut f fd) (T : Bq mg) : FnOk P w K mg base CX0 (k + 1) f fd ["names", "excluded"] (spOut K) := by
  refine F.ok scOut (fun vs H Q E h => ?_) (fun cdv A outer s H vs Q E hr h => ?_)
  · obtain ⟨a, e, xs, es, rfl, _⟩ := h
    rfl
  · obtain ⟨a, e, xs, es, rfl, ha, he, few, q⟩ := h
    refine ⟨_, pss_one (ps_ret (pe_callTy call_tuple_of (by rfl) T.T.tup (by decide +kernel) (pa_cons (pe_lc (own := [("name", 2)]) (g := gName 2) (by rfl) scOut.nd (pi_tup (pv 0)) (blkOk_by (N := nOut) (sc := defScope sOut) (by decide +kernel))
        (fun _ _ _ _ _ => pg_name (i := 2) scOut.nd rfl (Or.inl rfl)) (fun _ _ _ _ _ => pts_one (pt_cmpR (show OpR _ (compareOp .NotIn) (rIn K true) from op_notIn_seq) (pv 2) (pv 1) (by rfl))) (fun _ _ _ _ _ => pv 2)) pa_nil))), ?_⟩
    refine ⟨.ref a, rfl, a, rfl, ⟨_, SqT.of ha⟩, fun D nD => lc_tup (K := K) (a := a) (xs := xs.map V.str) (fun i H1 => Same H H1 ∧ H1 D = some (.lst (((xs.take i).filter fun x => decide (x ∉ es)).map V.str))) ?_ (fun i H1 _ h => SqT.of (h.1 _ _ ha)) ?_ ?_⟩
    · exact ⟨same_new nD, upd_same⟩
    · rintro i x H1 hx ⟨s1, hD⟩
      rw [List.getElem?_map] at hx
      obtain ⟨z, hz, rfl⟩ := Option.map_eq_some_iff.mp hx
      have tk : xs.take (i + 1) = xs.take i ++ [z] := by
        rw [List.take_add_one, hz]
        rfl
      refine ⟨rfl, .str z, rfl, .ref e, rfl, e, _, rfl, he.same s1, rfl, flats es, _, rfl, ?_⟩
      rw [inV_str]
      by_cases m : z ∈ es
      · rw [decide_eq_true m]
        refine iteF ⟨s1, ?_⟩
        rw [hD, tk, List.filter_append]
        simp [m]
      · rw [decide_eq_false m]
        refine iteT ⟨.str z, rfl, _, hD, ?_, fun d o c => ?_, ?_⟩
        · rw [List.length_map]
          refine small1000 (Nat.le_trans (List.length_filter_le _ _) ?_)
          rw [List.length_take]
          omega
        · rw [upd_ne (ne_of_none c nD)]
          exact s1 d o c
        · rw [upd_same, tk, List.filter_append]
          simp [m]
    · rintro H1 ⟨s1, hD⟩
      rw [List.length_map, List.take_length] at hD
      refine ⟨D, _, rfl, .inl ⟨SqL.of hD, fun t nt => ?_⟩⟩
      exact q t _ (s1.trans (same_new nt)) (s1.free nt) upd_same
/-! is_name -/
abbrev sIn : Stmt := top 9
abbrev nIn : List Str := ["value", "letter"]
theorem scIn : FnScope nIn ["value"] (defScope sIn) := ⟨rfl, rfl, rfl, by decide +kernel, rfl, by decide +kernel, by decide +kernel⟩
def spIn : Sp := fun vs H Q _ => ∃ z : Str, vs = [.str z] ∧ Nm z ∧ ∀ H', Same H H' → Q (.bl true) H'
theorem ok_isname {f : Addr} {fd : FuncData} {k : Nat} (F : Fun K "is_name" "is_name" sIn f fd) (T : Bq mg) : FnOk P w K mg base CX0 (k + 1) f fd ["value"] spIn := by
  obtain ⟨uL, mL, rL⟩ := T.letters
  obtain ⟨uG, mG, rG⟩ := T.longest
  refine F.ok scIn (fun vs H Q E h => ?_) (fun cdv A outer s H vs Q E hr h => ?_)
  · obtain ⟨z, rfl, _⟩ := h
    rfl
  · obtain ⟨z, rfl, nz, q⟩ := h
    refine ⟨_, pss_cons (ps_if (pt_not (pt_val (pe_callB call_isi (by rfl) T.T.isi (by decide +kernel) (pa_cons (pv 0) (pa_cons (pe_bltn (v := .ty "str") (by rfl) T.T.str (by decide +kernel) rfl) pa_nil))))) (pss_one (ps_ret pe_bl)) pss_nil)
      (pss_cons (ps_if (pt_not (pt_chain op_le op_le pe_int (pe_callB call_len_str (by rfl) T.T.len PySem.boot_len (pa_cons (pv 0) pa_nil)) (pe_glob (by rfl) mG rG))) (pss_one (ps_ret pe_bl)) pss_nil)
      (pss_one (ps_ret (pe_callB (cr_all rfl) (by rfl) T.all (by decide +kernel) (pa_cons (pe_lc (own := [("letter", 1)]) (g := gName 1) (tt := tYes) (by rfl) scIn.nd (pi_str (pv 0)) (blkOk_by (N := nIn) (sc := defScope sIn) (by decide +kernel))
          (fun _ _ _ _ _ => pg_name (i := 1) scIn.nd rfl (Or.inl rfl)) (fun _ _ _ _ _ => pts_nil) (fun _ _ _ _ _ => pe_cmpR op_in_sign (pv 1) (pe_glob (by rfl) mL rL) (by rfl))) pa_nil))))), ?_⟩
    have l8 : z.length ≤ 8 := nz.hi
    have l1 : 1 ≤ z.length := nz.lo
    refine ⟨.str z, rfl, _, _, .type "str", .type "str", true, rfl, .ty _, .base (.str z), kit_ty (r := true) (by decide +kernel), _, rfl, iteF ?_⟩
    refine ⟨.str z, rfl, z, rfl, Nat.le_of_lt (small1000 (by omega)), _, _, rfl, rfl, _, rfl, ?_⟩
    rw [decide_eq_true (show (1 : Int) ≤ (z.length : Int) by omega)]
    refine iteT ⟨_, _, rfl, rfl, _, rfl, ?_⟩
    rw [decide_eq_true (show (z.length : Int) ≤ 8 by omega)]
    refine iteF ?_
    refine ⟨.str z, rfl, z, rfl, fun D nD => ?_⟩
    refine lc_it walk_str (fun j H1 => Same H H1 ∧ H1 D = some (.lst (((z.cps.toList.take j).map fun _ => true).map V.bl))) ?_ (fun _ _ _ _ => trivial) ?_ ?_
    · exact ⟨same_new nD, upd_same⟩
    · rintro j x H1 H2 hj ⟨s1, hD⟩ ⟨rfl, c, hc, rfl⟩
      have tk : z.cps.toList.take (j + 1) = z.cps.toList.take j ++ [c] := by
        rw [List.take_add_one, Array.getElem?_toList, hc]
        rfl
      have mc : c ∈ z.cps.toList := List.mem_of_getElem? (by rw [Array.getElem?_toList]; exact hc)
      refine ⟨rfl, .str (sg c), rfl, c, abc, rfl, rfl, ?_⟩
      rw [decide_eq_true (abc_mem (nz.low c mc))]
      refine ⟨_, hD, ?_, fun a o e => ?_, ?_⟩
      · rw [List.length_map, List.length_map, List.length_take]
        have : z.cps.toList.length = z.length := by simp [Str.length]
        exact small1000 (by omega)
      · rw [upd_ne (ne_of_none e nD)]
        exact s1 a o e
      · rw [upd_same, tk, List.map_append, List.map_append]
        rfl
    · rintro H1 ⟨s1, hD⟩
      refine ⟨D, _, rfl, SqL.of hD, ?_⟩
      rw [all_true]
      exact q H1 s1
/-! is_whole_number -/
abbrev sWh : Stmt := top 10
theorem scWh : FnScope ["value"] ["value"] (defScope sWh) := ⟨rfl, rfl, rfl, by decide +kernel, rfl, by decide +kernel, by decide +kernel⟩
def spWh : Sp := fun vs H Q _ => ∃ i : Int, vs = [.int i] ∧ Q (.bl true) H
theorem ok_whole {f : Addr} {fd : FuncData} {k : Nat} (F : Fun K "is_whole_number" "is_whole_number" sWh f fd) (T : Bq mg) : FnOk P w K mg base CX0 (k + 1) f fd ["value"] spWh := by
  refine F.ok scWh (fun vs H Q E h => ?_) (fun cdv A outer s H vs Q E hr h => ?_)
  · obtain ⟨i, rfl, _⟩ := h
    rfl
  · obtain ⟨i, rfl, q⟩ := h
    refine ⟨_, pss_one (ps_ret (pe_and (pe_callB call_isi (by rfl) T.T.isi (by decide +kernel) (pa_cons (pv 0) (pa_cons (pe_bltn (v := .ty "int") (by rfl) T.T.int (by decide +kernel) rfl) pa_nil)))
      (pe_one (pe_not (pe_callB call_isi (by rfl) T.T.isi (by decide +kernel) (pa_cons (pv 0) (pa_cons (pe_bltn (v := .ty "bool") (by rfl) T.T.bool (by decide +kernel) rfl) pa_nil))))))), ?_⟩
    exact ⟨.int i, rfl, _, _, .type "int", .type "int", true, rfl, .ty _, .base (.int i), kit_ty (r := true) (by decide +kernel), _, rfl, iteT ⟨.int i, rfl, _, _, .type "int", .type "bool", false, rfl, .ty _, .base (.int i), kit_ty (r := false) (by decide +kernel), _, rfl, q⟩⟩
/-! is_counted_tuple -/
abbrev sCt : Stmt := top 11
abbrev nCt : List Str := ["value", "count", "parts"]
theorem scCt : FnScope nCt ["value"] (defScope sCt) := ⟨rfl, rfl, rfl, by decide +kernel, rfl, by decide +kernel, by decide +kernel⟩
def spCt : Sp := fun vs H Q _ => ∃ (r p : Addr) (c : Int) (ws : List V), vs = [.ref r] ∧ H r = some (.tup [.int c, .ref p]) ∧ H p = some (.tup ws) ∧ 1 ≤ c ∧ c ≤ (ws.length : Int) ∧ Q (.bl true) H
theorem ok_counted {f fW : Addr} {fd fdW : FuncData} {k : Nat} (F : Fun K "is_counted_tuple" "is_counted_tuple" sCt f fd) (T : Bq mg) (FW : Fun K "is_whole_number" "is_whole_number" sWh fW fdW) (bW : Binds K fdW ["value"] []) (gW : mg "is_whole_number" = some (.ref fW)) :
    FnOk P w K mg base CX0 (k + 2) f fd ["value"] spCt := by
  have GW : FnOk P w K mg base CX0 (k + 1) fW fdW ["value"] spWh := ok_whole FW T
  refine F.ok scCt (fun vs H Q E h => ?_) (fun cdv A outer s H vs Q E hr h => ?_)
  · obtain ⟨r, p, c, ws, rfl, _⟩ := h
    rfl
  · obtain ⟨r, p, c, ws, rfl, hr1, hp1, c1, c2, q⟩ := h
    refine ⟨_, pss_cons (ps_if (PW.pt (pw_or (pt_not (pt_val (pe_callB call_isi (by rfl) T.T.isi (by decide +kernel) (pa_cons (pv 0) (pa_cons (pe_bltn (v := .ty "tuple") (by rfl) T.T.tup (by decide +kernel) rfl) pa_nil)))))
          (pw_or1 (pt_cmpR op_ne (pe_callB call_len_seq (by rfl) T.T.len PySem.boot_len (pa_cons (pv 0) pa_nil)) pe_int (nomark _))))) (pss_one (ps_ret pe_bl)) pss_nil)
      (pss_cons (ps_asg (pv 0) (pg_tup (by rfl) (pgs_cons (pg_name (i := 1) scCt.nd rfl (Or.inl rfl)) (pgs_cons (pg_name (i := 2) scCt.nd rfl (Or.inl rfl)) pgs_nil))))
      (pss_cons (ps_if (PW.pt (pw_or (pt_not (pt_val (pe_call GW hr (by rfl) gW FW.kp bW .nil pass0 (pa_cons (pv 1) pa_nil)))) (pw_or1 (pt_not (pt_val (pe_callB call_isi (by rfl) T.T.isi (by decide +kernel) (pa_cons (pv 2) (pa_cons (pe_bltn (v := .ty "tuple") (by rfl) T.T.tup (by decide +kernel) rfl) pa_nil)))))))) (pss_one (ps_ret pe_bl)) pss_nil)
      (pss_one (ps_ret (pe_chain op_le op_le pe_int (pv 1) (pe_callB call_len_seq (by rfl) T.T.len PySem.boot_len (pa_cons (pv 2) pa_nil))))))), ?_⟩
    refine ⟨.ref r, rfl, _, _, .type "tuple", .type "tuple", true, rfl, .ty _, .base (.tup hr1), kit_ty (r := true) (by decide +kernel), _, rfl, iteF ⟨.ref r, rfl, r, _, rfl, .inr (SqT.of hr1), rfl, _, rfl, iteF ?_⟩⟩
    refine ⟨.ref r, rfl, r, _, rfl, SqT.of hr1, rfl, _, _, rfl, _, _, rfl, rfl, ?_⟩
    refine ⟨.int c, rfl, c, rfl, _, rfl, iteF ⟨.ref p, rfl, _, _, .type "tuple", .type "tuple", true, rfl, .ty _, .base (.tup hp1), kit_ty (r := true) (by decide +kernel), _, rfl, iteF ?_⟩⟩
    refine ⟨.int c, rfl, _, _, rfl, rfl, _, rfl, ?_⟩
    rw [decide_eq_true c1]
    refine iteT ⟨.ref p, rfl, p, _, rfl, .inr (SqT.of hp1), _, _, rfl, rfl, ?_⟩
    show Q (.bl (decide (c ≤ (ws.length : Int)))) H
    rw [decide_eq_true c2]
    exact q
/-! has_duplicates -/
abbrev sHd : Stmt := top 12
theorem scHd : FnScope ["parts"] ["parts"] (defScope sHd) := ⟨rfl, rfl, rfl, by decide +kernel, rfl, by decide +kernel, by decide +kernel⟩
def spHd (K : PySem.W.Frag) : Sp := fun vs H Q _ => ∃ (p : Addr) (zs : List Str), vs = [.ref p] ∧ NodesAt K H p zs ∧ zs.length < 64 ∧ zs.Nodup ∧ ∀ H', Same H H' → Q (.bl false) H'
theorem ok_dup {f : Addr} {fd : FuncData} {k : Nat} (F : Fun K "has_duplicates" "has_duplicates" sHd f fd) (T : Bq mg) : FnOk P w K mg base CX0 (k + 1) f fd ["parts"] (spHd K) := by
  refine F.ok scHd (fun vs H Q E h => ?_) (fun cdv A outer s H vs Q E hr h => ?_)
  · obtain ⟨p, zs, rfl, _⟩ := h
    rfl
  · obtain ⟨p, zs, rfl, hp, few, nd, q⟩ := h
    refine ⟨_, pss_one (ps_ret (pe_cmpR op_lt (pe_callB cr_txtLen (by rfl) T.T.len PySem.boot_len (pa_cons (pe_callTy (cr_txtSetA rfl) (by rfl) T.T.set (by decide +kernel) (pa_cons (pv 0) pa_nil)) pa_nil)) (pe_callB call_len_seq (by rfl) T.T.len PySem.boot_len (pa_cons (pv 0) pa_nil)) (nomark _))), ?_⟩
    refine ⟨.ref p, rfl, p, zs, rfl, hp, few, fun a m na hm => ⟨a, _, m, rfl, upd_same, by omega, fun least => ?_⟩⟩
    have le := least zs nd fun k mk => decide_eq_true mk
    have s1 := same_new (o := TxtSet P w a (fun k => decide (k ∈ zs)) m) na
    refine ⟨.ref p, rfl, p, _, rfl, hp.same s1, _, _, rfl, rfl, ?_⟩
    show Q (.bl (decide ((m : Int) < ((zs.map V.str).length : Int)))) _
    rw [List.length_map, decide_eq_false (show ¬ ((m : Int) < (zs.length : Int)) by omega)]
    exact q _ s1
end
end Moot
namespace Moot
open PySem PySem.Spec PyProof.Rows L2
/-! tuple(d), d a dict; a dict comprehension over a list -/
section
variable {X : Cx}
def rTupD : List V → Hp → VK → Prop := fun xs H Q => ∃ (p : Addr) (kvs : List (L2.Key × V)), xs = [.ref p] ∧ H p = some (.dK kvs) ∧ ∀ q, H q = none → Q (.ref q) (upd H q (.tup (kvs.map fun kv => kV kv.1)))
theorem call_tuple_dK (hc : X.calm = true) : CallR X (.type "tuple") rTupD := by
  intro pins s σ H xs us Q I r h
  obtain ⟨p, kvs, rfl, hk, q⟩ := h
  obtain ⟨u, rfl, rx⟩ := vals1 r
  cases rx
  obtain ⟨z, lo, vs, rk, hd⟩ := (show ObjOk X.prog X.w H s.heap p (.dK kvs) from I.hok p _ hk)
  obtain ⟨ep, hat⟩ := hd.dictAt
  have hl : kvs.length = vs.length := Paired.length rk
  have ht : s.TypeIs (.ref p) "dict" := by
    obtain ⟨o, es, ep', e1, e2, _⟩ := hd
    exact ⟨o, e1, e2.1⟩
  refine callType_codes (Q₁ := fun obj s₁ => s₁.TypeIs obj "tuple" ∧ EP X pins σ Q obj s₁) F.called_tuple (F.typeCall_tuple_1 _) F.entry_object_init ?_ fun obj s₁ h₁ => ?_
  · refine codeAny_of_tree ?_
    show wpAny _ _ (do checkBuiltinCall "tuple.__new__" ⟨[.type "tuple", .ref p], []⟩; again (.builtin "tuple.__new__" ⟨[.type "tuple", .ref p], []⟩)) _ _ s
    refine wpAny_bind (wpAny_of_eq (F.newCall_tuple_1 _) (wpAny_pure ⟨plainId_quiet F.plain_tuple_new _, codeAny_builtin F.entry_tuple_new ?_⟩))
    rw [Around.under_plainId F.plain_tuple_new _]
    have hsub := sub_tuple_self
    have hinit := init_tuple_lookup
    have hmh := madeHere_tuple
    have src := PySem.W.kdl_dict (prog := X.prog) (w := X.w) (knd := mixKind X.prog X.w) (kvs := vs) (ep := ep) lo
    unfold Builtin.«tuple.__new__»
    generalize hcol : collect = col
    wp_walk using wpAny_typeOf ht
    subst hcol
    refine PySem.W.kdu_collect src (I.ok.hd hc) hat (by rw [← hl]; exact z) fun h' tk acc hkeep hacc => ?_
    have el : acc.toList.length = vs.length := by rw [Array.length_toList, hacc.1]
    have vals : Vals (kvs.map fun kv => kV kv.1) acc.toList := by
      have e := keys_at el fun j v e => hacc.2 j v (by rw [← Array.getElem?_toList]; exact e)
      have e2 : (vs.map fun p => kV p.1) = kvs.map fun kv => kV kv.1 := by
        have e3 := congrArg (List.map kV) (KV.keys rk)
        rw [List.map_map, List.map_map] at e3
        exact e3.symm
      rw [e2] at e
      exact e
    have I1 : Inv X pins σ H { s with heap := h', toks := tk } := I.kept hkeep
    show wpAny _ _ (Builtin.Tuple.tupleExact acc.toList.toArray >>= fun v => ret v) _ _ _
    unfold Builtin.Tuple.tupleExact
    refine wpAny_bind (wpAny_newObj_type ?_ (by show acc.toList.toArray.size ≤ sizeLine; rw [List.size_toArray, el, ← hl]; exact z))
    refine wpAny_pure ⟨⟨_, Heap.get?_push_size _ rfl, rfl⟩, .ref _, _, I1.laid (t' := tk) (o := .tup (kvs.map fun kv => kV kv.1)) (fun b ob q => Heap.get?_push_of_some _ q) (Nat.le_refl _) ?_, rfl, q _ (I1.hok.fresh (Nat.le_refl _))⟩
    exact ⟨by rw [List.length_map]; exact z, acc.toList, vals, ⟨_, Heap.get?_push_size _ rfl, rfl, 0, rfl⟩⟩
  · exact ⟨h₁.1, F.args_object_init_2 obj _, object_init_meets F.called_tuple.init.lookup F.called_tuple.made (by decide) X.prog X.w X.A.in1 _ s₁ ⟨h₁.1, rfl, h₁.2⟩⟩
end
theorem dc_it {J : It} {n : Nat} {G : Hp → Prop} {Y : Nat → Hp → V → Hp → Prop} (wk : Walk J n G Y) {g : TG} {tt : TT} {tk tv : TE} {vs : List Nat} {σ : L2.St} {H1 : Hp} {D : Addr} {Qd : Hp → Prop} (Pv : Nat → Hp → Prop) (h0 : Pv 0 (upd H1 D (.dK []))) (hG : ∀ i H, i ≤ n → Pv i H → G H)
    (hs : ∀ i x H H', i < n → Pv i H → Y i H x H' → g x (wipe σ vs) H' fun σ2 H2 => wipe σ2 vs = wipe σ vs ∧ tt σ2 H2 fun b H3 =>
      if b = true then tk σ2 H3 fun y H4 => tv σ2 H4 fun z H5 => ∃ kvs k, y = kV k ∧ H5 D = some (.dK kvs) ∧ kvs.length < sizeLine ∧ Pv (i + 1) (upd H5 D (.dK (putK kvs k z))) else Pv (i + 1) H3) (hd : ∀ H, Pv n H → Qd H) :
    ∃ W : Nat → Nat → Hp → Prop, (∃ m, W 0 m (upd H1 D (.dK []))) ∧ ∀ i m H, W i m H →
      (J.stop i H ∧ Qd H) ∨ (J.go i H ∧ ∃ Nx : Hp → Prop, (∀ H', Nx H' → ∃ m', m' < m ∧ W (i + 1) m' H') ∧ ∀ x H', J.yld i H x H' → g x (wipe σ vs) H' fun σ2 H2 => wipe σ2 vs = wipe σ vs ∧ tt σ2 H2 fun b H3 =>
        if b = true then tk σ2 H3 fun y H4 => tv σ2 H4 fun z H5 => ∃ kvs k, y = kV k ∧ H5 D = some (.dK kvs) ∧ kvs.length < sizeLine ∧ Nx (upd H5 D (.dK (putK kvs k z))) else Nx H3) := by
  refine ⟨fun i m H => m + i = n ∧ Pv i H, ⟨n, rfl, h0⟩, ?_⟩
  rintro i m H ⟨e, p⟩
  have q := hG i H (by omega) p
  by_cases lt : i < n
  · exact .inr ⟨wk.goes i H lt q, Pv (i + 1), fun H' p' => ⟨n - (i + 1), by omega, by omega, p'⟩, fun x H' y => hs i x H H' lt p (wk.yields i H x H' lt q y)⟩
  · obtain rfl : i = n := by omega
    exact .inl ⟨wk.stops H q, hd H p⟩
end Moot
namespace Moot
open PySem PySem.Spec PyProof.Rows L2
/-! a dict from names to requirements -/
abbrev Rws := List (Str × Addr)
def kvs (rs : Rws) : List (L2.Key × V) := rs.map fun p => ((Sum.inr p.1 : L2.Key), V.ref p.2)
theorem kvs_len (rs : Rws) : (kvs rs).length = rs.length := List.length_map _
theorem val_in : ∀ {rs : Rws} {y : Str}, y ∈ rs.map (·.1) → ∃ r, (y, r) ∈ rs ∧ valV (kvs rs) (Sum.inr y : L2.Key) = some (.ref r)
  | [], _, h => by cases h
  | (x, r) :: rs, y, h => by
    by_cases e : x = y
    · subst e
      exact ⟨r, List.mem_cons_self, valV_pos (p := ((Sum.inr x : L2.Key), V.ref r)) rfl⟩
    · have m : y ∈ rs.map (·.1) := by
        rcases List.mem_cons.mp h with h | h
        · exact absurd h.symm e
        · exact h
      obtain ⟨r', m', e'⟩ := val_in m
      refine ⟨r', List.mem_cons_of_mem _ m', ?_⟩
      show valV (((Sum.inr x : L2.Key), V.ref r) :: kvs rs) (Sum.inr y : L2.Key) = _
      rw [← e']
      unfold valV
      rw [List.find?_cons_of_neg (by simpa using e)]
theorem val_out {rs : Rws} {y : Str} (h : y ∉ rs.map (·.1)) : valV (kvs rs) (Sum.inr y : L2.Key) = none := by
  unfold valV kvs
  rw [List.find?_eq_none.mpr]
  · rfl
  · intro p mp
    obtain ⟨q, mq, rfl⟩ := List.mem_map.mp mp
    simp
    intro e
    exact h (List.mem_map.mpr ⟨q, mq, e⟩)
/-- rows as a list of pairs -/
def RowsAt (H : Hp) (ts : List Addr) (rs : Rws) : Prop := ts.length = rs.length ∧ ∀ (i : Nat) (t : Addr), ts[i]? = some t → ∃ x r, rs[i]? = some (x, r) ∧ H t = some (.tup [.str x, .ref r])
theorem RowsAt.same {H H' : Hp} {ts : List Addr} {rs : Rws} (h : RowsAt H ts rs) (s : Same H H') : RowsAt H' ts rs := ⟨h.1, fun i t e => let ⟨x, r, h1, h2⟩ := h.2 i t e; ⟨x, r, h1, s _ _ h2⟩⟩
section
variable {P : Program} {w : World} {K : PySem.W.Frag} {mg : Str → Option Value} {base : Heap}
/-! is_requirement -/
abbrev sIr : Stmt := top 14
abbrev nIr : List Str := ["value", "parts", "names", "part"]
theorem scIr : FnScope nIr ["value"] (defScope sIr) := ⟨rfl, rfl, rfl, by decide +kernel, rfl, by decide +kernel, by decide +kernel⟩
abbrev sSr : Stmt := top 13
def spNot : Sp := fun _ _ _ _ => False
def spIr : Sp := fun vs H Q _ => ∃ (r : Addr) (c : Int) (xs : List Str), vs = [.ref r] ∧ Uni H r c xs ∧ xs.Nodup ∧ xs.length ≤ 8 ∧ (∀ x ∈ xs, Nm x) ∧ 1 ≤ c ∧ c ≤ (xs.length : Int) ∧ ∀ H', Same H H' → Q (.bl true) H'
theorem ok_isreq {f f1 f2 f3 f4 f5 : Addr} {fd fd1 fd2 fd3 fd4 fd5 : FuncData} {k : Nat} (F : Fun K "is_requirement" "is_requirement" sIr f fd) (T : Bq mg)
    (F1 : Fun K "is_counted_tuple" "is_counted_tuple" sCt f1 fd1) (b1 : Binds K fd1 ["value"] []) (g1 : mg "is_counted_tuple" = some (.ref f1)) (G1 : FnOk P w K mg base CX0 k f1 fd1 ["value"] spCt)
    (F2 : Fun K "is_name" "is_name" sIn f2 fd2) (b2 : Binds K fd2 ["value"] []) (g2 : mg "is_name" = some (.ref f2)) (G2 : FnOk P w K mg base CX0 k f2 fd2 ["value"] spIn)
    (F3 : Fun K "is_simple_requirement" "is_simple_requirement" sSr f3 fd3) (b3 : Binds K fd3 ["value"] []) (g3 : mg "is_simple_requirement" = some (.ref f3))
    (F4 : Fun K "has_duplicates" "has_duplicates" sHd f4 fd4) (b4 : Binds K fd4 ["parts"] []) (g4 : mg "has_duplicates" = some (.ref f4)) (G4 : FnOk P w K mg base CX0 k f4 fd4 ["parts"] (spHd K))
    (F5 : Fun K "names_with_repetition" "names_with_repetition" sNwr f5 fd5) (b5 : Binds K fd5 ["requirement"] []) (g5 : mg "names_with_repetition" = some (.ref f5)) (G5 : FnOk P w K mg base CX0 k f5 fd5 ["requirement"] (spNwr fun _ => True)) :
    FnOk P w K mg base CX0 (k + 1) f fd ["value"] spIr := by
  obtain ⟨uN, mN, rN⟩ := T.mostn
  obtain ⟨uD, mD, rD⟩ := T.mostd
  have G3 : FnOk P w K mg base CX0 k f3 fd3 ["value"] spNot := fn_none k fun _ _ _ _ h => h
  refine F.ok scIr (fun vs H Q E h => ?_) (fun cdv A outer s H vs Q E hr h => ?_)
  · obtain ⟨r, c, xs, rfl, _⟩ := h
    rfl
  · obtain ⟨r, c, xs, rfl, ⟨p, zs, hr1, hp1, pm⟩, ndx, few, nmx, c1, c2, q⟩ := h
    refine ⟨_, pss_cons (ps_if (pt_not (pt_val (pe_call G1 hr (by rfl) g1 F1.kp b1 .nil pass0 (pa_cons (pv 0) pa_nil)))) (pss_one (ps_ret pe_bl)) pss_nil)
      (pss_cons (ps_set (i := 1) scIr.nd rfl (Or.inl rfl) (pe_ix ix_tup (pv 0) pe_int (fun _ _ => rfl)))
      (pss_cons (ps_if (pt_not (pt_val (pe_callB (cr_all rfl) (by rfl) T.all (by decide +kernel) (pa_cons (pe_lc (own := [("part", 3)]) (g := gName 3) (tt := tYes) (by rfl) scIr.nd (pi_tup (pv 1)) (blkOk_by (N := nIr) (sc := defScope sIr) (by decide +kernel))
          (fun _ _ _ _ _ => pg_name (i := 3) scIr.nd rfl (Or.inl rfl)) (fun _ _ _ _ _ => pts_nil)
          (fun _ _ _ _ _ => pe_or (pe_call G2 hr (by rfl) g2 F2.kp b2 .nil pass0 (pa_cons (pv 3) pa_nil)) (pe_one (pe_call G3 hr (by rfl) g3 F3.kp b3 .nil pass0 (pa_cons (pv 3) pa_nil))))) pa_nil)))) (pss_one (ps_ret pe_bl)) pss_nil)
      (pss_cons (ps_if (pt_val (pe_call G4 hr (by rfl) g4 F4.kp b4 .nil pass0 (pa_cons (pv 1) pa_nil))) (pss_one (ps_ret pe_bl)) pss_nil)
      (pss_cons (ps_set (i := 2) scIr.nd rfl (Or.inl rfl) (pe_call G5 hr (by rfl) g5 F5.kp b5 .nil pass0 (pa_cons (pv 0) pa_nil)))
      (pss_one (ps_ret (pe_and (pe_cmpR op_le (pe_callB call_len_seq (by rfl) T.T.len PySem.boot_len (pa_cons (pv 2) pa_nil)) (pe_glob (by rfl) mN rN) (nomark _))
        (pe_one (pe_cmpR op_le (pe_callB cr_txtLen (by rfl) T.T.len PySem.boot_len (pa_cons (pe_callTy (cr_txtSetA rfl) (by rfl) T.T.set (by decide +kernel) (pa_cons (pv 2) pa_nil)) pa_nil)) (pe_glob (by rfl) mD rD) (nomark _)))))))))), ?_⟩
    have zl : zs.length = xs.length := pm.length_eq
    have znd : zs.Nodup := pm.nodup_iff.mpr ndx
    have znm : ∀ z ∈ zs, Nm z := fun z mz => nmx z (pm.mem_iff.mp mz)
    refine ⟨.ref r, rfl, r, p, c, _, rfl, hr1, hp1, c1, by rw [List.length_map, zl]; exact c2, _, rfl, iteF ?_⟩
    refine ⟨.ref r, rfl, r, _, 1, .ref p, rfl, rfl, SqT.of hr1, atI_nat (j := 1) rfl, ?_⟩
    refine ⟨.ref p, rfl, p, rfl, ⟨_, SqT.of hp1⟩, fun D nD => lc_tup (K := K) (a := p) (xs := zs.map V.str) (fun i H1 => Same H H1 ∧ H1 D = some (.lst (((zs.take i).map fun _ => true).map V.bl))) ⟨same_new nD, upd_same⟩ (fun i H1 _ h => SqT.of (h.1 _ _ hp1)) ?_ ?_⟩
    · rintro i x H1 hx ⟨s1, hD⟩
      rw [List.getElem?_map] at hx
      obtain ⟨z, hz, rfl⟩ := Option.map_eq_some_iff.mp hx
      have tk : zs.take (i + 1) = zs.take i ++ [z] := by
        rw [List.take_add_one, hz]
        rfl
      refine ⟨rfl, .str z, rfl, z, rfl, znm z (List.mem_of_getElem? hz), fun H2 s2 => ⟨_, rfl, iteT ?_⟩⟩
      refine ⟨_, s2 _ _ hD, ?_, fun d o e => ?_, ?_⟩
      · rw [List.length_map, List.length_map, List.length_take]
        exact small1000 (by omega)
      · rw [upd_ne (ne_of_none e nD)]
        exact s2 _ _ (s1 d o e)
      · rw [upd_same, tk, List.map_append, List.map_append]
        rfl
    · rintro H1 ⟨s1, hD⟩
      refine ⟨D, _, rfl, SqL.of hD, ?_⟩
      rw [all_true]
      refine ⟨_, rfl, iteF ?_⟩
      have hp2 := s1 _ _ hp1
      refine ⟨.ref p, rfl, p, zs, rfl, .inr (SqT.of hp2), by omega, znd, fun H2 s2 => ⟨_, rfl, iteF ?_⟩⟩
      have s02 := s1.trans s2
      refine ⟨.ref r, rfl, r, c, zs.map Sum.inl, rfl, ⟨p, _, s02 _ _ hr1, s02 _ _ hp1, Parts.names zs⟩, trivial, by rw [namesOf_names]; omega, fun l H3 s3 nl hl => ?_⟩
      rw [namesOf_names] at hl
      refine ⟨.ref l, rfl, l, _, rfl, .inl (SqL.of hl), _, _, rfl, rfl, _, rfl, ?_⟩
      rw [List.length_map, decide_eq_true (show ((zs.length : Nat) : Int) ≤ 12 by omega)]
      refine iteT ⟨.ref l, rfl, l, zs, rfl, .inl (SqL.of hl), by omega, fun a m na hm => ⟨a, _, m, rfl, upd_same, by omega, fun _ => ⟨_, _, rfl, rfl, ?_⟩⟩⟩
      show Q (.bl (decide ((m : Int) ≤ 8))) _
      rw [decide_eq_true (show (m : Int) ≤ 8 by omega)]
      exact q _ ((s02.trans s3).trans (same_new na))
/-! requirements_by_name -/
abbrev sRb : Stmt := top 35
abbrev nRb : List Str := ["rows", "requirements", "name", "requirement"]
theorem scRb : FnScope nRb ["rows"] (defScope sRb) := ⟨rfl, rfl, rfl, by decide +kernel, rfl, by decide +kernel, by decide +kernel⟩
/-- what rows of this kind keep -/
structure Fit (H : Hp) (c : Int) (xs : List Str) (rs : Rws) : Prop where
  nd : xs.Nodup
  few : xs.length ≤ 8
  nm : ∀ x ∈ xs, Nm x
  c1 : 1 ≤ c
  c2 : c ≤ (xs.length : Int)
  keys : (rs.map (·.1)).Perm xs
  each : ∀ q ∈ rs, Uni H q.2 c xs
theorem Fit.same {H H' : Hp} {c : Int} {xs : List Str} {rs : Rws} (h : Fit H c xs rs) (s : Same H H') : Fit H' c xs rs := { h with each := fun q m => (h.each q m).same s }
theorem Fit.len {H : Hp} {c : Int} {xs : List Str} {rs : Rws} (h : Fit H c xs rs) : rs.length = xs.length := by
  have := h.keys.length_eq
  rwa [List.length_map] at this
def spRb (K : PySem.W.Frag) : Sp := fun vs H Q _ => ∃ (l : Addr) (ts : List Addr) (rs : Rws) (c : Int) (xs : List Str), vs = [.ref l] ∧ SqL K H l (ts.map V.ref) ∧ RowsAt H ts rs ∧ Fit H c xs rs ∧ ∀ (D : Addr) (H' : Hp), Same H H' → H D = none → H' D = some (.dK (kvs rs)) → Q (.ref D) H'
theorem ok_byname {f f1 f2 : Addr} {fd fd1 fd2 : FuncData} {k : Nat} (F : Fun K "requirements_by_name" "requirements_by_name" sRb f fd) (T : Bq mg)
    (F1 : Fun K "is_name" "is_name" sIn f1 fd1) (b1 : Binds K fd1 ["value"] []) (g1 : mg "is_name" = some (.ref f1)) (G1 : FnOk P w K mg base CX0 k f1 fd1 ["value"] spIn)
    (F2 : Fun K "is_requirement" "is_requirement" sIr f2 fd2) (b2 : Binds K fd2 ["value"] []) (g2 : mg "is_requirement" = some (.ref f2)) (G2 : FnOk P w K mg base CX0 k f2 fd2 ["value"] spIr) :
    FnOk P w K mg base CX0 (k + 1) f fd ["rows"] (spRb K) := by
  refine F.ok scRb (fun vs H Q E h => ?_) (fun cdv A outer s H vs Q E hr h => ?_)
  · obtain ⟨l, ts, rs, c, xs, rfl, _⟩ := h
    rfl
  · obtain ⟨l, ts, rs, c, xs, rfl, hl, ra, fit, q⟩ := h
    have hu := hu_of hr
    refine ⟨_, pss_cons (ps_set (i := 1) scRb.nd rfl (Or.inl rfl) pe_dnewK)
      (pss_cons (ps_for PassesOwn.never rfl (pi_list (pv 0)) (pg_tup (by rfl) (pgs_cons (pg_name (i := 2) scRb.nd rfl (Or.inl rfl)) (pgs_cons (pg_name (i := 3) scRb.nd rfl (Or.inl rfl)) pgs_nil)))
        (pss_cons (ps_if (pt_not (pt_val (pe_call G1 hr (by rfl) g1 F1.kp b1 .nil pass0 (pa_cons (pv 2) pa_nil)))) (pss_one ps_never) pss_nil)
        (pss_cons (ps_if (pt_cmp (pc_din hu (pv 2) (pv 1))) (pss_one ps_never) pss_nil)
        (pss_cons (ps_if (pt_not (pt_val (pe_call G2 hr (by rfl) g2 F2.kp b2 .nil pass0 (pa_cons (pv 3) pa_nil)))) (pss_one ps_never) pss_nil)
        (pss_one (ps_dput hu (pv 1) (pv 2) (pv 3) rfl))))))
      (pss_one (ps_ret (pv 1)))), ?_⟩
    intro D nD
    have flen := fit.len
    have few := fit.few
    have knd : (rs.map (·.1)).Nodup := fit.keys.nodup_iff.mpr fit.nd
    refine ⟨.ref l, rfl, l, rfl, ⟨_, Same.seq (same_new nD) hl⟩, for_list (K := K) (a := l) (xs := ts.map V.ref) (fun i σ H1 => ∃ (y2 y3 : Option V), σ = [some (.ref l), some (.ref D), y2, y3] ∧ Same H H1 ∧ H1 D = some (.dK (kvs (rs.take i)))) ?_ ?_ ?_ ?_⟩
    · exact ⟨none, none, rfl, same_new nD, upd_same⟩
    · rintro i σ H1 _ ⟨_, _, _, s1, _⟩
      exact Same.seq s1 hl
    · rintro i y σ H1 hy ⟨y2, y3, rfl, s1, hD⟩
      rw [List.getElem?_map] at hy
      obtain ⟨t, ht, rfl⟩ := Option.map_eq_some_iff.mp hy
      obtain ⟨x, r, hxr, htt⟩ := ra.2 i t ht
      have mem : (x, r) ∈ rs := List.mem_of_getElem? hxr
      have tk : rs.take (i + 1) = rs.take i ++ [(x, r)] := by
        rw [List.take_add_one, hxr]
        rfl
      have xin : x ∈ xs := fit.keys.mem_iff.mp (List.mem_map.mpr ⟨_, mem, rfl⟩)
      have new : x ∉ (rs.take i).map (·.1) := by
        intro m
        have e : rs.map (·.1) = (rs.take i).map (·.1) ++ (rs.drop i).map (·.1) := by rw [← List.map_append, List.take_append_drop]
        rw [e] at knd
        refine (List.nodup_append.mp knd).2.2 x m x ?_ rfl
        refine List.mem_map.mpr ⟨(x, r), ?_, rfl⟩
        exact List.mem_of_getElem? (i := 0) (by rw [List.getElem?_drop]; exact hxr)
      refine ⟨t, _, rfl, SqT.of (s1 _ _ htt), rfl, _, _, rfl, _, _, rfl, rfl, ?_⟩
      refine ⟨.str x, rfl, x, rfl, fit.nm x xin, fun H2 s2 => ⟨_, rfl, iteF ?_⟩⟩
      have hD2 := s2 _ _ hD
      refine ⟨.str x, rfl, .ref D, rfl, D, _, rfl, DGet.k (k := Sum.inr x) hD2, _, rfl, ?_⟩
      rw [val_out new]
      refine iteF ?_
      have u2 : Uni H2 r c xs := (fit.each _ mem).same (s1.trans s2)
      refine ⟨.ref r, rfl, r, c, xs, rfl, u2, fit.nd, few, fit.nm, fit.c1, fit.c2, fun H3 s3 => ⟨_, rfl, iteF ?_⟩⟩
      have hD3 := s3 _ _ hD2
      refine ⟨.ref r, rfl, .ref D, rfl, .str x, rfl, D, _, rfl, DPut.k (k := Sum.inr x) hD3 ?_, ?_⟩
      · rw [kvs_len, List.length_take]
        exact small1000 (by omega)
      · refine ⟨_, _, rfl, fun d o e => ?_, ?_⟩
        · rw [upd_ne (ne_of_none e nD)]
          exact s3 _ _ (s2 _ _ (s1 d o e))
        · rw [upd_same, putK_new _ (val_out new), tk]
          show some (HO.dK (kvs (rs.take i) ++ _)) = some (HO.dK ((rs.take i ++ [(x, r)]).map _))
          rw [List.map_append]
          rfl
    · rintro σ H1 ⟨y2, y3, rfl, s1, hD⟩
      rw [List.length_map, ra.1, List.take_length] at hD
      exact ⟨.ref D, rfl, q D H1 s1 nD hD⟩
end
end Moot
namespace Moot
open PySem PySem.Spec PyProof.Rows L2
/-- all but what stands at D stays -/
def But (D : Addr) (H H' : Hp) : Prop := ∀ b o, H b = some o → b ≠ D → H' b = some o
theorem But.refl (D : Addr) (H : Hp) : But D H H := fun _ _ e _ => e
theorem But.same {D : Addr} {H H1 H2 : Hp} (b : But D H H1) (s : Same H1 H2) : But D H H2 := fun c o e n => s c o (b c o e n)
theorem but_upd {D : Addr} {H : Hp} {o : HO} : But D H (upd H D o) := fun b u e n => by rw [upd_ne n]; exact e
theorem But.uni {D : Addr} {H H' : Hp} {rs : Rws} {r : Addr} {c : Int} {xs : List Str} (b : But D H H') (hD : H D = some (.dK (kvs rs))) (h : Uni H r c xs) : Uni H' r c xs := by
  obtain ⟨p, zs, h1, h2, h3⟩ := h
  exact ⟨p, zs, b _ _ h1 (ne_of h1 hD (by intro z; cases z)), b _ _ h2 (ne_of h2 hD (by intro z; cases z)), h3⟩
section
variable {P : Program} {w : World} {K : PySem.W.Frag} {mg : Str → Option Value} {base : Heap}
/-! check_names_used -/
abbrev sCu : Stmt := top 36
abbrev nCu : List Str := ["requirements", "name", "used"]
theorem scCu : FnScope nCu ["requirements"] (defScope sCu) := ⟨rfl, rfl, rfl, by decide +kernel, rfl, by decide +kernel, by decide +kernel⟩
def spCu : Sp := fun vs H Q _ => ∃ (D : Addr) (rs : Rws) (c : Int) (xs : List Str), vs = [.ref D] ∧ H D = some (.dK (kvs rs)) ∧ Fit H c xs rs ∧ ∀ H', Same H H' → Q .non H'
theorem ok_used {f f1 : Addr} {fd fd1 : FuncData} {k : Nat} (F : Fun K "check_names_used" "check_names_used" sCu f fd) (T : Bq mg)
    (F1 : Fun K "names_in" "names_in" sNin f1 fd1) (b1 : Binds K fd1 ["requirement"] []) (g1 : mg "names_in" = some (.ref f1)) (G1 : FnOk P w K mg base CX0 k f1 fd1 ["requirement"] spNin) : FnOk P w K mg base CX0 (k + 1) f fd ["requirements"] spCu := by
  refine F.ok scCu (fun vs H Q E h => ?_) (fun cdv A outer s H vs Q E hr h => ?_)
  · obtain ⟨D, rs, c, xs, rfl, _⟩ := h
    rfl
  · obtain ⟨D, rs, c, xs, rfl, hD, fit, q⟩ := h
    have hu := hu_of hr
    refine ⟨_, pss_one (ps_lock (ps_for PassesOwn.never rfl (pi_keys (pv 0)) (pg_name (i := 1) scCu.nd rfl (Or.inl rfl))
      (pss_one (ps_for PassesOwn.never rfl (pi_tup (pe_call G1 hr (by rfl) g1 F1.kp b1 .nil pass0 (pa_cons (pe_dget hu (pv 0) (pv 1) (fun _ _ => rfl)) pa_nil))) (pg_name (i := 2) scCu.nd rfl (Or.inl rfl))
        (pss_one (ps_if (pt_cmp (pc_dnotin hu (pv 2) (pv 0))) (pss_one ps_never) pss_nil)))))), ?_⟩
    refine ⟨D, _, hD, trivial, fun od => ?_⟩
    have bt : But D H (upd H D (.frz od (.dK (kvs rs)))) := but_upd
    have hF : upd H D (.frz od (.dK (kvs rs))) D = some (.frz od (.dK (kvs rs))) := upd_same
    generalize upd H D (.frz od (.dK (kvs rs))) = H1 at bt hF ⊢
    refine ⟨.ref D, rfl, D, od, rfl, .inl ⟨_, hF, ?_⟩⟩
    refine for_it walk_keys (fun i σ H2 => ∃ y1 y2 : Option V, σ = [some (.ref D), y1, y2] ∧ But D H H2 ∧ H2 D = some (.frz od (.dK (kvs rs)))) ⟨none, none, rfl, bt, hF⟩ (fun i σ H2 _ ⟨_, _, _, _, h⟩ => h) ?_ ?_
    · rintro i x σ H2 H2' hi ⟨y1, y2, rfl, bt2, hF2⟩ ⟨rfl, kk, vv, hkv, rfl⟩
      obtain ⟨⟨x, r⟩, hxr, e⟩ : ∃ q, rs[i]? = some q ∧ ((Sum.inr q.1 : L2.Key), V.ref q.2) = (kk, vv) := by
        unfold kvs at hkv
        rw [List.getElem?_map] at hkv
        obtain ⟨q, h1, h2⟩ := Option.map_eq_some_iff.mp hkv
        exact ⟨q, h1, h2⟩
      cases e
      have mem : (x, r) ∈ rs := List.mem_of_getElem? hxr
      obtain ⟨r', mem', hv⟩ := val_in (rs := rs) (y := x) (List.mem_map.mpr ⟨_, mem, rfl⟩)
      have u2 := bt2.uni hD (fit.each _ mem')
      obtain ⟨zs, R, pm⟩ := u2.req
      have few := fit.few
      have zl := pm.length_eq
      refine ⟨.ref D, rfl, .str x, rfl, D, _, rfl, .inl ⟨_, Sum.inr x, .inr ⟨od, hF2⟩, rfl, hv.symm⟩, ?_⟩
      refine ⟨r', c, zs.map Sum.inl, rfl, R, by rw [namesOf_names]; omega, fun p ys H3 s3 np hp srt nd mem3 => ?_⟩
      refine ⟨p, rfl, ⟨_, SqT.of hp⟩, for_tup (K := K) (a := p) (xs := ys.map V.str) (fun j σ H4 => H4 = H3 ∧ ∃ y2 : Option V, σ = [some (.ref D), some (.str x), y2]) ⟨rfl, _, rfl⟩ (fun j σ H4 _ ⟨e, _⟩ => by rw [e]; exact SqT.of hp) ?_ ?_⟩
      · rintro j y σ H4 hy ⟨rfl, y2', rfl⟩
        rw [List.getElem?_map] at hy
        obtain ⟨z, hz, rfl⟩ := Option.map_eq_some_iff.mp hy
        have mz : z ∈ rs.map (·.1) := by
          have := (mem3 z).mp (List.mem_of_getElem? hz)
          rw [namesOf_names] at this
          exact fit.keys.mem_iff.mpr (pm.mem_iff.mp this)
        obtain ⟨r2, _, hv2⟩ := val_in mz
        refine ⟨.str z, rfl, .ref D, rfl, D, _, rfl, .inl ⟨_, Sum.inr z, .inr ⟨od, s3 _ _ hF2⟩, rfl, hv2.symm⟩, _, rfl, iteF ⟨rfl, _, rfl⟩⟩
      · rintro σ H4 ⟨rfl, y2', rfl⟩
        exact ⟨_, _, rfl, bt2.same s3, s3 _ _ hF2⟩
    · rintro σ H2 ⟨y1, y2, rfl, bt2, hF2⟩
      refine ⟨hF2, q _ fun b o e => ?_⟩
      by_cases eb : b = D
      · subst eb
        rw [hD] at e
        cases e
        exact upd_same
      · rw [upd_ne eb]
        exact bt2 b o e eb
/-! Network -/
structure Txt (K : PySem.W.Frag) (mg : Str → Option Value) (C : Addr) : Prop where
  cl : Cls K C
  nR : NoAttr K C "requirements"
  mgC : mg "Network" = some (.ref C)
abbrev fld (D : Addr) : List (Str × V) := [("requirements", V.ref D)]
theorem fld_get (D : Addr) : (fld D).lookup ("requirements" : Str) = some (.ref D) := by
  have e : fld D = putF "requirements" (V.ref D) [] := rfl
  rw [e, lookup_putF, if_pos rfl]
/-- a network of nodes that each require c of all -/
structure NetAt (C : Addr) (H : Hp) (net D : Addr) (c : Int) (xs : List Str) (rs : Rws) : Prop where
  ob : ∃ dx, H net = some (.ins C dx (fld D))
  dc : H D = some (.dK (kvs rs))
  fit : Fit H c xs rs
  srt : Srt (rs.map (·.1))
theorem NetAt.same {C : Addr} {H H' : Hp} {net D : Addr} {c : Int} {xs : List Str} {rs : Rws} (h : NetAt C H net D c xs rs) (s : Same H H') : NetAt C H' net D c xs rs :=
  ⟨let ⟨dx, e⟩ := h.ob; ⟨dx, s _ _ e⟩, s _ _ h.dc, h.fit.same s, h.srt⟩
abbrev sNi : Stmt := inClass (top 37) 0
abbrev nNi : List Str := ["self", "rows", "requirements", "name"]
theorem scNi : FnScope nNi ["self", "rows"] (defScope sNi) := ⟨rfl, rfl, rfl, by decide +kernel, rfl, by decide +kernel, by decide +kernel⟩
def spNi (K : PySem.W.Frag) (C : Addr) : Sp := fun vs H Q _ => ∃ (net dx l : Addr) (ts : List Addr) (rs : Rws) (c : Int) (xs : List Str), vs = [.ref net, .ref l] ∧ H net = some (.ins C dx []) ∧ SqL K H l (ts.map V.ref) ∧ RowsAt H ts rs ∧ Fit H c xs rs ∧
  ∀ (D : Addr) (rs' : Rws) (H' : Hp), NetAt C H' net D c xs rs' → But net H H' → Q .non H'
theorem pairs_of {rs : Rws} : ∀ (ys : List Str), (∀ y ∈ ys, y ∈ rs.map (·.1)) → ∃ rs' : Rws, rs'.map (·.1) = ys ∧ (∀ q ∈ rs', q ∈ rs ∧ valV (kvs rs) (Sum.inr q.1 : L2.Key) = some (.ref q.2))
  | [], _ => ⟨[], rfl, fun q m => by cases m⟩
  | y :: ys, h => by
    obtain ⟨r, m, e⟩ := val_in (h y List.mem_cons_self)
    obtain ⟨rs', e1, e2⟩ := pairs_of (rs := rs) ys fun z mz => h z (List.mem_cons_of_mem _ mz)
    refine ⟨(y, r) :: rs', by rw [List.map_cons, e1], fun q mq => ?_⟩
    rcases List.mem_cons.mp mq with rfl | mq
    · exact ⟨m, e⟩
    · exact e2 q mq
theorem ok_netinit {f C f1 f2 e : Addr} {fd fd1 fd2 : FuncData} {k : Nat} (F : FunD K "__init__" "Network.__init__" (defArgs sNi) (defBody sNi) (defScope sNi) [.ref e] [] f fd) (T : Bq mg) (X : Txt K mg C)
    (F1 : Fun K "requirements_by_name" "requirements_by_name" sRb f1 fd1) (b1 : Binds K fd1 ["rows"] []) (g1 : mg "requirements_by_name" = some (.ref f1)) (G1 : FnOk P w K mg base CX0 k f1 fd1 ["rows"] (spRb K))
    (F2 : Fun K "check_names_used" "check_names_used" sCu f2 fd2) (b2 : Binds K fd2 ["requirements"] []) (g2 : mg "check_names_used" = some (.ref f2)) (G2 : FnOk P w K mg base CX0 k f2 fd2 ["requirements"] spCu) :
    FnOk P w K mg base CX0 (k + 1) f fd ["self", "rows"] (spNi K C) := by
  refine F.ok scNi (fun vs H Q E h => ?_) (fun cdv A outer s H vs Q E hr h => ?_)
  · obtain ⟨net, dx, l, ts, rs, c, xs, rfl, _⟩ := h
    rfl
  · obtain ⟨net, dx, l, ts, rs, c, xs, rfl, hn, hl, ra, fit, q⟩ := h
    have hu := hu_of hr
    refine ⟨_, pss_cons (ps_set (i := 2) scNi.nd rfl (Or.inr rfl) (pe_call G1 hr (by rfl) g1 F1.kp b1 .nil pass0 (pa_cons (pv 1) pa_nil)))
      (pss_cons (ps_expr (pe_call G2 hr (by rfl) g2 F2.kp b2 .nil pass0 (pa_cons (pv 2) pa_nil)))
      (pss_one (ps_fld (pv 0) (pe_dc (own := [("name", 3)]) (g := gName 3) (tt := tYes) (by rfl) scNi.nd (pi_list (pe_callB (call_sortedD rfl) (by rfl) T.T.srt (by decide +kernel) (pa_cons (pv 2) pa_nil))) (blkOk_by (N := nNi) (sc := defScope sNi) (by decide +kernel))
        (fun _ _ _ _ _ => pg_name (i := 3) scNi.nd rfl (Or.inl rfl)) (fun _ _ _ _ _ => pts_nil) (fun _ _ _ _ _ => pv 3) (fun _ _ _ _ _ => pe_dget hu (pv 2) (pv 3) (fun _ _ => rfl))) rfl))), ?_⟩
    refine ⟨.ref l, rfl, l, ts, rs, c, xs, rfl, hl, ra, fit, fun D H1 s1 nD hD => ?_⟩
    refine ⟨.ref D, rfl, D, rs, c, xs, rfl, hD, fit.same s1, fun H2 s2 => ?_⟩
    have hD2 := s2 _ _ hD
    have flen := fit.len
    have few := fit.few
    refine ⟨.ref D, rfl, D, _, rs.map (·.1), rfl, .inl hD2, by unfold kvs; rw [List.map_map, List.map_map]; rfl, by rw [List.length_map]; omega, fun ys p pm srt np => ?_⟩
    have s3 := same_new (o := .lst (ys.map V.str)) np
    have hp : (upd H2 p (.lst (ys.map V.str))) p = some (.lst (ys.map V.str)) := upd_same
    generalize upd H2 p (.lst (ys.map V.str)) = H3 at s3 hp ⊢
    obtain ⟨rs', e1, e2⟩ := pairs_of (rs := rs) ys fun y my => pm.mem_iff.mp my
    have nd1 : (rs.map (·.1)).Nodup := fit.keys.nodup_iff.mpr fit.nd
    have nd2 : ys.Nodup := pm.nodup_iff.mpr nd1
    have l2 : rs'.length = ys.length := by rw [← e1, List.length_map]
    refine ⟨p, rfl, ⟨_, SqL.of hp⟩, fun D2 nD2 => ?_⟩
    refine dc_it (walk_list (K := K) (a := p) (xs := ys.map V.str)) (fun i H4 => Same H3 H4 ∧ H4 D2 = some (.dK (kvs (rs'.take i)))) ⟨same_new nD2, upd_same⟩ (fun i H4 _ h => SqL.of (h.1 _ _ hp)) ?_ ?_
    · rintro i x H4 H4' hi ⟨s4, hD4⟩ ⟨rfl, hx⟩
      rw [List.getElem?_map] at hx
      obtain ⟨y, hy, rfl⟩ := Option.map_eq_some_iff.mp hx
      obtain ⟨r, hr'⟩ : ∃ r, rs'[i]? = some (y, r) := by
        rw [← e1, List.getElem?_map] at hy
        obtain ⟨⟨y', r⟩, h1, h2⟩ := Option.map_eq_some_iff.mp hy
        cases h2
        exact ⟨r, h1⟩
      have val := (e2 _ (List.mem_of_getElem? hr')).2
      have tk : rs'.take (i + 1) = rs'.take i ++ [(y, r)] := by
        rw [List.take_add_one, hr']
        rfl
      have new : y ∉ (rs'.take i).map (·.1) := by
        intro m
        have e : rs'.map (·.1) = (rs'.take i).map (·.1) ++ (rs'.drop i).map (·.1) := by rw [← List.map_append, List.take_append_drop]
        rw [← e1, e] at nd2
        refine (List.nodup_append.mp nd2).2.2 y m y ?_ rfl
        exact List.mem_map.mpr ⟨(y, r), List.mem_of_getElem? (i := 0) (by rw [List.getElem?_drop]; exact hr'), rfl⟩
      have hDD := s4 _ _ (s3 _ _ hD2)
      refine ⟨rfl, .str y, rfl, .ref D, rfl, .str y, rfl, D, _, rfl, .inl ⟨_, Sum.inr y, .inl hDD, rfl, val.symm⟩, _, Sum.inr y, rfl, hD4, ?_, fun b o eb => ?_, ?_⟩
      · rw [kvs_len, List.length_take]
        have := pm.length_eq
        rw [List.length_map] at this
        exact small1000 (by omega)
      · rw [upd_ne (ne_of_none eb nD2)]
        exact s4 b o eb
      · rw [upd_same, putK_new _ (val_out new), tk]
        show some (HO.dK (kvs (rs'.take i) ++ _)) = some (HO.dK ((rs'.take i ++ [(y, r)]).map _))
        rw [List.map_append]
        rfl
    · rintro H4 ⟨s4, hD4⟩
      rw [List.length_map, ← l2, List.take_length] at hD4
      have s04 : Same H H4 := ((s1.trans s2).trans s3).trans s4
      have nD2n : D2 ≠ net := (ne_of_none (s3 _ _ (s2 _ _ (s1 _ _ hn))) nD2).symm
      refine ⟨.ref net, rfl, net, C, dx, [], rfl, s04 _ _ hn, X.cl, X.nR, by show 0 < 1000; decide, ?_⟩
      have bt : But net H (upd H4 net (.ins C dx (putF "requirements" (.ref D2) []))) := fun b o eb nb => by
        rw [upd_ne nb]
        exact s04 b o eb
      have unis : ∀ r, Uni H r c xs → Uni (upd H4 net (.ins C dx (putF "requirements" (.ref D2) []))) r c xs := fun r u => by
        obtain ⟨p', zs, h1, h2, h3⟩ := u
        exact ⟨p', zs, bt _ _ h1 (ne_of h1 hn (by intro z; cases z)), bt _ _ h2 (ne_of h2 hn (by intro z; cases z)), h3⟩
      refine q D2 rs' _ ⟨⟨dx, upd_same⟩, ?_, ⟨fit.nd, fit.few, fit.nm, fit.c1, fit.c2, ?_, fun q mq => unis _ (fit.each _ (e2 q mq).1)⟩, ?_⟩ bt
      · rw [upd_ne nD2n]
        exact hD4
      · rw [e1]
        exact pm.trans fit.keys
      · rw [e1]
        exact sorted_pairs srt
/-! node_names -/
abbrev sNn : Stmt := inClass (top 37) 3
theorem scNn : FnScope ["self"] ["self"] (defScope sNn) := ⟨rfl, rfl, rfl, by decide +kernel, rfl, by decide +kernel, by decide +kernel⟩
def spNn (C : Addr) : Sp := fun vs H Q _ => ∃ (net D : Addr) (c : Int) (xs : List Str) (rs : Rws), vs = [.ref net] ∧ NetAt C H net D c xs rs ∧ ∀ (p : Addr) (H' : Hp), Same H H' → H p = none → H' p = some (.tup ((rs.map (·.1)).map V.str)) → Q (.ref p) H'
theorem ok_nodenames {f C : Addr} {fd : FuncData} {k : Nat} (F : Fun K "node_names" "Network.node_names" sNn f fd) (T : Bq mg) (X : Txt K mg C) : FnOk P w K mg base CX0 (k + 1) f fd ["self"] (spNn C) := by
  refine F.ok scNn (fun vs H Q E h => ?_) (fun cdv A outer s H vs Q E hr h => ?_)
  · obtain ⟨net, D, c, xs, rs, rfl, _⟩ := h
    rfl
  · obtain ⟨net, D, c, xs, rs, rfl, N, q⟩ := h
    refine ⟨_, pss_one (ps_ret (pe_callTy (call_tuple_dK rfl) (by rfl) T.T.tup (by decide +kernel) (pa_cons (pe_fld (pv 0) rfl) pa_nil))), ?_⟩
    obtain ⟨dx, hn⟩ := N.ob
    refine ⟨.ref net, rfl, net, C, dx, _, _, rfl, hn, X.cl, X.nR, fld_get D, D, _, rfl, N.dc, fun p np => ?_⟩
    have e : (kvs rs).map (fun kv => kV kv.1) = (rs.map (·.1)).map V.str := by
      unfold kvs
      rw [List.map_map, List.map_map]
      rfl
    rw [e]
    exact q p _ (same_new np) np upd_same
/-! check_nodes -/
abbrev sCn : Stmt := inClass (top 37) 5
abbrev nCn : List Str := ["self", "names", "name"]
theorem scCn : FnScope nCn ["self", "names"] (defScope sCn) := ⟨rfl, rfl, rfl, by decide +kernel, rfl, by decide +kernel, by decide +kernel⟩
def spCn (K : PySem.W.Frag) (C : Addr) : Sp := fun vs H Q _ => ∃ (net D a : Addr) (c : Int) (xs : List Str) (rs : Rws) (S : List Str), vs = [.ref net, .ref a] ∧ NetAt C H net D c xs rs ∧ NodesAt K H a S ∧ (∀ x ∈ S, x ∈ xs) ∧ Q .non H
end
end Moot
namespace Moot
open PySem PySem.Spec PyProof.Rows L2
theorem pi_or {X : Cx} {tg e : Expr} {w1 w2 : TI} (h1 : PI X tg e w1) (h2 : PI X tg e w2) : PI X tg e (fun σ H R => w1 σ H R ∨ w2 σ H R) :=
  ⟨fun pins s σ H R I h => h.elim (h1.run pins s σ H R I) (h2.run pins s σ H R I)⟩
theorem fld_no (D : Addr) {m : Str} (h : ¬ m = "requirements") : (fld D).lookup m = none := by
  have e : fld D = putF "requirements" (V.ref D) [] := rfl
  rw [e, lookup_putF, if_neg h]
  rfl
theorem short_names (zs : List Str) : Short (zs.map Sum.inl) := fun c ns m => by
  obtain ⟨z, _, e⟩ := List.mem_map.mp m
  cases e
def headV : List Str → V
  | [] => .non
  | x :: _ => .str x
/-- what first_removable gives -/
def frV (xs : List Str) (c : Int) (R Fs : List Str) : V := if c ≤ ((cnt xs (R ++ Fs) : Nat) : Int) then .non else headV R
/-- what is removed, what remains -/
def ordL (c : Int) (f : Nat) (L : List Str) : List Str := if c ≤ (L.length : Int) + (f : Int) then [] else L
def lqL (c : Int) (f : Nat) (L : List Str) : List Str := if c ≤ (L.length : Int) + (f : Int) then L else []
theorem lq_out (c : Int) (f : Nat) (L : List Str) : (L.filter fun x => decide (x ∉ ordL c f L)) = lqL c f L := by
  unfold ordL lqL
  split
  · exact List.filter_eq_self.mpr fun x _ => by simp
  · exact List.filter_eq_nil_iff.mpr fun x m => by simpa using m
/-- the set that counts as failed -/
structure Fl (xs Fs : List Str) : Prop where
  nd : Fs.Nodup
  inn : ∀ x ∈ Fs, x ∈ xs
section
variable {P : Program} {w : World} {K : PySem.W.Frag} {mg : Str → Option Value} {base : Heap}
theorem ok_checknodes {f C : Addr} {fd : FuncData} {k : Nat} (F : Fun K "check_nodes" "Network.check_nodes" sCn f fd) (T : Bq mg) (X : Txt K mg C) : FnOk P w K mg base CX0 (k + 1) f fd ["self", "names"] (spCn K C) := by
  refine F.ok scCn (fun vs H Q E h => ?_) (fun cdv A outer s H vs Q E hr h => ?_)
  · obtain ⟨net, D, a, c, xs, rs, S, rfl, _⟩ := h
    rfl
  · obtain ⟨net, D, a, c, xs, rs, S, rfl, N, ha, sub, q⟩ := h
    have hu := hu_of hr
    obtain ⟨dx, hn⟩ := N.ob
    refine ⟨_, pss_one (ps_for PassesOwn.never rfl (pi_or (pi_list (pv 1)) (pi_tup (pv 1))) (pg_name (i := 2) scCn.nd rfl (Or.inl rfl))
      (pss_one (ps_if (pt_cmp (pc_dnotin hu (pv 2) (pe_fld (pv 0) rfl))) (pss_one ps_never) pss_nil))), ?_⟩
    rcases ha with ha | ha
    · refine .inl ⟨.ref a, rfl, a, rfl, ⟨_, ha⟩, for_it (walk_list (K := K) (a := a) (xs := S.map V.str)) (fun i σ H1 => H1 = H ∧ ∃ y2 : Option V, σ = [some (.ref net), some (.ref a), y2]) ⟨rfl, none, rfl⟩ (fun i σ H1 _ ⟨e, _⟩ => by rw [e]; exact ha) ?_ ?_⟩
      · rintro i y σ H1 H2 hi ⟨rfl, y2, rfl⟩ ⟨rfl, hy⟩
        rw [List.getElem?_map] at hy
        obtain ⟨z, hz, rfl⟩ := Option.map_eq_some_iff.mp hy
        obtain ⟨r, _, hv⟩ := val_in (N.fit.keys.mem_iff.mpr (sub z (List.mem_of_getElem? hz)))
        exact ⟨.str z, rfl, .ref net, rfl, net, C, dx, _, _, rfl, hn, X.cl, X.nR, fld_get D, D, _, rfl, .inl ⟨_, Sum.inr z, .inl N.dc, rfl, hv.symm⟩, _, rfl, iteF ⟨rfl, _, rfl⟩⟩
      · rintro σ H1 ⟨rfl, y2, rfl⟩
        exact q
    · refine .inr ⟨.ref a, rfl, a, rfl, ⟨_, ha⟩, for_it (walk_tup (K := K) (a := a) (xs := S.map V.str)) (fun i σ H1 => H1 = H ∧ ∃ y2 : Option V, σ = [some (.ref net), some (.ref a), y2]) ⟨rfl, none, rfl⟩ (fun i σ H1 _ ⟨e, _⟩ => by rw [e]; exact ha) ?_ ?_⟩
      · rintro i y σ H1 H2 hi ⟨rfl, y2, rfl⟩ ⟨rfl, hy⟩
        rw [List.getElem?_map] at hy
        obtain ⟨z, hz, rfl⟩ := Option.map_eq_some_iff.mp hy
        obtain ⟨r, _, hv⟩ := val_in (N.fit.keys.mem_iff.mpr (sub z (List.mem_of_getElem? hz)))
        exact ⟨.str z, rfl, .ref net, rfl, net, C, dx, _, _, rfl, hn, X.cl, X.nR, fld_get D, D, _, rfl, .inl ⟨_, Sum.inr z, .inl N.dc, rfl, hv.symm⟩, _, rfl, iteF ⟨rfl, _, rfl⟩⟩
      · rintro σ H1 ⟨rfl, y2, rfl⟩
        exact q
/-! requirement_of -/
abbrev sRo : Stmt := inClass (top 37) 7
theorem scRo : FnScope ["self", "name"] ["self", "name"] (defScope sRo) := ⟨rfl, rfl, rfl, by decide +kernel, rfl, by decide +kernel, by decide +kernel⟩
def spRo (C : Addr) : Sp := fun vs H Q _ => ∃ (net D : Addr) (c : Int) (xs : List Str) (rs : Rws) (x : Str), vs = [.ref net, .str x] ∧ NetAt C H net D c xs rs ∧ x ∈ xs ∧ ∀ (r : Addr) (H' : Hp), Same H H' → Uni H' r c xs → Q (.ref r) H'
theorem ok_reqof {f f1 C : Addr} {fd fd1 : FuncData} {k : Nat} (F : Fun K "requirement_of" "Network.requirement_of" sRo f fd) (T : Bq mg) (X : Txt K mg C) (M1 : Meth K C "check_nodes" f1) (b1 : Binds K fd1 ["self", "names"] []) (G1 : FnOk P w K mg base CX0 k f1 fd1 ["self", "names"] (spCn K C)) :
    FnOk P w K mg base CX0 (k + 1) f fd ["self", "name"] (spRo C) := by
  refine F.ok scRo (fun vs H Q E h => ?_) (fun cdv A outer s H vs Q E hr h => ?_)
  · obtain ⟨net, D, c, xs, rs, x, rfl, _⟩ := h
    rfl
  · obtain ⟨net, D, c, xs, rs, x, rfl, N, mx, q⟩ := h
    have hu := hu_of hr
    obtain ⟨dx, hn⟩ := N.ob
    refine ⟨_, pss_cons (ps_expr (pe_meth (pv 0) X.cl M1 G1 hr b1 .nil pass0 (pa_cons (pe_lst (pa_cons (pv 1) pa_nil)) pa_nil)))
      (pss_one (ps_ret (pe_dget hu (pe_fld (pv 0) rfl) (pv 1) (fun _ _ => rfl)))), ?_⟩
    refine ⟨.ref net, rfl, net, dx, _, rfl, hn, fld_no D (by decide +kernel), .str x, rfl, by show 1 ≤ sizeLine; decide, fun l nl => ?_⟩
    have s1 := same_new (o := .lst [.str x]) nl
    have hl : (upd H l (.lst [.str x])) l = some (.lst ([x].map V.str)) := upd_same
    generalize upd H l (.lst [.str x]) = H1 at s1 hl ⊢
    have N1 := N.same s1
    obtain ⟨dx1, hn1⟩ := N1.ob
    obtain ⟨r, mr, hv⟩ := val_in (N1.fit.keys.mem_iff.mpr mx)
    refine ⟨net, D, l, c, xs, rs, [x], rfl, N1, .inl (SqL.of hl), fun y my => by rw [List.mem_singleton.mp my]; exact mx, ?_⟩
    exact ⟨.ref net, rfl, net, C, dx1, _, _, rfl, hn1, X.cl, X.nR, fld_get D, .str x, rfl, D, _, rfl, .inl ⟨_, Sum.inr x, .inl N1.dc, rfl, hv.symm⟩, q r H1 s1 (N1.fit.each _ mr)⟩
/-! can_be_removed -/
abbrev sCr : Stmt := top 20
abbrev nCr : List Str := ["network", "name", "nodes", "faulty"]
theorem scCr : FnScope nCr ["network", "name", "nodes", "faulty"] (defScope sCr) := ⟨rfl, rfl, rfl, by decide +kernel, rfl, by decide +kernel, by decide +kernel⟩
def spCr (K : PySem.W.Frag) (C : Addr) : Sp := fun vs H Q _ => ∃ (net D a e : Addr) (c : Int) (xs : List Str) (rs : Rws) (x : Str) (R Fs : List Str), vs = [.ref net, .str x, .ref a, .ref e] ∧ NetAt C H net D c xs rs ∧ x ∈ xs ∧ NodesAt K H a R ∧ NodesAt K H e Fs ∧ R.length ≤ 100 ∧ Fs.length ≤ 100 ∧
  ∀ H', Same H H' → Q (.bl (!decide (c ≤ ((cnt xs (R ++ Fs) : Nat) : Int)))) H'
theorem ok_removable {f f1 f2 C : Addr} {fd fd1 fd2 : FuncData} {k : Nat} (F : Fun K "can_be_removed" "can_be_removed" sCr f fd) (T : Bq mg) (X : Txt K mg C)
    (F1 : Fun K "satisfies" "satisfies" sSat f1 fd1) (b1 : Binds K fd1 ["requirement", "nodes"] []) (g1 : mg "satisfies" = some (.ref f1)) (G1 : FnOk P w K mg base CX0 k f1 fd1 ["requirement", "nodes"] (spSat K Short))
    (M2 : Meth K C "requirement_of" f2) (b2 : Binds K fd2 ["self", "name"] []) (G2 : FnOk P w K mg base CX0 k f2 fd2 ["self", "name"] (spRo C)) : FnOk P w K mg base CX0 (k + 1) f fd nCr (spCr K C) := by
  refine F.ok scCr (fun vs H Q E h => ?_) (fun cdv A outer s H vs Q E hr h => ?_)
  · obtain ⟨net, D, a, e, c, xs, rs, x, R, Fs, rfl, _⟩ := h
    rfl
  · obtain ⟨net, D, a, e, c, xs, rs, x, R, Fs, rfl, N, mx, ha, he, lR, lF, q⟩ := h
    obtain ⟨dx, hn⟩ := N.ob
    refine ⟨_, pss_one (ps_ret (pe_not (pe_call G1 hr (by rfl) g1 F1.kp b1 .nil pass0 (pa_cons (pe_meth (pv 0) X.cl M2 G2 hr b2 .nil pass0 (pa_cons (pv 1) pa_nil)) (pa_cons (pe_tup (StX.pa_star (pv 2) (StX.pa_star (pv 3) pa_nil))) pa_nil))))), ?_⟩
    refine ⟨.ref net, rfl, net, dx, _, rfl, hn, fld_no D (by decide +kernel), .str x, rfl, net, D, c, xs, rs, x, rfl, N, mx, fun r H1 s1 u => ?_⟩
    refine ⟨.ref a, rfl, a, _, rfl, (ha.same s1).symm, .ref e, rfl, e, _, rfl, (he.same s1).symm, ?_, fun t nt => ?_⟩
    · rw [List.length_append, List.length_append, List.length_map, List.length_map]
      exact Nat.le_of_lt (small1000 (by show R.length + (Fs.length + 0) ≤ _; omega))
    have e1 : (R.map V.str ++ (Fs.map V.str ++ []) : List V) = (R ++ Fs).map V.str := by rw [List.append_nil, List.map_append]
    rw [e1]
    have s2 := same_new (o := .tup ((R ++ Fs).map V.str)) nt
    have ht : (upd H1 t (.tup ((R ++ Fs).map V.str))) t = some (.tup ((R ++ Fs).map V.str)) := upd_same
    generalize upd H1 t (.tup ((R ++ Fs).map V.str)) = H2 at s2 ht ⊢
    obtain ⟨zs, Rq, pm⟩ := (u.same s2).req
    have few := N.fit.few
    have zl := pm.length_eq
    refine ⟨r, c, zs.map Sum.inl, t, R ++ Fs, rfl, Rq, short_names zs, by rw [List.length_map]; omega, .inr (SqT.of ht), fun H3 s3 => ⟨_, rfl, ?_⟩⟩
    have es : sat (R ++ Fs) c (zs.map Sum.inl) = decide (c ≤ ((cnt xs (R ++ Fs) : Nat) : Int)) := by
      rw [sat_names]
      show decide (c ≤ ((cnt zs (R ++ Fs) : Nat) : Int)) = _
      rw [cnt_perm pm]
    rw [es]
    exact q H3 ((s1.trans s2).trans s3)
/-! first_removable -/
abbrev sFr : Stmt := top 21
abbrev nFr : List Str := ["network", "nodes", "faulty", "name"]
theorem scFr : FnScope nFr ["network", "nodes", "faulty"] (defScope sFr) := ⟨rfl, rfl, rfl, by decide +kernel, rfl, by decide +kernel, by decide +kernel⟩
def spFr (K : PySem.W.Frag) (C : Addr) : Sp := fun vs H Q _ => ∃ (net D a e : Addr) (c : Int) (xs : List Str) (rs : Rws) (R Fs : List Str), vs = [.ref net, .ref a, .ref e] ∧ NetAt C H net D c xs rs ∧ H a = some (.tup (R.map V.str)) ∧ (∀ x ∈ R, x ∈ xs) ∧ NodesAt K H e Fs ∧ R.length ≤ 100 ∧ Fs.length ≤ 100 ∧
  ∀ H', Same H H' → Q (frV xs c R Fs) H'
theorem ok_first {f f1 C : Addr} {fd fd1 : FuncData} {k : Nat} (F : Fun K "first_removable" "first_removable" sFr f fd) (T : Bq mg)
    (F1 : Fun K "can_be_removed" "can_be_removed" sCr f1 fd1) (b1 : Binds K fd1 nCr []) (g1 : mg "can_be_removed" = some (.ref f1)) (G1 : FnOk P w K mg base CX0 k f1 fd1 nCr (spCr K C)) : FnOk P w K mg base CX0 (k + 1) f fd ["network", "nodes", "faulty"] (spFr K C) := by
  refine F.ok scFr (fun vs H Q E h => ?_) (fun cdv A outer s H vs Q E hr h => ?_)
  · obtain ⟨net, D, a, e, c, xs, rs, R, Fs, rfl, _⟩ := h
    rfl
  · obtain ⟨net, D, a, e, c, xs, rs, R, Fs, rfl, N, ha, sub, he, lR, lF, q⟩ := h
    refine ⟨_, pss_cons (ps_for PassesOwn.never rfl (pi_tup (pv 1)) (pg_name (i := 3) scFr.nd rfl (Or.inl rfl))
        (pss_one (ps_if (pt_val (pe_call G1 hr (by rfl) g1 F1.kp b1 .nil pass0 (pa_cons (pv 0) (pa_cons (pv 3) (pa_cons (pv 1) (pa_cons (pv 2) pa_nil)))))) (pss_one (ps_ret (pv 3))) pss_nil)))
      (pss_one (ps_ret pe_non)), ?_⟩
    refine ⟨.ref a, rfl, a, rfl, ⟨_, SqT.of ha⟩, for_tup (K := K) (a := a) (xs := R.map V.str) (fun i σ H1 => (∃ y3 : Option V, σ = [some (.ref net), some (.ref a), some (.ref e), y3]) ∧ Same H H1 ∧ (0 < i → c ≤ ((cnt xs (R ++ Fs) : Nat) : Int))) ⟨⟨none, rfl⟩, Same.refl H, fun h => absurd h (by decide)⟩ (fun i σ H1 _ h => SqT.of (h.2.1 _ _ ha)) ?_ ?_⟩
    · rintro i y σ H1 hy ⟨⟨y3, rfl⟩, s1, big⟩
      rw [List.getElem?_map] at hy
      obtain ⟨z, hz, rfl⟩ := Option.map_eq_some_iff.mp hy
      refine ⟨.ref net, rfl, .str z, rfl, .ref a, rfl, .ref e, rfl, net, D, a, e, c, xs, rs, z, R, Fs, rfl, N.same s1, sub z (List.mem_of_getElem? hz), .inr (SqT.of (s1 _ _ ha)), he.same s1, lR, lF, fun H2 s2 => ⟨_, rfl, ?_⟩⟩
      by_cases h : c ≤ ((cnt xs (R ++ Fs) : Nat) : Int)
      · rw [decide_eq_true h]
        exact iteF ⟨⟨_, rfl⟩, s1.trans s2, fun _ => h⟩
      · rw [decide_eq_false h]
        refine iteT ⟨.str z, rfl, ?_⟩
        have i0 : i = 0 := by
          rcases Nat.eq_zero_or_pos i with h0 | h0
          · exact h0
          · exact absurd (big h0) h
        subst i0
        have e0 : frV xs c R Fs = .str z := by
          unfold frV
          rw [if_neg h]
          cases R with
          | nil => cases hz
          | cons x R => cases hz; rfl
        have r := q H2 (s1.trans s2)
        rw [e0] at r
        exact r
    · rintro σ H1 ⟨⟨y3, rfl⟩, s1, big⟩
      have e0 : frV xs c R Fs = .non := by
        unfold frV
        split
        · rfl
        · cases R with
          | nil => rfl
          | cons x R => exact absurd (big (by simp)) (by assumption)
      have r := q H1 s1
      rw [e0] at r
      exact r
/-! start_of_removal -/
abbrev sSo : Stmt := top 22
abbrev nSo : List Str := ["network", "nodes", "faulty"]
theorem scSo : FnScope nSo nSo (defScope sSo) := ⟨rfl, rfl, rfl, by decide +kernel, rfl, by decide +kernel, by decide +kernel⟩
def spSo (K : PySem.W.Frag) (C : Addr) : Sp := fun vs H Q _ => ∃ (net D a e : Addr) (c : Int) (xs : List Str) (rs : Rws) (L Fs : List Str), vs = [.ref net, .ref a, .ref e] ∧ NetAt C H net D c xs rs ∧ NodesAt K H a L ∧ Hon xs Fs L ∧ NodesAt K H e Fs ∧ Fl xs Fs ∧
  ∀ (p : Addr) (H' : Hp), Same H H' → H p = none → H' p = some (.tup (L.map V.str)) → Q (.ref p) H'
theorem Hon.few {H : Hp} {c : Int} {xs Fs L : List Str} {rs : Rws} (h : Hon xs Fs L) (f : Fit H c xs rs) : L.length ≤ 8 := Nat.le_trans (nd_len L xs h.nd h.inn) f.few
theorem Fl.few {H : Hp} {c : Int} {xs Fs : List Str} {rs : Rws} (h : Fl xs Fs) (f : Fit H c xs rs) : Fs.length ≤ 8 := Nat.le_trans (nd_len Fs xs h.nd h.inn) f.few
theorem ok_start {f f1 f2 f3 C : Addr} {fd fd1 fd2 fd3 : FuncData} {k : Nat} (F : Fun K "start_of_removal" "start_of_removal" sSo f fd) (T : Bq mg) (X : Txt K mg C)
    (M1 : Meth K C "check_nodes" f1) (b1 : Binds K fd1 ["self", "names"] []) (G1 : FnOk P w K mg base CX0 k f1 fd1 ["self", "names"] (spCn K C))
    (F2 : Fun K "names_outside" "names_outside" sOut f2 fd2) (b2 : Binds K fd2 ["names", "excluded"] []) (g2 : mg "names_outside" = some (.ref f2)) (G2 : FnOk P w K mg base CX0 k f2 fd2 ["names", "excluded"] (spOut K))
    (F3 : Fun K "node_set" "node_set" sNs f3 fd3) (b3 : Binds K fd3 ["names"] []) (g3 : mg "node_set" = some (.ref f3)) (G3 : FnOk P w K mg base CX0 k f3 fd3 ["names"] (spNs2 K)) : FnOk P w K mg base CX0 (k + 1) f fd nSo (spSo K C) := by
  refine F.ok scSo (fun vs H Q E h => ?_) (fun cdv A outer s H vs Q E hr h => ?_)
  · obtain ⟨net, D, a, e, c, xs, rs, L, Fs, rfl, _⟩ := h
    rfl
  · obtain ⟨net, D, a, e, c, xs, rs, L, Fs, rfl, N, ha, hon, he, fl, q⟩ := h
    obtain ⟨dx, hn⟩ := N.ob
    refine ⟨_, pss_cons (ps_expr (pe_meth (pv 0) X.cl M1 G1 hr b1 .nil pass0 (pa_cons (pv 1) pa_nil)))
      (pss_cons (ps_expr (pe_meth (pv 0) X.cl M1 G1 hr b1 .nil pass0 (pa_cons (pv 2) pa_nil)))
      (pss_one (ps_ret (pe_call G2 hr (by rfl) g2 F2.kp b2 .nil pass0 (pa_cons (pe_call G3 hr (by rfl) g3 F3.kp b3 .nil pass0 (pa_cons (pv 1) pa_nil)) (pa_cons (pv 2) pa_nil)))))), ?_⟩
    have l8 := hon.few N.fit
    refine ⟨.ref net, rfl, net, dx, _, rfl, hn, fld_no D (by decide +kernel), .ref a, rfl, net, D, a, c, xs, rs, L, rfl, N, ha, hon.inn, ?_⟩
    refine ⟨.ref net, rfl, net, dx, _, rfl, hn, fld_no D (by decide +kernel), .ref e, rfl, net, D, e, c, xs, rs, Fs, rfl, N, he, fl.inn, ?_⟩
    refine ⟨.ref a, rfl, a, L, rfl, ha, by omega, fun p ys H1 s1 np hp srt nd mem => ?_⟩
    have ey : ys = L := srt_one srt nd hon.srt hon.nd mem
    subst ey
    refine ⟨.ref e, rfl, p, e, ys, Fs, rfl, hp, he.same s1, by omega, fun p2 H2 s2 np2 hp2 => ?_⟩
    rw [List.filter_eq_self.mpr fun x m => decide_eq_true (hon.out x m)] at hp2
    exact q p2 H2 (s1.trans s2) (s1.free np2) hp2
end
end Moot
namespace Moot
open PySem PySem.Spec PyProof.Rows L2
theorem frV_hon {xs Fs L : List Str} {c : Int} (nx : xs.Nodup) (fl : Fl xs Fs) (h : Hon xs Fs L) : frV xs c L Fs = if c ≤ (L.length : Int) + (Fs.length : Int) then .non else headV L := by
  unfold frV
  rw [cnt_hon nx fl.nd fl.inn h]
  rw [show ((L.length + Fs.length : Nat) : Int) = (L.length : Int) + (Fs.length : Int) from by omega]
theorem Hon.dropn {xs F L : List Str} (h : Hon xs F L) (j : Nat) : Hon xs F (L.drop j) :=
  ⟨List.Pairwise.sublist (List.drop_sublist j L) h.srt, (List.drop_sublist j L).nodup h.nd, fun x m => h.inn x (List.mem_of_mem_drop m), fun x m => h.out x (List.mem_of_mem_drop m)⟩
theorem drop_out {L : List Str} (nd : L.Nodup) {j : Nat} {x : Str} {r : List Str} (e : L.drop j = x :: r) : ((L.drop j).filter fun y => decide (y ∉ [x])) = L.drop (j + 1) ∧ L.take (j + 1) = L.take j ++ [x] := by
  have n2 := (List.drop_sublist j L).nodup nd
  have e1 : L.drop (j + 1) = r := by
    rw [← List.tail_drop, e]
    rfl
  constructor
  · rw [e1, e]
    rw [e] at n2
    have nx := (List.nodup_cons.mp n2).1
    rw [List.filter_cons_of_neg (by simp)]
    exact List.filter_eq_self.mpr fun y my => decide_eq_true fun m => nx (List.mem_singleton.mp m ▸ my)
  · have hj : L[j]? = some x := by
      have : (L.drop j)[0]? = some x := by rw [e]; rfl
      rw [List.getElem?_drop] at this
      exact this
    rw [List.take_add_one, hj]
    rfl
section
variable {P : Program} {w : World} {K : PySem.W.Frag} {mg : Str → Option Value} {base : Heap}
/-! removal_order -/
abbrev sRm : Stmt := top 23
abbrev pRm : List Str := ["network", "nodes", "faulty"]
abbrev nRm : List Str := ["network", "nodes", "faulty", "remaining", "order", "name"]
theorem scRm : FnScope nRm pRm (defScope sRm) := ⟨rfl, rfl, rfl, by decide +kernel, rfl, by decide +kernel, by decide +kernel⟩
def spRm (K : PySem.W.Frag) (C : Addr) : Sp := fun vs H Q _ => ∃ (net D a e : Addr) (c : Int) (xs : List Str) (rs : Rws) (L Fs : List Str), vs = [.ref net, .ref a, .ref e] ∧ NetAt C H net D c xs rs ∧ NodesAt K H a L ∧ Hon xs Fs L ∧ NodesAt K H e Fs ∧ Fl xs Fs ∧
  ∀ (p : Addr) (H' : Hp), Same H H' → H p = none → H' p = some (.tup ((ordL c Fs.length L).map V.str)) → Q (.ref p) H'
theorem ok_order {f f1 f2 f3 C : Addr} {fd fd1 fd2 fd3 : FuncData} {k : Nat} (F : Fun K "removal_order" "removal_order" sRm f fd) (T : Bq mg)
    (F1 : Fun K "start_of_removal" "start_of_removal" sSo f1 fd1) (b1 : Binds K fd1 nSo []) (g1 : mg "start_of_removal" = some (.ref f1)) (G1 : FnOk P w K mg base CX0 k f1 fd1 nSo (spSo K C))
    (F2 : Fun K "first_removable" "first_removable" sFr f2 fd2) (b2 : Binds K fd2 ["network", "nodes", "faulty"] []) (g2 : mg "first_removable" = some (.ref f2)) (G2 : FnOk P w K mg base CX0 k f2 fd2 ["network", "nodes", "faulty"] (spFr K C))
    (F3 : Fun K "names_outside" "names_outside" sOut f3 fd3) (b3 : Binds K fd3 ["names", "excluded"] []) (g3 : mg "names_outside" = some (.ref f3)) (G3 : FnOk P w K mg base CX0 k f3 fd3 ["names", "excluded"] (spOut K)) : FnOk P w K mg base CX0 (k + 1) f fd pRm (spRm K C) := by
  refine F.ok scRm (fun vs H Q E h => ?_) (fun cdv A outer s H vs Q E hr h => ?_)
  · obtain ⟨net, D, a, e, c, xs, rs, L, Fs, rfl, _⟩ := h
    rfl
  · obtain ⟨net, D, a, e, c, xs, rs, L, Fs, rfl, N, ha, hon, he, fl, q⟩ := h
    have l8 := hon.few N.fit
    have f8 := fl.few N.fit
    refine ⟨_, pss_cons (ps_set (i := 3) scRm.nd rfl (Or.inl rfl) (pe_call G1 hr (by rfl) g1 F1.kp b1 .nil pass0 (pa_cons (pv 0) (pa_cons (pv 1) (pa_cons (pv 2) pa_nil)))))
      (pss_cons (ps_set (i := 4) scRm.nd rfl (Or.inl rfl) (pe_lst pa_nil))
      (pss_cons (ps_set (i := 5) scRm.nd rfl (Or.inl rfl) (pe_call G2 hr (by rfl) g2 F2.kp b2 .nil pass0 (pa_cons (pv 0) (pa_cons (pv 3) (pa_cons (pv 2) pa_nil)))))
      (pss_cons (ps_while PassesOwn.never (pt_cmpR op_notN (pv 5) pe_non (nomark _))
        (pss_cons (ps_expr (pe_bm PySem.F.plainAttrs_list PySem.F.slot_list_append PySem.F.type_list_append mt_append (pv 4) (pa_cons (pv 5) pa_nil)))
        (pss_cons (ps_set (i := 3) scRm.nd rfl (Or.inl rfl) (pe_call G3 hr (by rfl) g3 F3.kp b3 .nil pass0 (pa_cons (pv 3) (pa_cons (pe_lst (pa_cons (pv 5) pa_nil)) pa_nil))))
        (pss_one (ps_set (i := 5) scRm.nd rfl (Or.inl rfl) (pe_call G2 hr (by rfl) g2 F2.kp b2 .nil pass0 (pa_cons (pv 0) (pa_cons (pv 3) (pa_cons (pv 2) pa_nil)))))))))
      (pss_one (ps_ret (pe_callTy call_tuple_of (by rfl) T.T.tup (by decide +kernel) (pa_cons (pv 4) pa_nil))))))), ?_⟩
    refine ⟨.ref net, rfl, .ref a, rfl, .ref e, rfl, net, D, a, e, c, xs, rs, L, Fs, rfl, N, ha, hon, he, fl, fun p1 H1 s1 np1 hp1 => ?_⟩
    refine ⟨Nat.zero_le _, fun l nl => ?_⟩
    have s2 := same_new (o := .lst []) nl
    have hl : (upd H1 l (.lst [])) l = some (.lst (([] : List Str).map V.str)) := upd_same
    generalize upd H1 l (.lst []) = H2 at s2 hl ⊢
    have s02 := s1.trans s2
    have nl0 : H l = none := s1.free nl
    refine ⟨.ref net, rfl, .ref p1, rfl, .ref e, rfl, net, D, p1, e, c, xs, rs, L, Fs, rfl, N.same s02, s2 _ _ hp1, hon.inn, he.same s02, by omega, by omega, fun H3 s3 => ?_⟩
    have s03 := s02.trans s3
    refine while_by (fun σ H4 => ∃ (j : Nat) (pr : Addr), j ≤ L.length ∧ σ = [some (.ref net), some (.ref a), some (.ref e), some (.ref pr), some (.ref l), some (frV xs c (L.drop j) Fs)] ∧ Same H H4 ∧ H4 pr = some (.tup ((L.drop j).map V.str)) ∧ H4 l = some (.lst ((L.take j).map V.str)) ∧ (0 < j → (L.length : Int) + (Fs.length : Int) < c))
      (fun (σ : L2.St) H4 => match H4 l with | some (.lst us) => L.length - us.length | _ => 0) ⟨0, p1, Nat.zero_le _, rfl, s03, (s2.trans s3) _ _ hp1, s3 _ _ hl, fun h => absurd h (by decide)⟩ ?_
      (fun σ H Q Q' hq ⟨v, e, e2, b, eb, h⟩ => ⟨v, e, e2, b, eb, hq _ _ h⟩)
    rintro σ H4 ⟨j, pr, hj, rfl, s4, hpr, hl4, small⟩
    refine ⟨_, rfl, rfl, _, rfl, ?_⟩
    have hd := hon.dropn j
    rw [frV_hon N.fit.nd fl hd]
    have ld : ((L.drop j).length : Int) = (L.length : Int) - (j : Int) := by rw [List.length_drop]; omega
    rw [ld]
    by_cases big : c ≤ (L.length : Int) - (j : Int) + (Fs.length : Int)
    · rw [if_pos big]
      refine iteF ?_
      refine ⟨.ref l, rfl, l, _, rfl, .inl ⟨SqL.of hl4, fun t nt => ?_⟩⟩
      have j0 : j = 0 := by
        rcases Nat.eq_zero_or_pos j with h | h
        · exact h
        · have := small h
          omega
      subst j0
      refine q t _ (s4.trans (same_new nt)) (s4.free nt) ?_
      rw [upd_same]
      unfold ordL
      rw [if_pos (by omega)]
      rfl
    · rw [if_neg big]
      cases ed : L.drop j with
      | nil =>
        refine iteF ?_
        refine ⟨.ref l, rfl, l, _, rfl, .inl ⟨SqL.of hl4, fun t nt => ?_⟩⟩
        have jl : j = L.length := by
          have := congrArg List.length ed
          rw [List.length_drop, List.length_nil] at this
          omega
        subst jl
        refine q t _ (s4.trans (same_new nt)) (s4.free nt) ?_
        rw [upd_same, List.take_length]
        unfold ordL
        split
        · rename_i h
          have l0 : L.length = 0 := by
            rcases Nat.eq_zero_or_pos L.length with h0 | h0
            · exact h0
            · have := small h0
              omega
          rw [List.length_eq_zero_iff.mp l0]
        · rfl
      | cons x r =>
        obtain ⟨e1, e2⟩ := drop_out hon.nd ed
        have jlt : j < L.length := by
          have := congrArg List.length ed
          rw [List.length_drop, List.length_cons] at this
          omega
        have mx : x ∈ xs := hd.inn x (by rw [ed]; exact List.mem_cons_self)
        refine iteT ?_
        refine ⟨.ref l, rfl, .inl ⟨rfl, _, SqL.of hl4⟩, .str x, rfl, l, _, _, rfl, rfl, hl4, ?_, ?_⟩
        · rw [List.length_map, List.length_take]
          exact small1000 (by omega)
        have s5 : Same H (upd H4 l (.lst ((L.take j).map V.str ++ [.str x]))) := fun b o eb => by
          rw [upd_ne (ne_of_none eb nl0)]
          exact s4 b o eb
        have hl5 : (upd H4 l (.lst ((L.take j).map V.str ++ [.str x]))) l = some (.lst ((L.take (j + 1)).map V.str)) := by
          rw [upd_same, e2, List.map_append]
          rfl
        have hpr5 : (upd H4 l (.lst ((L.take j).map V.str ++ [.str x]))) pr = some (.tup ((L.drop j).map V.str)) := by
          rw [upd_ne (ne_of hpr hl4 (by intro z; cases z))]
          exact hpr
        generalize upd H4 l (.lst ((L.take j).map V.str ++ [.str x])) = H5 at s5 hl5 hpr5 ⊢
        refine ⟨.ref pr, rfl, .str x, rfl, by show 1 ≤ sizeLine; decide, fun l2 nl2 => ?_⟩
        have s6 := same_new (o := .lst [.str x]) nl2
        have hl2 : (upd H5 l2 (.lst [.str x])) l2 = some (.lst ([x].map V.str)) := upd_same
        generalize upd H5 l2 (.lst [.str x]) = H6 at s6 hl2 ⊢
        refine ⟨pr, l2, L.drop j, [x], rfl, s6 _ _ hpr5, .inl (SqL.of hl2), by rw [List.length_drop]; omega, fun p2 H7 s7 np2 hp2 => ?_⟩
        rw [e1] at hp2
        have s07 := (s5.trans s6).trans s7
        refine ⟨.ref net, rfl, .ref p2, rfl, .ref e, rfl, net, D, p2, e, c, xs, rs, L.drop (j + 1), Fs, rfl, N.same s07, hp2, (hon.dropn (j + 1)).inn, he.same s07, by rw [List.length_drop]; omega, by omega, fun H8 s8 => ?_⟩
        have hl8 := s8 _ _ (s7 _ _ (s6 _ _ hl5))
        refine ⟨⟨j + 1, p2, by omega, rfl, s07.trans s8, s8 _ _ hp2, hl8, fun _ => ?_⟩, ?_⟩
        · rcases Nat.eq_zero_or_pos j with h | h
          · subst h
            omega
          · exact small h
        · show (match H8 l with | some (.lst us) => L.length - us.length | _ => 0) < (match H4 l with | some (.lst us) => L.length - us.length | _ => 0)
          rw [hl8, hl4]
          simp only [List.length_map, List.length_take]
          omega
/-! largest_quorum -/
abbrev sLq : Stmt := top 24
abbrev nLq : List Str := ["network", "nodes", "faulty", "honest"]
theorem scLq : FnScope nLq pRm (defScope sLq) := ⟨rfl, rfl, rfl, by decide +kernel, rfl, by decide +kernel, by decide +kernel⟩
def spLq (K : PySem.W.Frag) (C : Addr) : Sp := fun vs H Q _ => ∃ (net D a e : Addr) (c : Int) (xs : List Str) (rs : Rws) (L Fs : List Str), vs = [.ref net, .ref a, .ref e] ∧ NetAt C H net D c xs rs ∧ NodesAt K H a L ∧ Hon xs Fs L ∧ NodesAt K H e Fs ∧ Fl xs Fs ∧
  ∀ (p : Addr) (H' : Hp), Same H H' → H p = none → H' p = some (.tup ((lqL c Fs.length L).map V.str)) → Q (.ref p) H'
abbrev Kb (K : PySem.W.Frag) (fd : FuncData) (ps : List Str) (n : Nat) : Prop := KBn K fd ps n ["faulty"] (fun us ws => us ++ ws) (fun vs zs => vs ++ zs)
theorem ok_largest {f f1 f2 f3 C : Addr} {fd fd1 fd2 fd3 : FuncData} {k : Nat} (F : Fun K "largest_quorum" "largest_quorum" sLq f fd) (T : Bq mg)
    (F1 : Fun K "start_of_removal" "start_of_removal" sSo f1 fd1) (b1 : Binds K fd1 nSo []) (g1 : mg "start_of_removal" = some (.ref f1)) (G1 : FnOk P w K mg base CX0 k f1 fd1 nSo (spSo K C))
    (F2 : Fun K "removal_order" "removal_order" sRm f2 fd2) (b2 : Kb K fd2 pRm 2) (g2 : mg "removal_order" = some (.ref f2)) (G2 : FnOk P w K mg base CX0 k f2 fd2 pRm (spRm K C))
    (F3 : Fun K "names_outside" "names_outside" sOut f3 fd3) (b3 : Binds K fd3 ["names", "excluded"] []) (g3 : mg "names_outside" = some (.ref f3)) (G3 : FnOk P w K mg base CX0 k f3 fd3 ["names", "excluded"] (spOut K)) : FnOk P w K mg base CX0 (k + 1) f fd pRm (spLq K C) := by
  refine F.ok scLq (fun vs H Q E h => ?_) (fun cdv A outer s H vs Q E hr h => ?_)
  · obtain ⟨net, D, a, e, c, xs, rs, L, Fs, rfl, _⟩ := h
    rfl
  · obtain ⟨net, D, a, e, c, xs, rs, L, Fs, rfl, N, ha, hon, he, fl, q⟩ := h
    have l8 := hon.few N.fit
    refine ⟨_, pss_cons (ps_set (i := 3) scLq.nd rfl (Or.inl rfl) (pe_call G1 hr (by rfl) g1 F1.kp b1 .nil pass0 (pa_cons (pv 0) (pa_cons (pv 1) (pa_cons (pv 2) pa_nil)))))
      (pss_one (ps_ret (pe_call G3 hr (by rfl) g3 F3.kp b3 .nil pass0 (pa_cons (pv 3) (pa_cons (pe_callN G2 hr (by rfl) g2 F2.kp b2 pass0 (pa_cons (pv 0) (pa_cons (pv 3) pa_nil)) (pk_cons (pv 2) pk_nil)) pa_nil))))), ?_⟩
    refine ⟨.ref net, rfl, .ref a, rfl, .ref e, rfl, net, D, a, e, c, xs, rs, L, Fs, rfl, N, ha, hon, he, fl, fun p1 H1 s1 np1 hp1 => ?_⟩
    refine ⟨.ref p1, rfl, .ref net, rfl, .ref p1, rfl, .ref e, rfl, rfl, rfl, net, D, p1, e, c, xs, rs, L, Fs, rfl, N.same s1, .inr (SqT.of hp1), hon, he.same s1, fl, fun p2 H2 s2 np2 hp2 => ?_⟩
    refine ⟨p1, p2, L, _, rfl, s2 _ _ hp1, .inr (SqT.of hp2), by omega, fun p3 H3 s3 np3 hp3 => ?_⟩
    rw [lq_out] at hp3
    exact q p3 H3 ((s1.trans s2).trans s3) ((s1.trans s2).free np3) hp3
end
end Moot
namespace Moot
open PySem PySem.Spec PyProof.Rows L2
def CrtAt (H : Hp) : Crt → Addr → Prop
  | .one L, p => ∃ q, H p = some (.tup [.str "empty", .str "one", .ref q]) ∧ H q = some (.tup (L.map V.str))
  | .other L, p => ∃ q, H p = some (.tup [.str "empty", .str "other", .ref q]) ∧ H q = some (.tup (L.map V.str))
  | .split x t u, p => ∃ p1 p2, H p = some (.tup [.str "split", .str x, .ref p1, .ref p2]) ∧ CrtAt H t p1 ∧ CrtAt H u p2
theorem CrtAt.same {H H' : Hp} (s : Same H H') : ∀ {t : Crt} {p : Addr}, CrtAt H t p → CrtAt H' t p
  | .one L, _, h => let ⟨q, h1, h2⟩ := h; ⟨q, s _ _ h1, s _ _ h2⟩
  | .other L, _, h => let ⟨q, h1, h2⟩ := h; ⟨q, s _ _ h1, s _ _ h2⟩
  | .split x t u, _, h => let ⟨p1, p2, h1, h2, h3⟩ := h; ⟨p1, p2, s _ _ h1, CrtAt.same s h2, CrtAt.same s h3⟩
def ResAt (H : Hp) : Res → Addr → Prop
  | .disj A B, p => ∃ q1 q2, H p = some (.tup [.str "disjoint", .ref q1, .ref q2]) ∧ H q1 = some (.tup (A.map V.str)) ∧ H q2 = some (.tup (B.map V.str))
  | .crt t, p => CrtAt H t p
theorem ResAt.same {H H' : Hp} (s : Same H H') : ∀ {r : Res} {p : Addr}, ResAt H r p → ResAt H' r p
  | .disj A B, _, h => let ⟨q1, q2, h1, h2, h3⟩ := h; ⟨q1, q2, s _ _ h1, s _ _ h2, s _ _ h3⟩
  | .crt t, _, h => CrtAt.same s h
def Res.apart : Res → Bool | .disj _ _ => true | .crt _ => false
theorem ResAt.word {H : Hp} : ∀ {r : Res} {p : Addr}, ResAt H r p → ∃ (z : Str) (us : List V), H p = some (.tup (.str z :: us)) ∧ decide (V.str z = V.str "disjoint") = r.apart
  | .disj A B, _, h => let ⟨q1, q2, h1, _⟩ := h; ⟨_, _, h1, by show decide (V.str "disjoint" = V.str "disjoint") = true; decide +kernel⟩
  | .crt (.one L), _, h => let ⟨q, h1, _⟩ := h; ⟨_, _, h1, by show decide (V.str "empty" = V.str "disjoint") = false; decide +kernel⟩
  | .crt (.other L), _, h => let ⟨q, h1, _⟩ := h; ⟨_, _, h1, by show decide (V.str "empty" = V.str "disjoint") = false; decide +kernel⟩
  | .crt (.split x t u), _, h => let ⟨p1, p2, h1, _⟩ := h; ⟨_, _, h1, by show decide (V.str "split" = V.str "disjoint") = false; decide +kernel⟩
def VerAt (H : Hp) : Res → Addr → Prop
  | .disj A B, p => ResAt H (.disj A B) p
  | .crt t, p => ∃ p', H p = some (.tup [.str "intersecting", .ref p']) ∧ CrtAt H t p'
theorem ord_no {c : Int} {f : Nat} {L : List Str} (h : okL c f L = false) : ordL c f L = L := by
  unfold ordL
  rcases okL_not.mp h with rfl | h
  · split <;> rfl
  · rw [if_neg (by omega)]
theorem lq_ok {c : Int} {f : Nat} {L : List Str} (h : okL c f L = true) : lqL c f L = L := by
  unfold lqL
  rw [if_pos (okL_iff.mp h).2]
theorem lq_no {c : Int} {f : Nat} {L : List Str} (h : okL c f L = false) : lqL c f L = [] := by
  unfold lqL
  rcases okL_not.mp h with rfl | h
  · split <;> rfl
  · rw [if_neg (by omega)]
section
variable {P : Program} {w : World} {K : PySem.W.Frag} {mg : Str → Option Value} {base : Heap}
/-! certificate_or_quorums -/
abbrev sCq : Stmt := top 26
abbrev pCq : List Str := ["network", "one", "other", "faulty"]
abbrev nCq : List Str := ["network", "one", "other", "faulty", "largest_one", "largest_other", "name", "common", "first", "second"]
theorem scCq : FnScope nCq pCq (defScope sCq) := ⟨rfl, rfl, rfl, by decide +kernel, rfl, by decide +kernel, by decide +kernel⟩
def spCq (K : PySem.W.Frag) (C : Addr) (n : Nat) : Sp := fun vs H Q _ => ∃ (net D a1 a2 e : Addr) (c : Int) (xs : List Str) (rs : Rws) (A B Fs : List Str), vs = [.ref net, .ref a1, .ref a2, .ref e] ∧ NetAt C H net D c xs rs ∧ H a1 = some (.tup (A.map V.str)) ∧ H a2 = some (.tup (B.map V.str)) ∧
  Hon xs Fs A ∧ Hon xs Fs B ∧ NodesAt K H e Fs ∧ Fl xs Fs ∧ A.length + B.length < n ∧ ∀ (p : Addr) (H' : Hp), Same H H' → ResAt H' (cq c Fs.length n A B) p → Q (.ref p) H'
theorem ok_cq {f f1 f2 f3 C : Addr} {fd fd1 fd2 fd3 : FuncData} {k n : Nat} (F : Fun K "certificate_or_quorums" "certificate_or_quorums" sCq f fd) (b0 : Binds K fd pCq []) (g0 : mg "certificate_or_quorums" = some (.ref f)) (T : Bq mg) (G0 : FnOk P w K mg base CX0 k f fd pCq (spCq K C n))
    (F1 : Fun K "largest_quorum" "largest_quorum" sLq f1 fd1) (b1 : Kb K fd1 pRm 2) (g1 : mg "largest_quorum" = some (.ref f1)) (G1 : FnOk P w K mg base CX0 k f1 fd1 pRm (spLq K C))
    (F2 : Fun K "removal_order" "removal_order" sRm f2 fd2) (b2 : Kb K fd2 pRm 2) (g2 : mg "removal_order" = some (.ref f2)) (G2 : FnOk P w K mg base CX0 k f2 fd2 pRm (spRm K C))
    (F3 : Fun K "names_outside" "names_outside" sOut f3 fd3) (b3 : Binds K fd3 ["names", "excluded"] []) (g3 : mg "names_outside" = some (.ref f3)) (G3 : FnOk P w K mg base CX0 k f3 fd3 ["names", "excluded"] (spOut K)) : FnOk P w K mg base CX0 (k + 1) f fd pCq (spCq K C (n + 1)) := by
  refine F.ok scCq (fun vs H Q E h => ?_) (fun cdv A' outer s H vs Q E hr h => ?_)
  · obtain ⟨net, D, a1, a2, e, c, xs, rs, A, B, Fs, rfl, _⟩ := h
    rfl
  · obtain ⟨net, D, a1, a2, e, c, xs, rs, A, B, Fs, rfl, N, ha1, ha2, hA, hB, he, fl, hlen, q⟩ := h
    have lA := hA.few N.fit
    have lB := hB.few N.fit
    refine ⟨_, pss_cons (ps_set (i := 4) scCq.nd rfl (Or.inl rfl) (pe_callN G1 hr (by rfl) g1 F1.kp b1 pass0 (pa_cons (pv 0) (pa_cons (pv 1) pa_nil)) (pk_cons (pv 3) pk_nil)))
      (pss_cons (ps_if (pt_cmpR op_eq (pe_callB call_len_seq (by rfl) T.T.len PySem.boot_len (pa_cons (pv 4) pa_nil)) pe_int (nomark _)) (pss_one (ps_ret (pe_tup (pa_cons pe_str (pa_cons pe_str (pa_cons (pe_callN G2 hr (by rfl) g2 F2.kp b2 pass0 (pa_cons (pv 0) (pa_cons (pv 1) pa_nil)) (pk_cons (pv 3) pk_nil)) pa_nil)))))) pss_nil)
      (pss_cons (ps_set (i := 5) scCq.nd rfl (Or.inr rfl) (pe_callN G1 hr (by rfl) g1 F1.kp b1 pass0 (pa_cons (pv 0) (pa_cons (pv 2) pa_nil)) (pk_cons (pv 3) pk_nil)))
      (pss_cons (ps_if (pt_cmpR op_eq (pe_callB call_len_seq (by rfl) T.T.len PySem.boot_len (pa_cons (pv 5) pa_nil)) pe_int (nomark _)) (pss_one (ps_ret (pe_tup (pa_cons pe_str (pa_cons pe_str (pa_cons (pe_callN G2 hr (by rfl) g2 F2.kp b2 pass0 (pa_cons (pv 0) (pa_cons (pv 2) pa_nil)) (pk_cons (pv 3) pk_nil)) pa_nil)))))) pss_nil)
      (pss_cons (ps_setLc (i := 7) (own := [("name", 6)]) (g := gName 6) (by rfl) scCq.nd rfl rfl (sw_true rfl rfl rfl (by decide +kernel)) (pi_tup (pv 4)) (blkOk_by (N := nCq) (sc := defScope sCq) (by decide +kernel))
        (fun _ _ _ _ _ => pg_name (i := 6) scCq.nd rfl (Or.inl rfl)) (fun _ _ _ _ _ => pts_one (pt_cmpR (show OpR _ (compareOp .In) (rIn K false) from op_in_seq) (pv 6) (pv 5) (by rfl))) (fun _ _ _ _ _ => pv 6))
      (pss_cons (ps_if (pt_cmpR op_eq (pe_callB call_len_seq (by rfl) T.T.len PySem.boot_len (pa_cons (pv 7) pa_nil)) pe_int (nomark _)) (pss_one (ps_ret (pe_tup (pa_cons pe_str (pa_cons (pv 4) (pa_cons (pv 5) pa_nil)))))) pss_nil)
      (pss_cons (ps_set (i := 6) scCq.nd rfl (Or.inl rfl) (pe_ix ix_list (pv 7) pe_int (fun _ _ => rfl)))
      (pss_cons (ps_set (i := 8) scCq.nd rfl (Or.inl rfl) (pe_call G0 hr (by rfl) g0 F.kp b0 .nil pass0 (pa_cons (pv 0) (pa_cons (pe_call G3 hr (by rfl) g3 F3.kp b3 .nil pass0 (pa_cons (pv 1) (pa_cons (pe_lst (pa_cons (pv 6) pa_nil)) pa_nil))) (pa_cons (pv 2) (pa_cons (pv 3) pa_nil))))))
      (pss_cons (ps_if (pt_cmpR op_eq (pe_ix ix_tup (pv 8) pe_int (fun _ _ => rfl)) pe_str (nomark _)) (pss_one (ps_ret (pv 8))) pss_nil)
      (pss_cons (ps_set (i := 9) scCq.nd rfl (Or.inl rfl) (pe_call G0 hr (by rfl) g0 F.kp b0 .nil pass0 (pa_cons (pv 0) (pa_cons (pv 1) (pa_cons (pe_call G3 hr (by rfl) g3 F3.kp b3 .nil pass0 (pa_cons (pv 2) (pa_cons (pe_lst (pa_cons (pv 6) pa_nil)) pa_nil))) (pa_cons (pv 3) pa_nil))))))
      (pss_cons (ps_if (pt_cmpR op_eq (pe_ix ix_tup (pv 9) pe_int (fun _ _ => rfl)) pe_str (nomark _)) (pss_one (ps_ret (pv 9))) pss_nil)
      (pss_one (ps_ret (pe_tup (pa_cons pe_str (pa_cons (pv 6) (pa_cons (pv 8) (pa_cons (pv 9) pa_nil))))))))))))))))), ?_⟩
    have eq0 : cq c Fs.length (n + 1) A B = if okL c Fs.length A = true then
      if okL c Fs.length B = true then
        match A.filter fun x => decide (x ∈ B) with
        | [] => .disj A B
        | x :: _ => match cq c Fs.length n (dropN A x) B with
          | .disj a b => .disj a b
          | .crt t => match cq c Fs.length n A (dropN B x) with
            | .disj a b => .disj a b
            | .crt u => .crt (.split x t u)
      else .crt (.other B)
    else .crt (.one A) := rfl
    rw [eq0] at q
    refine ⟨.ref net, rfl, .ref a1, rfl, .ref e, rfl, rfl, rfl, net, D, a1, e, c, xs, rs, A, Fs, rfl, N, .inr (SqT.of ha1), hA, he, fl, fun p1 H1 s1 np1 hp1 => ?_⟩
    refine ⟨.ref p1, rfl, p1, _, rfl, .inr (SqT.of hp1), rfl, _, rfl, ?_⟩
    cases oA : okL c Fs.length A with
    | false =>
      rw [lq_no oA] at hp1 ⊢
      refine iteT ?_
      refine ⟨.ref net, rfl, .ref a1, rfl, .ref e, rfl, rfl, rfl, net, D, a1, e, c, xs, rs, A, Fs, rfl, N.same s1, .inr (SqT.of (s1 _ _ ha1)), hA, he.same s1, fl, fun p2 H2 s2 np2 hp2 => ?_⟩
      rw [ord_no oA] at hp2
      refine ⟨by show 3 ≤ sizeLine; decide, fun t nt => ?_⟩
      rw [oA, if_neg Bool.false_ne_true] at q
      exact q t _ ((s1.trans s2).trans (same_new nt)) ⟨p2, upd_same, same_new nt _ _ hp2⟩
    | true =>
    rw [oA, if_pos rfl] at q
    rw [lq_ok oA] at hp1 ⊢
    have neA := (okL_iff.mp oA).1
    have test : decide (V.int (((A.map V.str).length : Nat) : Int) = V.int 0) = false := decide_eq_false fun z => by
      have := V.int.inj z
      rw [List.length_map] at this
      exact neA (List.length_eq_zero_iff.mp (by omega))
    rw [test]
    refine iteF ?_
    have ha2' := s1 _ _ ha2
    refine ⟨.ref net, rfl, .ref a2, rfl, .ref e, rfl, rfl, rfl, net, D, a2, e, c, xs, rs, B, Fs, rfl, N.same s1, .inr (SqT.of ha2'), hB, he.same s1, fl, fun p2 H2 s2 np2 hp2 => ?_⟩
    have s02 := s1.trans s2
    refine ⟨.ref p2, rfl, p2, _, rfl, .inr (SqT.of hp2), rfl, _, rfl, ?_⟩
    cases oB : okL c Fs.length B with
    | false =>
      rw [lq_no oB] at hp2 ⊢
      refine iteT ?_
      refine ⟨.ref net, rfl, .ref a2, rfl, .ref e, rfl, rfl, rfl, net, D, a2, e, c, xs, rs, B, Fs, rfl, N.same s02, .inr (SqT.of (s02 _ _ ha2)), hB, he.same s02, fl, fun p3 H3 s3 np3 hp3 => ?_⟩
      rw [ord_no oB] at hp3
      refine ⟨by show 3 ≤ sizeLine; decide, fun t nt => ?_⟩
      rw [oB, if_neg Bool.false_ne_true] at q
      exact q t _ ((s02.trans s3).trans (same_new nt)) ⟨p3, upd_same, same_new nt _ _ hp3⟩
    | true =>
    rw [oB, if_pos rfl] at q
    rw [lq_ok oB] at hp2 ⊢
    have neB := (okL_iff.mp oB).1
    have test2 : decide (V.int (((B.map V.str).length : Nat) : Int) = V.int 0) = false := decide_eq_false fun z => by
      have := V.int.inj z
      rw [List.length_map] at this
      exact neB (List.length_eq_zero_iff.mp (by omega))
    rw [test2]
    refine iteF ?_
    have hp1' := s2 _ _ hp1
    refine ⟨.ref p1, rfl, p1, rfl, ⟨_, SqT.of hp1'⟩, fun l nl => lc_tup (K := K) (a := p1) (xs := A.map V.str) (fun i H3 => Same H2 H3 ∧ H3 l = some (.lst (((A.take i).filter fun x => decide (x ∈ B)).map V.str))) ⟨same_new nl, upd_same⟩ (fun i H3 _ h => SqT.of (h.1 _ _ hp1')) ?_ ?_⟩
    · rintro i x H3 hx ⟨s3, hl⟩
      rw [List.getElem?_map] at hx
      obtain ⟨z, hz, rfl⟩ := Option.map_eq_some_iff.mp hx
      have tk : A.take (i + 1) = A.take i ++ [z] := by
        rw [List.take_add_one, hz]
        rfl
      refine ⟨rfl, .str z, rfl, .ref p2, rfl, p2, _, rfl, .inr (SqT.of (s3 _ _ hp2)), rfl, flats B, _, rfl, ?_⟩
      rw [inV_str]
      by_cases m : z ∈ B
      · rw [decide_eq_true m]
        refine iteT ⟨.str z, rfl, _, hl, ?_, fun d o eb => ?_, ?_⟩
        · rw [List.length_map]
          refine small1000 (Nat.le_trans (List.length_filter_le _ _) ?_)
          rw [List.length_take]
          omega
        · rw [upd_ne (ne_of_none eb nl)]
          exact s3 d o eb
        · rw [upd_same, tk, List.filter_append]
          simp [m]
      · rw [decide_eq_false m]
        refine iteF ⟨s3, ?_⟩
        rw [hl, tk, List.filter_append]
        simp [m]
    · rintro H3 ⟨s3, hl⟩
      rw [List.length_map, List.take_length] at hl
      have s03 := s02.trans s3
      refine ⟨.ref l, rfl, l, _, rfl, .inl (SqL.of hl), rfl, _, rfl, ?_⟩
      cases hx : A.filter (fun x => decide (x ∈ B)) with
      | nil =>
        rw [hx] at q hl
        refine iteT ?_
        refine ⟨.ref p1, rfl, .ref p2, rfl, by show 3 ≤ sizeLine; decide, fun t nt => ?_⟩
        exact q t _ (s03.trans (same_new nt)) ⟨p1, p2, upd_same, same_new nt _ _ (s3 _ _ hp1'), same_new nt _ _ (s3 _ _ hp2)⟩
      | cons x r =>
        rw [hx] at q hl
        dsimp only at q
        have mx : x ∈ A ∧ x ∈ B := by
          have : x ∈ A.filter (fun x => decide (x ∈ B)) := by rw [hx]; exact List.mem_cons_self
          obtain ⟨h1, h2⟩ := List.mem_filter.mp this
          exact ⟨h1, of_decide_eq_true h2⟩
        have dA := dropN_len mx.1
        have dB := dropN_len mx.2
        have test3 : decide (V.int ((((x :: r).map V.str).length : Nat) : Int) = V.int 0) = false := decide_eq_false fun z => by
          have := V.int.inj z
          rw [List.length_map, List.length_cons] at this
          omega
        rw [test3]
        refine iteF ?_
        refine ⟨.ref l, rfl, l, _, 0, .str x, rfl, rfl, SqL.of hl, atI_nat (j := 0) rfl, ?_⟩
        refine ⟨.ref net, rfl, .ref a1, rfl, .str x, rfl, by show 1 ≤ sizeLine; decide, fun l2 nl2 => ?_⟩
        have s4 := same_new (o := .lst [.str x]) nl2
        have hl2 : (upd H3 l2 (.lst [.str x])) l2 = some (.lst ([x].map V.str)) := upd_same
        generalize upd H3 l2 (.lst [.str x]) = H4 at s4 hl2 ⊢
        have s04 := s03.trans s4
        refine ⟨a1, l2, A, [x], rfl, s04 _ _ ha1, .inl (SqL.of hl2), by omega, fun p3 H5 s5 np3 hp3 => ?_⟩
        rw [dropN_out] at hp3
        have s05 := s04.trans s5
        refine ⟨.ref a2, rfl, .ref e, rfl, net, D, p3, a2, e, c, xs, rs, dropN A x, B, Fs, rfl, N.same s05, hp3, s05 _ _ ha2, hA.drop x, hB, he.same s05, fl, by omega, fun r1 H6 s6 R1 => ?_⟩
        have s06 := s05.trans s6
        obtain ⟨z1, us1, hz1, w1⟩ := R1.word
        refine ⟨.ref r1, rfl, r1, _, 0, .str z1, rfl, rfl, SqT.of hz1, atI_nat (j := 0) rfl, rfl, _, rfl, ?_⟩
        rw [w1]
        cases h1 : cq c Fs.length n (dropN A x) B with
        | disj a b =>
          rw [h1] at q R1
          exact iteT ⟨.ref r1, rfl, q r1 H6 s06 R1⟩
        | crt t =>
        rw [h1] at q R1
        dsimp only at q
        refine iteF ?_
        refine ⟨.ref net, rfl, .ref a1, rfl, .ref a2, rfl, .str x, rfl, by show 1 ≤ sizeLine; decide, fun l3 nl3 => ?_⟩
        have s7 := same_new (o := .lst [.str x]) nl3
        have hl3 : (upd H6 l3 (.lst [.str x])) l3 = some (.lst ([x].map V.str)) := upd_same
        generalize upd H6 l3 (.lst [.str x]) = H7 at s7 hl3 ⊢
        have s07 := s06.trans s7
        refine ⟨a2, l3, B, [x], rfl, s07 _ _ ha2, .inl (SqL.of hl3), by omega, fun p4 H8 s8 np4 hp4 => ?_⟩
        rw [dropN_out] at hp4
        have s08 := s07.trans s8
        refine ⟨.ref e, rfl, net, D, a1, p4, e, c, xs, rs, A, dropN B x, Fs, rfl, N.same s08, s08 _ _ ha1, hp4, hA, hB.drop x, he.same s08, fl, by omega, fun r2 H9 s9 R2 => ?_⟩
        have s09 := s08.trans s9
        obtain ⟨z2, us2, hz2, w2⟩ := R2.word
        refine ⟨.ref r2, rfl, r2, _, 0, .str z2, rfl, rfl, SqT.of hz2, atI_nat (j := 0) rfl, rfl, _, rfl, ?_⟩
        rw [w2]
        cases h2 : cq c Fs.length n A (dropN B x) with
        | disj a b =>
          rw [h2] at q R2
          exact iteT ⟨.ref r2, rfl, q r2 H9 s09 R2⟩
        | crt u =>
          rw [h2] at q R2
          refine iteF ?_
          refine ⟨.str x, rfl, .ref r1, rfl, .ref r2, rfl, by show 4 ≤ sizeLine; decide, fun t' nt => ?_⟩
          have R1' : CrtAt H9 t r1 := CrtAt.same ((s7.trans s8).trans s9) R1
          exact q t' _ (s09.trans (same_new nt)) ⟨r1, r2, upd_same, CrtAt.same (same_new nt) R1', CrtAt.same (same_new nt) R2⟩
/-! intersection -/
abbrev sIt : Stmt := top 27
abbrev nIt : List Str := ["network", "faulty", "honest", "found"]
theorem scIt : FnScope nIt ["network", "faulty"] (defScope sIt) := ⟨rfl, rfl, rfl, by decide +kernel, rfl, by decide +kernel, by decide +kernel⟩
/-- the honest ones -/
def honL (rs : Rws) (Fs : List Str) : List Str := (rs.map (·.1)).filter fun x => decide (x ∉ Fs)
theorem NetAt.hon {C : Addr} {H : Hp} {net D : Addr} {c : Int} {xs : List Str} {rs : Rws} (N : NetAt C H net D c xs rs) (Fs : List Str) : Hon xs Fs (honL rs Fs) :=
  ⟨List.Pairwise.sublist List.filter_sublist N.srt, (N.fit.keys.nodup_iff.mpr N.fit.nd).filter _, fun x m => N.fit.keys.mem_iff.mp (List.mem_filter.mp m).1, fun x m => of_decide_eq_true (List.mem_filter.mp m).2⟩
def spIt (K : PySem.W.Frag) (C : Addr) : Sp := fun vs H Q _ => ∃ (net D e : Addr) (c : Int) (xs : List Str) (rs : Rws) (Fs : List Str), vs = [.ref net, .ref e] ∧ NetAt C H net D c xs rs ∧ NodesAt K H e Fs ∧ Fl xs Fs ∧
  ∀ (p : Addr) (H' : Hp), Same H H' → VerAt H' (cq c Fs.length 17 (honL rs Fs) (honL rs Fs)) p → Q (.ref p) H'
theorem ok_inter {f f1 f2 f3 f4 C : Addr} {fd fd1 fd2 fd3 fd4 : FuncData} {k : Nat} (F : Fun K "intersection" "intersection" sIt f fd) (T : Bq mg) (X : Txt K mg C)
    (M1 : Meth K C "check_nodes" f1) (b1 : Binds K fd1 ["self", "names"] []) (G1 : FnOk P w K mg base CX0 k f1 fd1 ["self", "names"] (spCn K C))
    (M2 : Meth K C "node_names" f2) (b2 : Binds K fd2 ["self"] []) (G2 : FnOk P w K mg base CX0 k f2 fd2 ["self"] (spNn C))
    (F3 : Fun K "names_outside" "names_outside" sOut f3 fd3) (b3 : Binds K fd3 ["names", "excluded"] []) (g3 : mg "names_outside" = some (.ref f3)) (G3 : FnOk P w K mg base CX0 k f3 fd3 ["names", "excluded"] (spOut K))
    (F4 : Fun K "certificate_or_quorums" "certificate_or_quorums" sCq f4 fd4) (b4 : Binds K fd4 pCq []) (g4 : mg "certificate_or_quorums" = some (.ref f4)) (G4 : FnOk P w K mg base CX0 k f4 fd4 pCq (spCq K C 17)) : FnOk P w K mg base CX0 (k + 1) f fd ["network", "faulty"] (spIt K C) := by
  refine F.ok scIt (fun vs H Q E h => ?_) (fun cdv A outer s H vs Q E hr h => ?_)
  · obtain ⟨net, D, e, c, xs, rs, Fs, rfl, _⟩ := h
    rfl
  · obtain ⟨net, D, e, c, xs, rs, Fs, rfl, N, he, fl, q⟩ := h
    obtain ⟨dx, hn⟩ := N.ob
    refine ⟨_, pss_cons (ps_expr (pe_meth (pv 0) X.cl M1 G1 hr b1 .nil pass0 (pa_cons (pv 1) pa_nil)))
      (pss_cons (ps_set (i := 2) scIt.nd rfl (Or.inl rfl) (pe_call G3 hr (by rfl) g3 F3.kp b3 .nil pass0 (pa_cons (pe_meth0 (pv 0) X.cl M2 G2 hr b2 .nil pass0) (pa_cons (pv 1) pa_nil))))
      (pss_cons (ps_set (i := 3) scIt.nd rfl (Or.inl rfl) (pe_call G4 hr (by rfl) g4 F4.kp b4 .nil pass0 (pa_cons (pv 0) (pa_cons (pv 2) (pa_cons (pv 2) (pa_cons (pv 1) pa_nil))))))
      (pss_cons (ps_if (pt_cmpR op_eq (pe_ix ix_tup (pv 3) pe_int (fun _ _ => rfl)) pe_str (nomark _)) (pss_one (ps_ret (pv 3))) pss_nil)
      (pss_one (ps_ret (pe_tup (pa_cons pe_str (pa_cons (pv 3) pa_nil)))))))), ?_⟩
    have hon := N.hon Fs
    have l8 := hon.few N.fit
    have rl := N.fit.len
    have r8 := N.fit.few
    refine ⟨.ref net, rfl, net, dx, _, rfl, hn, fld_no D (by decide +kernel), .ref e, rfl, net, D, e, c, xs, rs, Fs, rfl, N, he, fl.inn, ?_⟩
    refine ⟨.ref net, rfl, net, dx, _, rfl, hn, fld_no D (by decide +kernel), net, D, c, xs, rs, rfl, N, fun p1 H1 s1 np1 hp1 => ?_⟩
    refine ⟨.ref e, rfl, p1, e, rs.map (·.1), Fs, rfl, hp1, he.same s1, by rw [List.length_map]; omega, fun p2 H2 s2 np2 hp2 => ?_⟩
    have s02 := s1.trans s2
    refine ⟨.ref net, rfl, .ref p2, rfl, .ref p2, rfl, .ref e, rfl, net, D, p2, p2, e, c, xs, rs, honL rs Fs, honL rs Fs, Fs, rfl, N.same s02, hp2, hp2, hon, hon, he.same s02, fl, by omega, fun r H3 s3 R => ?_⟩
    have s03 := s02.trans s3
    obtain ⟨z, us, hz, wz⟩ := R.word
    refine ⟨.ref r, rfl, r, _, 0, .str z, rfl, rfl, SqT.of hz, atI_nat (j := 0) rfl, rfl, _, rfl, ?_⟩
    rw [wz]
    cases h : cq c Fs.length 17 (honL rs Fs) (honL rs Fs) with
    | disj a b =>
      rw [h] at q R
      exact iteT ⟨.ref r, rfl, q r H3 s03 R⟩
    | crt t =>
      rw [h] at q R
      refine iteF ?_
      refine ⟨.ref r, rfl, by show 2 ≤ sizeLine; decide, fun t' nt => ?_⟩
      exact q t' _ (s03.trans (same_new nt)) ⟨r, upd_same, CrtAt.same (same_new nt) R⟩
end
end Moot
namespace Moot
open PySem PySem.Spec PyProof.Rows L2
/-! data of texts -/
theorem dp_strs {K : PySem.W.Frag} {H : Hp} : ∀ ns : List Str, DpAll K H (ns.map V.str) (ns.map PyData.str)
  | [] => .nil
  | x :: ns => .cons (.str x) (dp_strs ns)
theorem lay_strs : ∀ {ns : List Str}, (∀ y ∈ ns, PyData.strOk y = true) → PyData.canLayAll0 (ns.map PyData.str) = true
  | [], _ => rfl
  | x :: ns, h => by
    show (PyData.strOk x && PyData.canLayAll0 (ns.map PyData.str)) = true
    rw [h x List.mem_cons_self, lay_strs fun y m => h y (List.mem_cons_of_mem _ m)]
    rfl
theorem depth_strs : ∀ ns : List Str, PyData.depthAll (ns.map PyData.str) = 0
  | [] => rfl
  | x :: ns => by
    show max 0 (PyData.depthAll (ns.map PyData.str)) = 0
    rw [depth_strs ns]
    rfl
theorem sh_strs {ns : List Str} (ok : ∀ y ∈ ns, PyData.strOk y = true) : SeqAt.shaped (.list (ns.map PyData.str)) = true := by
  unfold SeqAt.shaped
  have d : PyData.depth (.list (ns.map PyData.str)) ≤ 64 := by
    show PyData.depthAll (ns.map PyData.str) + 1 ≤ 64
    rw [depth_strs]
    decide
  rw [decide_eq_true d]
  show (PyData.canLayAll0 (ns.map PyData.str) && true) = true
  rw [lay_strs ok]
  rfl
theorem all_bl {α : Type} (l : List α) (b : Bool) : ((l.map fun _ => b).map V.bl) = l.map fun _ => V.bl b := by rw [List.map_map]; rfl
theorem any_false {α : Type} (l : List α) : ((l.map fun _ => false).any id) = false := by
  rw [List.any_map]
  exact List.any_eq_false.mpr fun _ _ => by simp
/-- the law's own rows -/
structure Rw0 (H : Hp) (W : Addr) (c : Int) (xs : List Str) (rs : Rws) : Prop where
  dc : H W = some (.dK (kvs rs))
  fit : Fit H c xs rs
theorem Rw0.same {H H' : Hp} {W : Addr} {c : Int} {xs : List Str} {rs : Rws} (h : Rw0 H W c xs rs) (s : Same H H') : Rw0 H' W c xs rs := ⟨s _ _ h.dc, h.fit.same s⟩
abbrev rListOf (K : PySem.W.Frag) : List V → Hp → VK → Prop := fun xs H Q => ∃ p ys, xs = [.ref p] ∧ (SqL K H p ys ∨ SqT K H p ys) ∧ ∀ l, H l = none → Q (.ref l) (upd H l (.lst ys))
section
variable {P : Program} {w : World} {K : PySem.W.Frag} {mg : Str → Option Value} {base : Heap}
/-! _law_shuffled -/
abbrev sShu : Stmt := top 43
abbrev nShu : List Str := ["_law_box_here", "_law_values", "_law_left", "_law_k"]
theorem scShu : FnScope nShu ["_law_box_here", "_law_values"] (defScope sShu) := ⟨rfl, rfl, rfl, by decide +kernel, rfl, by decide +kernel, by decide +kernel⟩
def spShu (K : PySem.W.Frag) : Sp := fun vs H Q _ => ∃ (b g m vp : Addr) (n : Nat) (xs : List Str), vs = [.ref b, .ref vp] ∧ Box H b g m n ∧ n ≤ 900000 ∧ SqL K H vp (xs.map V.str) ∧ xs.length ≤ 100 ∧
  ∀ (p : Addr) (ys : List Str) (H' : Hp), H p = none → H' p = some (.lst (ys.map V.str)) → ys.Perm xs → Box H' b g m (n + xs.length) → Keep b g H H' → Q (.ref p) H'
theorem ok_shuffled {f fT : Addr} {fd fdT : FuncData} {k : Nat} (F : Fun K "_law_shuffled" "_law_shuffled" sShu f fd) (FT : Fun K "_law_take" "_law_take" sTake fT fdT) (bT : Binds K fdT ["_law_box_here", "_law_size"] []) (gT : mg "_law_take" = some (.ref fT))
    (GT : FnOk P w K mg base CX0 k fT fdT ["_law_box_here", "_law_size"] spTake) (T : Bq mg) : FnOk P w K mg base CX0 (k + 1) f fd ["_law_box_here", "_law_values"] (spShu K) := by
  have mr := T.T.rng
  have ml := T.T.len
  have mls := T.T.lst
  refine F.ok scShu (fun vs H Q E h => ?_) (fun cdv A outer s H vs Q E hr h => ?_)
  · obtain ⟨b, g, m, vp, n, xs, rfl, _⟩ := h
    rfl
  · obtain ⟨b, g, m, vp, n, xs, rfl, B, hn, hv, x2, q⟩ := h
    refine ⟨_, pss_cons (ps_set (i := 2) scShu.nd rfl (Or.inr rfl) (pe_callTy call_list_of (by rfl) mls (by decide +kernel) (pa_cons (pv 1) pa_nil)))
      (pss_one (ps_ret (pe_lc (own := [("_law_k", 3)]) (g := gName 3) (tt := tYes) (by rfl) scShu.nd
        (pi_range1 rfl mr (pa_cons (pe_callB call_len_seq (by rfl) ml PySem.boot_len (pa_cons (pv 2) pa_nil)) pa_nil)) (blkOk_by (N := nShu) (sc := defScope sShu) (by decide +kernel))
        (fun _ _ _ _ _ => pg_name (i := 3) scShu.nd rfl (Or.inl rfl)) (fun _ _ _ _ _ => pts_nil)
        (fun _ _ _ _ _ => (show PE _ _ (tBM K "list" rPopAt _ _) from pe_bm PySem.F.plainAttrs_list PySem.F.slot_list_pop PySem.F.type_list_pop mt_popAt (pv 2) (pa_cons (pe_call GT hr (by rfl) gT FT.kp bT .nil pass0 (pa_cons (pv 0) (pa_cons
          (pe_callB (show CallR _ (.builtin "len") (rLen K) from call_len_seq) (by rfl) ml PySem.boot_len (pa_cons (pv 2) pa_nil)) pa_nil))) pa_nil)))))), ?_⟩
    refine ⟨.ref vp, rfl, vp, _, rfl, .inl hv, fun l nl => ?_⟩
    obtain ⟨lb, lg, lm⟩ := B.ne nl
    have s1 : Same H (upd H l (.lst (xs.map V.str))) := same_new nl
    have lx : (xs.map V.str).length = xs.length := List.length_map _
    have hl1 : (upd H l (.lst (xs.map V.str))) l = some (.lst (xs.map V.str)) := upd_same
    generalize upd H l (.lst (xs.map V.str)) = H1 at s1 hl1 ⊢
    have B1 := B.same s1
    refine ⟨.ref l, rfl, l, _, rfl, .inl (SqL.of hl1), ((xs.map V.str).length : Int), rfl, by omega, by omega, fun D nD => ?_⟩
    obtain ⟨Db, Dg, Dm⟩ := B1.ne nD
    have Dl : D ≠ l := (ne_of_none hl1 nD).symm
    have K01 : Keep b g H H1 := Same.keep s1
    have fD : H D = none := K01.free Db Dg nD
    refine lc_range (lo := 0) (n := (((xs.map V.str).length : Nat) : Int).toNat) (fun j H4 => Box H4 b g m (n + j) ∧ Keep b g H H4 ∧ ∃ ys zs : List Str, H4 D = some (.lst (ys.map V.str)) ∧ H4 l = some (.lst (zs.map V.str)) ∧ ys.length = j ∧ (ys ++ zs).Perm xs) ?_ ?_ ?_
    · refine ⟨B1.store Db Dg Dm, K01.trans (Same.keep (same_new nD)), [], xs, upd_same, ?_, rfl, List.Perm.refl _⟩
      rw [upd_ne Dl.symm]
      exact hl1
    · rintro j H4 hj ⟨B4, K4, ys, zs, hD, hl, ly, pm⟩
      have total := pm.length_eq
      rw [List.length_append] at total
      have lz : (zs.map V.str).length = zs.length := List.length_map _
      refine ⟨rfl, .ref l, rfl, .inl ⟨rfl, _, SqL.of hl⟩, .ref b, rfl, .ref l, rfl, l, _, rfl, .inl (SqL.of hl), b, g, m, _, _, rfl, B4, by omega, by omega, by omega, fun v H5 c0 c1 B5 K5 => ?_⟩
      have hl5 := K5 _ _ hl lb lg
      have hD5 := K5 _ _ hD Db Dg
      have hv : v.toNat < zs.length := by omega
      refine ⟨l, _, v, v.toNat, .str zs[v.toNat], rfl, rfl, hl5, by omega, by omega, seq_at c0 c1, ?_, ys.map V.str, ?_, ?_, ?_⟩
      · rw [List.getElem?_map, List.getElem?_eq_getElem hv]
        rfl
      · rw [upd_ne Dl]
        exact hD5
      · rw [List.length_map]
        exact small1000 (by omega)
      · refine ⟨((B5.store lb lg lm).store Db Dg Dm).more (by omega), fun d o e n1 n2 => ?_, ys ++ [zs[v.toNat]], zs.eraseIdx v.toNat, ?_, ?_, ?_, ?_⟩
        · rw [upd_ne (ne_of_none e fD), upd_ne (ne_of_none e nl)]
          exact K5 _ _ (K4 _ _ e n1 n2) n1 n2
        · rw [upd_same, List.map_append]
          rfl
        · rw [upd_ne Dl.symm, upd_same, erase_map]
        · rw [List.length_append, ly]
          rfl
        · refine List.Perm.trans ?_ pm
          rw [List.append_assoc]
          exact List.Perm.append_left ys (erase_perm zs v.toNat _ (List.getElem?_eq_getElem hv))
    · rintro H4 ⟨B4, K4, ys, zs, hD, hl, ly, pm⟩
      have total := pm.length_eq
      rw [List.length_append] at total
      have z0 : zs = [] := List.length_eq_zero_iff.mp (by omega)
      subst z0
      rw [List.append_nil] at pm
      exact q D ys H4 fD hD pm (B4.more (by omega)) K4
/-! _law_is_quorum -/
abbrev sQu : Stmt := top 45
abbrev nQu : List Str := ["_law_rows", "_law_nodes", "_law_failed", "_law_name"]
abbrev pQu : List Str := ["_law_rows", "_law_nodes", "_law_failed"]
theorem scQu : FnScope nQu pQu (defScope sQu) := ⟨rfl, rfl, rfl, by decide +kernel, rfl, by decide +kernel, by decide +kernel⟩
def spQu (K : PySem.W.Frag) : Sp := fun vs H Q _ => ∃ (W a e : Addr) (c : Int) (xs : List Str) (rs : Rws) (L Fs : List Str), vs = [.ref W, .ref a, .ref e] ∧ Rw0 H W c xs rs ∧ H a = some (.tup (L.map V.str)) ∧ H e = some (.lst (Fs.map V.str)) ∧ Hon xs Fs L ∧ Fl xs Fs ∧ okL c Fs.length L = true ∧ ∀ H', Same H H' → Q (.bl true) H'
theorem ok_quorum {f f1 : Addr} {fd fd1 : FuncData} {k : Nat} (F : Fun K "_law_is_quorum" "_law_is_quorum" sQu f fd) (T : Bq mg)
    (F1 : Fun K "_law_satisfies" "_law_satisfies" sLsat f1 fd1) (b1 : Binds K fd1 ["_law_requirement", "_law_nodes"] []) (g1 : mg "_law_satisfies" = some (.ref f1)) (G1 : FnOk P w K mg base CX0 k f1 fd1 ["_law_requirement", "_law_nodes"] (spSat K Short)) : FnOk P w K mg base CX0 (k + 1) f fd pQu (spQu K) := by
  refine F.ok scQu (fun vs H Q E h => ?_) (fun cdv A outer s H vs Q E hr h => ?_)
  · obtain ⟨W, a, e, c, xs, rs, L, Fs, rfl, _⟩ := h
    rfl
  · obtain ⟨W, a, e, c, xs, rs, L, Fs, rfl, R, ha, he, hon, fl, ok, q⟩ := h
    have hu := hu_of hr
    have l8 := hon.few R.fit
    have f8 := fl.few R.fit
    obtain ⟨ne, big⟩ := okL_iff.mp ok
    refine ⟨_, pss_cons (ps_if (PW.pt (pw_or (pt_cmpR op_eq (pe_callB call_len_seq (by rfl) T.T.len PySem.boot_len (pa_cons (pv 1) pa_nil)) pe_int (nomark _))
        (pw_or1 (pt_val (pe_callB (cr_any rfl) (by rfl) T.any (by decide +kernel) (pa_cons (pe_lc (own := [("_law_name", 3)]) (g := gName 3) (tt := tYes) (by rfl) scQu.nd (pi_tup (pv 1)) (blkOk_by (N := nQu) (sc := defScope sQu) (by decide +kernel))
          (fun _ _ _ _ _ => pg_name (i := 3) scQu.nd rfl (Or.inl rfl)) (fun _ _ _ _ _ => pts_nil) (fun _ _ _ _ _ => pe_cmpR (show OpR _ (compareOp .In) (rIn K false) from op_in_seq) (pv 3) (pv 2) (by rfl))) pa_nil)))))) (pss_one (ps_ret pe_bl)) pss_nil)
      (pss_one (ps_ret (pe_callB (cr_all rfl) (by rfl) T.all (by decide +kernel) (pa_cons (pe_lc (own := [("_law_name", 3)]) (g := gName 3) (tt := tYes) (by rfl) scQu.nd (pi_tup (pv 1)) (blkOk_by (N := nQu) (sc := defScope sQu) (by decide +kernel))
          (fun _ _ _ _ _ => pg_name (i := 3) scQu.nd rfl (Or.inl rfl)) (fun _ _ _ _ _ => pts_nil) (fun _ _ _ _ _ => pe_call G1 hr (by rfl) g1 F1.kp b1 .nil pass0 (pa_cons (pe_dget hu (pv 0) (pv 3) (fun _ _ => rfl))
            (pa_cons (pe_op op_cat (pe_callTy (show CallR _ (.type "list") (rListOf K) from call_list_of) (by rfl) T.T.lst (by decide +kernel) (pa_cons (pv 1) pa_nil)) (pe_callTy (show CallR _ (.type "list") (rListOf K) from call_list_of) (by rfl) T.T.lst (by decide +kernel) (pa_cons (pv 2) pa_nil))) pa_nil)))) pa_nil)))), ?_⟩
    refine ⟨.ref a, rfl, a, _, rfl, .inr (SqT.of ha), rfl, _, rfl, ?_⟩
    rw [show decide (V.int (((L.map V.str).length : Nat) : Int) = V.int 0) = false from decide_eq_false fun z => ne (List.length_eq_zero_iff.mp (by have := V.int.inj z; rw [List.length_map] at this; omega))]
    refine iteF ?_
    refine ⟨.ref a, rfl, a, rfl, ⟨_, SqT.of ha⟩, fun D nD => lc_tup (K := K) (a := a) (xs := L.map V.str) (fun i H1 => Same H H1 ∧ H1 D = some (.lst (((L.take i).map fun _ => false).map V.bl))) ⟨same_new nD, upd_same⟩ (fun i H1 _ h => SqT.of (h.1 _ _ ha)) ?_ ?_⟩
    · rintro i x H1 hx ⟨s1, hD⟩
      rw [List.getElem?_map] at hx
      obtain ⟨z, hz, rfl⟩ := Option.map_eq_some_iff.mp hx
      have tk : L.take (i + 1) = L.take i ++ [z] := by
        rw [List.take_add_one, hz]
        rfl
      refine ⟨rfl, .str z, rfl, .ref e, rfl, e, _, rfl, .inl (SqL.of (s1 _ _ he)), rfl, flats Fs, ?_⟩
      rw [if_neg Bool.false_ne_true, inV_str, decide_eq_false (hon.out z (List.mem_of_getElem? hz))]
      refine ⟨_, hD, ?_, fun d o eb => ?_, ?_⟩
      · rw [List.length_map, List.length_map, List.length_take]
        exact small1000 (by omega)
      · rw [upd_ne (ne_of_none eb nD)]
        exact s1 d o eb
      · rw [upd_same, tk, List.map_append, List.map_append]
        rfl
    · rintro H1 ⟨s1, hD⟩
      refine ⟨D, _, rfl, SqL.of hD, ?_⟩
      rw [any_false]
      refine ⟨_, rfl, iteF ?_⟩
      have ha1 := s1 _ _ ha
      refine ⟨.ref a, rfl, a, rfl, ⟨_, SqT.of ha1⟩, fun D2 nD2 => lc_tup (K := K) (a := a) (xs := L.map V.str) (fun i H2 => Same H1 H2 ∧ H2 D2 = some (.lst (((L.take i).map fun _ => true).map V.bl))) ⟨same_new nD2, upd_same⟩ (fun i H2 _ h => SqT.of (h.1 _ _ ha1)) ?_ ?_⟩
      · rintro i x H2 hx ⟨s2, hD2⟩
        rw [List.getElem?_map] at hx
        obtain ⟨z, hz, rfl⟩ := Option.map_eq_some_iff.mp hx
        have tk : L.take (i + 1) = L.take i ++ [z] := by
          rw [List.take_add_one, hz]
          rfl
        have s02 := s1.trans s2
        have R2 := R.same s02
        obtain ⟨r, mr, hv⟩ := val_in (R.fit.keys.mem_iff.mpr (hon.inn z (List.mem_of_getElem? hz)))
        refine ⟨rfl, .ref W, rfl, .str z, rfl, W, _, rfl, .inl ⟨_, Sum.inr z, .inl R2.dc, rfl, hv.symm⟩, ?_⟩
        refine ⟨.ref a, rfl, a, _, rfl, .inr (SqT.of (s02 _ _ ha)), fun l1 nl1 => ?_⟩
        have s3 := same_new (o := .lst (L.map V.str)) nl1
        have hl1 : (upd H2 l1 (.lst (L.map V.str))) l1 = some (.lst (L.map V.str)) := upd_same
        generalize upd H2 l1 (.lst (L.map V.str)) = H3 at s3 hl1 ⊢
        refine ⟨.ref e, rfl, e, _, rfl, .inl (SqL.of (s3 _ _ (s02 _ _ he))), fun l2 nl2 => ?_⟩
        have s4 := same_new (o := .lst (Fs.map V.str)) nl2
        have hl2 : (upd H3 l2 (.lst (Fs.map V.str))) l2 = some (.lst (Fs.map V.str)) := upd_same
        generalize upd H3 l2 (.lst (Fs.map V.str)) = H4 at s4 hl2 ⊢
        refine ⟨l1, l2, _, _, rfl, rfl, s4 _ _ hl1, hl2, by rw [List.length_map, List.length_map]; exact Nat.le_of_lt (small1000 (by omega)), fun l3 nl3 => ?_⟩
        have e1 : (L.map V.str ++ Fs.map V.str : List V) = (L ++ Fs).map V.str := by rw [List.map_append]
        rw [e1]
        have s5 := same_new (o := .lst ((L ++ Fs).map V.str)) nl3
        have hl3 : (upd H4 l3 (.lst ((L ++ Fs).map V.str))) l3 = some (.lst ((L ++ Fs).map V.str)) := upd_same
        generalize upd H4 l3 (.lst ((L ++ Fs).map V.str)) = H5 at s5 hl3 ⊢
        have s25 := (s3.trans s4).trans s5
        obtain ⟨zs, Rq, pm⟩ := ((R2.fit.each _ mr).same s25).req
        have zl := pm.length_eq
        have few := R.fit.few
        refine ⟨r, c, zs.map Sum.inl, l3, L ++ Fs, rfl, Rq, short_names zs, by rw [List.length_map]; omega, .inl (SqL.of hl3), fun H6 s6 => ?_⟩
        have es : sat (L ++ Fs) c (zs.map Sum.inl) = true := by
          rw [sat_names]
          show decide (c ≤ ((cnt zs (L ++ Fs) : Nat) : Int)) = _
          rw [cnt_perm pm, cnt_hon R.fit.nd fl.nd fl.inn hon]
          exact decide_eq_true (by omega)
        rw [es]
        have s26 := s25.trans s6
        refine ⟨_, s26 _ _ hD2, ?_, fun d o eb => ?_, ?_⟩
        · rw [List.length_map, List.length_map, List.length_take]
          exact small1000 (by omega)
        · rw [upd_ne (ne_of_none eb nD2)]
          exact s26 _ _ (s2 d o eb)
        · rw [upd_same, tk, List.map_append, List.map_append]
          rfl
      · rintro H2 ⟨s2, hD2⟩
        refine ⟨D2, _, rfl, SqL.of hD2, ?_⟩
        rw [all_true]
        exact q H2 (s1.trans s2)
end
end Moot
namespace Moot
open PySem PySem.Spec PyProof.Rows L2
theorem Hon.ok {H : Hp} {c : Int} {xs Fs L : List Str} {rs : Rws} (h : Hon xs Fs L) (f : Fit H c xs rs) : ∀ y ∈ L, PyData.strOk y = true := fun y m => (f.nm y (h.inn y m)).ok
section
variable {P : Program} {w : World} {K : PySem.W.Frag} {mg : Str → Option Value} {base : Heap}
/-! _law_is_set -/
abbrev sIs : Stmt := top 46
abbrev nIs : List Str := ["_law_value", "_law_name"]
theorem scIs : FnScope nIs ["_law_value"] (defScope sIs) := ⟨rfl, rfl, rfl, by decide +kernel, rfl, by decide +kernel, by decide +kernel⟩
def spIs : Sp := fun vs H Q _ => ∃ (a : Addr) (L : List Str), vs = [.ref a] ∧ H a = some (.tup (L.map V.str)) ∧ Srt L ∧ L.Nodup ∧ L.length ≤ 8 ∧ (∀ y ∈ L, PyData.strOk y = true) ∧ ∀ H', Same H H' → Q (.bl true) H'
theorem ok_isset {f : Addr} {fd : FuncData} {k : Nat} (F : Fun K "_law_is_set" "_law_is_set" sIs f fd) (T : Bq mg) : FnOk P w K mg base CX0 (k + 1) f fd ["_law_value"] spIs := by
  refine F.ok scIs (fun vs H Q E h => ?_) (fun cdv A outer s H vs Q E hr h => ?_)
  · obtain ⟨a, L, rfl, _⟩ := h
    rfl
  · obtain ⟨a, L, rfl, ha, srt, nd, l8, ok, q⟩ := h
    refine ⟨_, pss_cons (ps_if (PW.pt (pw_or (pt_not (pt_val (pe_callB call_isi (by rfl) T.T.isi (by decide +kernel) (pa_cons (pv 0) (pa_cons (pe_bltn (v := .ty "tuple") (by rfl) T.T.tup (by decide +kernel) rfl) pa_nil)))))
        (pw_or1 (pt_not (pt_val (pe_callB (cr_all rfl) (by rfl) T.all (by decide +kernel) (pa_cons (pe_lc (own := [("_law_name", 1)]) (g := gName 1) (tt := tYes) (by rfl) scIs.nd (pi_tup (pv 0)) (blkOk_by (N := nIs) (sc := defScope sIs) (by decide +kernel))
          (fun _ _ _ _ _ => pg_name (i := 1) scIs.nd rfl (Or.inl rfl)) (fun _ _ _ _ _ => pts_nil) (fun _ _ _ _ _ => pe_callB (show CallR _ (.builtin "isinstance") (rIsi K) from call_isi) (by rfl) T.T.isi (by decide +kernel) (pa_cons (pv 1) (pa_cons (pe_bltn (v := .ty "str") (by rfl) T.T.str (by decide +kernel) rfl) pa_nil)))) pa_nil))))))) (pss_one (ps_ret pe_bl)) pss_nil)
      (pss_one (ps_ret (pe_cmpR (op_eqD hr.units) (pe_callTy call_list_of (by rfl) T.T.lst (by decide +kernel) (pa_cons (pv 0) pa_nil)) (pe_callB (cr_txtSorted rfl) (by rfl) T.T.srt (by decide +kernel) (pa_cons (pe_callTy (cr_txtSetA rfl) (by rfl) T.T.set (by decide +kernel) (pa_cons (pv 0) pa_nil)) pa_nil)) (nomark _)))), ?_⟩
    refine ⟨.ref a, rfl, _, _, .type "tuple", .type "tuple", true, rfl, .ty _, .base (.tup ha), kit_ty (r := true) (by decide +kernel), _, rfl, iteF ?_⟩
    refine ⟨.ref a, rfl, a, rfl, ⟨_, SqT.of ha⟩, fun D nD => lc_tup (K := K) (a := a) (xs := L.map V.str) (fun i H1 => Same H H1 ∧ H1 D = some (.lst (((L.take i).map fun _ => true).map V.bl))) ⟨same_new nD, upd_same⟩ (fun i H1 _ h => SqT.of (h.1 _ _ ha)) ?_ ?_⟩
    · rintro i x H1 hx ⟨s1, hD⟩
      rw [List.getElem?_map] at hx
      obtain ⟨z, hz, rfl⟩ := Option.map_eq_some_iff.mp hx
      have tk : L.take (i + 1) = L.take i ++ [z] := by
        rw [List.take_add_one, hz]
        rfl
      refine ⟨rfl, .str z, rfl, _, _, .type "str", .type "str", true, rfl, .ty _, .base (.str z), kit_ty (r := true) (by decide +kernel), _, hD, ?_, fun d o eb => ?_, ?_⟩
      · rw [List.length_map, List.length_map, List.length_take]
        exact small1000 (by omega)
      · rw [upd_ne (ne_of_none eb nD)]
        exact s1 d o eb
      · rw [upd_same, tk, List.map_append, List.map_append]
        rfl
    · rintro H1 ⟨s1, hD⟩
      refine ⟨D, _, rfl, SqL.of hD, ?_⟩
      rw [all_true]
      refine ⟨_, rfl, iteF ?_⟩
      refine ⟨.ref a, rfl, a, _, rfl, .inr (SqT.of (s1 _ _ ha)), fun l1 nl1 => ?_⟩
      have s2 := same_new (o := .lst (L.map V.str)) nl1
      have hl1 : (upd H1 l1 (.lst (L.map V.str))) l1 = some (.lst (L.map V.str)) := upd_same
      generalize upd H1 l1 (.lst (L.map V.str)) = H2 at s2 hl1 ⊢
      refine ⟨.ref a, rfl, a, L, rfl, .inr (SqT.of (s2 _ _ (s1 _ _ ha))), by omega, fun p m np hm => ?_⟩
      have s3 := same_new (o := TxtSet P w p (fun k => decide (k ∈ L)) m) np
      refine ⟨p, _, m, rfl, upd_same, by omega, fun ys p2 so nd2 mem len np2 => ?_⟩
      have ey : ys = L := srt_one (sorted_pairs so) nd2 srt nd fun x => (mem x).trans (by simp)
      subst ey
      have s4 := same_new (o := .lst (ys.map V.str)) np2
      have sh := sh_strs ok
      refine ⟨.list (ys.map PyData.str), .list (ys.map PyData.str), .lst (SqL.of (s4 _ _ (s3 _ _ hl1))) (dp_strs ys), .lst (SqL.of upd_same) (dp_strs ys), sh, sh, ?_⟩
      rw [SeqAt.eqv_refl _ (SeqAt.canLay_of_shaped sh)]
      exact q _ (((s1.trans s2).trans s3).trans s4)
/-! _law_are_apart -/
abbrev sAp : Stmt := top 47
abbrev pAp : List Str := ["_law_rows", "_law_failed", "_law_one", "_law_other"]
abbrev nAp : List Str := ["_law_rows", "_law_failed", "_law_one", "_law_other", "_law_name"]
theorem scAp : FnScope nAp pAp (defScope sAp) := ⟨rfl, rfl, rfl, by decide +kernel, rfl, by decide +kernel, by decide +kernel⟩
def spAp : Sp := fun vs H Q _ => ∃ (W e a1 a2 : Addr) (c : Int) (xs : List Str) (rs : Rws) (A B Fs : List Str), vs = [.ref W, .ref e, .ref a1, .ref a2] ∧ Rw0 H W c xs rs ∧ H e = some (.lst (Fs.map V.str)) ∧ H a1 = some (.tup (A.map V.str)) ∧ H a2 = some (.tup (B.map V.str)) ∧ Hon xs Fs A ∧ Hon xs Fs B ∧ Fl xs Fs ∧
  okL c Fs.length A = true ∧ okL c Fs.length B = true ∧ (∀ x ∈ A, x ∉ B) ∧ ∀ H', Same H H' → Q (.bl true) H'
theorem ok_apart {f f1 f2 : Addr} {fd fd1 fd2 : FuncData} {k : Nat} (F : Fun K "_law_are_apart" "_law_are_apart" sAp f fd) (T : Bq mg)
    (F1 : Fun K "_law_is_set" "_law_is_set" sIs f1 fd1) (b1 : Binds K fd1 ["_law_value"] []) (g1 : mg "_law_is_set" = some (.ref f1)) (G1 : FnOk P w K mg base CX0 k f1 fd1 ["_law_value"] spIs)
    (F2 : Fun K "_law_is_quorum" "_law_is_quorum" sQu f2 fd2) (b2 : Binds K fd2 pQu []) (g2 : mg "_law_is_quorum" = some (.ref f2)) (G2 : FnOk P w K mg base CX0 k f2 fd2 pQu (spQu K)) : FnOk P w K mg base CX0 (k + 1) f fd pAp spAp := by
  refine F.ok scAp (fun vs H Q E h => ?_) (fun cdv A' outer s H vs Q E hr h => ?_)
  · obtain ⟨W, e, a1, a2, c, xs, rs, A, B, Fs, rfl, _⟩ := h
    rfl
  · obtain ⟨W, e, a1, a2, c, xs, rs, A, B, Fs, rfl, R, he, h1, h2, hA, hB, fl, oA, oB, dj, q⟩ := h
    have hu := hu_of hr
    have lA := hA.few R.fit
    have lB := hB.few R.fit
    have neA := (okL_iff.mp oA).1
    have neB := (okL_iff.mp oB).1
    refine ⟨_, pss_cons (ps_if (PW.pt (pw_or (pt_not (pt_val (pe_call G1 hr (by rfl) g1 F1.kp b1 .nil pass0 (pa_cons (pv 2) pa_nil)))) (pw_or (pt_not (pt_val (pe_call G1 hr (by rfl) g1 F1.kp b1 .nil pass0 (pa_cons (pv 3) pa_nil))))
        (pw_or1 (pt_val (pe_callB (cr_any rfl) (by rfl) T.any (by decide +kernel) (pa_cons (pe_lc (own := [("_law_name", 4)]) (g := gName 4) (tt := tYes) (by rfl) scAp.nd (pi_tup (pv 2)) (blkOk_by (N := nAp) (sc := defScope sAp) (by decide +kernel))
          (fun _ _ _ _ _ => pg_name (i := 4) scAp.nd rfl (Or.inl rfl)) (fun _ _ _ _ _ => pts_nil) (fun _ _ _ _ _ => pe_cmpR (show OpR _ (compareOp .In) (rIn K false) from op_in_seq) (pv 4) (pv 3) (by rfl))) pa_nil))))))) (pss_one (ps_ret pe_bl)) pss_nil)
      (pss_cons (ps_if (pt_not (pt_val (pe_callB (cr_all rfl) (by rfl) T.all (by decide +kernel) (pa_cons (pe_lc (own := [("_law_name", 4)]) (g := gName 4) (tt := tYes) (by rfl) scAp.nd (pi_tup (pe_op op_catT (pv 2) (pv 3))) (blkOk_by (N := nAp) (sc := defScope sAp) (by decide +kernel))
          (fun _ _ _ _ _ => pg_name (i := 4) scAp.nd rfl (Or.inl rfl)) (fun _ _ _ _ _ => pts_nil) (fun _ _ _ _ _ => pe_cmp (pc_din hu (pv 4) (pv 0)) (by rfl))) pa_nil)))) (pss_one (ps_ret pe_bl)) pss_nil)
      (pss_one (ps_ret (pe_and (pe_call G2 hr (by rfl) g2 F2.kp b2 .nil pass0 (pa_cons (pv 0) (pa_cons (pv 2) (pa_cons (pv 1) pa_nil)))) (pe_one (pe_call G2 hr (by rfl) g2 F2.kp b2 .nil pass0 (pa_cons (pv 0) (pa_cons (pv 3) (pa_cons (pv 1) pa_nil))))))))), ?_⟩
    refine ⟨.ref a1, rfl, a1, A, rfl, h1, hA.srt, hA.nd, lA, hA.ok R.fit, fun H1 s1 => ⟨_, rfl, iteF ?_⟩⟩
    refine ⟨.ref a2, rfl, a2, B, rfl, s1 _ _ h2, hB.srt, hB.nd, lB, hB.ok R.fit, fun H2 s2 => ⟨_, rfl, iteF ?_⟩⟩
    have s02 := s1.trans s2
    have h12 := s02 _ _ h1
    have h22 := s02 _ _ h2
    refine ⟨.ref a1, rfl, a1, rfl, ⟨_, SqT.of h12⟩, fun D nD => lc_tup (K := K) (a := a1) (xs := A.map V.str) (fun i H3 => Same H2 H3 ∧ H3 D = some (.lst (((A.take i).map fun _ => false).map V.bl))) ⟨same_new nD, upd_same⟩ (fun i H3 _ h => SqT.of (h.1 _ _ h12)) ?_ ?_⟩
    · rintro i x H3 hx ⟨s3, hD⟩
      rw [List.getElem?_map] at hx
      obtain ⟨z, hz, rfl⟩ := Option.map_eq_some_iff.mp hx
      have tk : A.take (i + 1) = A.take i ++ [z] := by
        rw [List.take_add_one, hz]
        rfl
      refine ⟨rfl, .str z, rfl, .ref a2, rfl, a2, _, rfl, .inr (SqT.of (s3 _ _ h22)), rfl, flats B, ?_⟩
      rw [if_neg Bool.false_ne_true, inV_str, decide_eq_false (dj z (List.mem_of_getElem? hz))]
      refine ⟨_, hD, ?_, fun d o eb => ?_, ?_⟩
      · rw [List.length_map, List.length_map, List.length_take]
        exact small1000 (by omega)
      · rw [upd_ne (ne_of_none eb nD)]
        exact s3 d o eb
      · rw [upd_same, tk, List.map_append, List.map_append]
        rfl
    · rintro H3 ⟨s3, hD⟩
      refine ⟨D, _, rfl, SqL.of hD, ?_⟩
      rw [any_false]
      refine ⟨_, rfl, iteF ?_⟩
      have s03 := s02.trans s3
      refine ⟨.ref a1, rfl, .ref a2, rfl, a1, a2, _, _, rfl, rfl, SqT.of (s03 _ _ h1), SqT.of (s03 _ _ h2), fun z => neA (List.map_eq_nil_iff.mp z), by rw [List.length_map, List.length_map]; exact Nat.le_of_lt (small1000 (by omega)), fun z => absurd (List.map_eq_nil_iff.mp z) neB, fun _ p np => ?_⟩
      have e1 : (A.map V.str ++ B.map V.str : List V) = (A ++ B).map V.str := by rw [List.map_append]
      rw [e1]
      have s4 := same_new (o := .tup ((A ++ B).map V.str)) np
      have hp : (upd H3 p (.tup ((A ++ B).map V.str))) p = some (.tup ((A ++ B).map V.str)) := upd_same
      generalize upd H3 p (.tup ((A ++ B).map V.str)) = H4 at s4 hp ⊢
      have s04 := s03.trans s4
      have R4 := R.same s04
      refine ⟨p, rfl, ⟨_, SqT.of hp⟩, fun D2 nD2 => lc_tup (K := K) (a := p) (xs := (A ++ B).map V.str) (fun i H5 => Same H4 H5 ∧ H5 D2 = some (.lst ((((A ++ B).take i).map fun _ => true).map V.bl))) ⟨same_new nD2, upd_same⟩ (fun i H5 _ h => SqT.of (h.1 _ _ hp)) ?_ ?_⟩
      · rintro i x H5 hx ⟨s5, hD2⟩
        rw [List.getElem?_map] at hx
        obtain ⟨z, hz, rfl⟩ := Option.map_eq_some_iff.mp hx
        have tk : (A ++ B).take (i + 1) = (A ++ B).take i ++ [z] := by
          rw [List.take_add_one, hz]
          rfl
        have mz : z ∈ xs := (List.mem_append.mp (List.mem_of_getElem? hz)).elim (hA.inn z) (hB.inn z)
        obtain ⟨r, _, hv⟩ := val_in (R.fit.keys.mem_iff.mpr mz)
        refine ⟨rfl, .str z, rfl, .ref W, rfl, W, _, rfl, .inl ⟨_, Sum.inr z, .inl (R4.same s5).dc, rfl, hv.symm⟩, _, hD2, ?_, fun d o eb => ?_, ?_⟩
        · rw [List.length_map, List.length_map, List.length_take, List.length_append]
          exact small1000 (by omega)
        · rw [upd_ne (ne_of_none eb nD2)]
          exact s5 d o eb
        · rw [upd_same, tk, List.map_append, List.map_append]
          rfl
      · rintro H5 ⟨s5, hD2⟩
        refine ⟨D2, _, rfl, SqL.of hD2, ?_⟩
        rw [all_true]
        refine ⟨_, rfl, iteF ?_⟩
        have s05 := s04.trans s5
        refine ⟨.ref W, rfl, .ref a1, rfl, .ref e, rfl, W, a1, e, c, xs, rs, A, Fs, rfl, R.same s05, s05 _ _ h1, s05 _ _ he, hA, fl, oA, fun H6 s6 => ⟨_, rfl, iteT ?_⟩⟩
        have s06 := s05.trans s6
        exact ⟨.ref W, rfl, .ref a2, rfl, .ref e, rfl, W, a2, e, c, xs, rs, B, Fs, rfl, R.same s06, s06 _ _ h2, s06 _ _ he, hB, fl, oB, fun H7 s7 => q H7 (s06.trans s7)⟩
/-! _law_without -/
abbrev sWo : Stmt := top 48
abbrev pWo : List Str := ["_law_names_here", "_law_name"]
abbrev nWo : List Str := ["_law_names_here", "_law_name", "_law_other"]
theorem scWo : FnScope nWo pWo (defScope sWo) := ⟨rfl, rfl, rfl, by decide +kernel, rfl, by decide +kernel, by decide +kernel⟩
def spWo : Sp := fun vs H Q _ => ∃ (a : Addr) (L : List Str) (x : Str), vs = [.ref a, .str x] ∧ H a = some (.lst (L.map V.str)) ∧ L.length ≤ 8 ∧ ∀ (p : Addr) (H' : Hp), Same H H' → H p = none → H' p = some (.lst ((dropN L x).map V.str)) → Q (.ref p) H'
theorem ok_without {f : Addr} {fd : FuncData} {k : Nat} (F : Fun K "_law_without" "_law_without" sWo f fd) (T : Bq mg) : FnOk P w K mg base CX0 (k + 1) f fd pWo spWo := by
  refine F.ok scWo (fun vs H Q E h => ?_) (fun cdv A outer s H vs Q E hr h => ?_)
  · obtain ⟨a, L, x, rfl, _⟩ := h
    rfl
  · obtain ⟨a, L, x, rfl, ha, l8, q⟩ := h
    refine ⟨_, pss_one (ps_ret (pe_lc (own := [("_law_other", 2)]) (g := gName 2) (by rfl) scWo.nd (pi_list (pv 0)) (blkOk_by (N := nWo) (sc := defScope sWo) (by decide +kernel))
          (fun _ _ _ _ _ => pg_name (i := 2) scWo.nd rfl (Or.inl rfl)) (fun _ _ _ _ _ => pts_one (pt_cmpR op_ne (pv 2) (pv 1) (nomark _))) (fun _ _ _ _ _ => pv 2))), ?_⟩
    refine ⟨.ref a, rfl, a, rfl, ⟨_, SqL.of ha⟩, fun D nD => lc_list (K := K) (a := a) (xs := L.map V.str) (fun i H1 => Same H H1 ∧ H1 D = some (.lst ((dropN (L.take i) x).map V.str))) ⟨same_new nD, upd_same⟩ (fun i H1 _ h => SqL.of (h.1 _ _ ha)) ?_ ?_⟩
    · rintro i y H1 hy ⟨s1, hD⟩
      rw [List.getElem?_map] at hy
      obtain ⟨z, hz, rfl⟩ := Option.map_eq_some_iff.mp hy
      have tk : L.take (i + 1) = L.take i ++ [z] := by
        rw [List.take_add_one, hz]
        rfl
      refine ⟨rfl, .str z, rfl, .str x, rfl, rfl, _, rfl, ?_⟩
      by_cases m : z = x
      · subst m
        have e : decide (V.str z = V.str z) = true := decide_eq_true rfl
        rw [e]
        refine iteF ⟨s1, ?_⟩
        rw [hD, tk]
        unfold dropN
        rw [List.filter_append]
        simp
      · have e : decide (V.str z = V.str x) = false := decide_eq_false fun h => m (V.str.inj h)
        rw [e]
        refine iteT ⟨.str z, rfl, _, hD, ?_, fun d o eb => ?_, ?_⟩
        · rw [List.length_map]
          unfold dropN
          refine small1000 (Nat.le_trans (List.length_filter_le _ _) ?_)
          rw [List.length_take]
          omega
        · rw [upd_ne (ne_of_none eb nD)]
          exact s1 d o eb
        · rw [upd_same, tk]
          unfold dropN
          rw [List.filter_append]
          simp [m]
    · rintro H1 ⟨s1, hD⟩
      rw [List.length_map, List.take_length] at hD
      exact q D H1 s1 nD hD
end
end Moot
namespace Moot
open PySem PySem.Spec PyProof.Rows L2
theorem tl_kit {K : PySem.W.Frag} : PySem.W.kitAny K (.type "tuple") [.type "tuple", .type "list"] = some true := kitAny_cons (b := true) (kit_ty (by decide +kernel)) (fun h => by cases h) fun _ => rfl
theorem tl_cls : Paired ClsV [V.ty "tuple", V.ty "list"] [.type "tuple", .type "list"] := .cons (.ty _) (.cons (.ty _) .nil)
/-- what a value of all tuples is -/
def TV (c : Int) (f : Nat) (H : Hp) (n : Nat) (v : V) : Prop := (1 ≤ n ∧ ∃ z, v = .str z) ∨ (2 ≤ n ∧ ∃ (q : Addr) (L : List Str), v = .ref q ∧ H q = some (.tup (L.map V.str)) ∧ L.length ≤ 8) ∨ ∃ p t A B, v = .ref p ∧ CrtAt H t p ∧ Valid c f t A B ∧ A.length + B.length + 3 ≤ n ∧ A.length ≤ 8 ∧ B.length ≤ 8
theorem TV.same {c : Int} {f : Nat} {H H' : Hp} {n : Nat} {v : V} (s : Same H H') (h : TV c f H n v) : TV c f H' n v := by
  rcases h with h | ⟨h0, q, L, h1, h2, h3⟩ | ⟨p, t, A, B, h1, h2, h3⟩
  · exact .inl h
  · exact .inr (.inl ⟨h0, q, L, h1, s _ _ h2, h3⟩)
  · exact .inr (.inr ⟨p, t, A, B, h1, CrtAt.same s h2, h3⟩)
theorem TV.items {c : Int} {f : Nat} {H : Hp} {n : Nat} {v : V} (h : TV c f H (n + 1) v) : (∃ z, v = .str z) ∨ ∃ q us, v = .ref q ∧ H q = some (.tup us) ∧ us.length ≤ 8 ∧ ∀ u ∈ us, TV c f H n u := by
  rcases h with ⟨_, h⟩ | ⟨h0, q, L, h1, h2, h3⟩ | ⟨p, t, A, B, h1, h2, h3, h4, h5, h6⟩
  · exact .inl h
  · refine .inr ⟨q, _, h1, h2, by rw [List.length_map]; exact h3, fun u mu => ?_⟩
    obtain ⟨z, _, rfl⟩ := List.mem_map.mp mu
    exact .inl ⟨by omega, z, rfl⟩
  · cases t with
    | one L =>
      obtain ⟨q, k1, k2⟩ := h2
      refine .inr ⟨p, _, h1, k1, by show 3 ≤ 8; decide, fun u mu => ?_⟩
      have e := h3.1
      subst e
      rcases List.mem_cons.mp mu with rfl | mu
      · exact .inl ⟨by omega, _, rfl⟩
      rcases List.mem_cons.mp mu with rfl | mu
      · exact .inl ⟨by omega, _, rfl⟩
      · rw [List.mem_singleton.mp mu]
        exact .inr (.inl ⟨by omega, q, L, rfl, k2, h5⟩)
    | other L =>
      obtain ⟨q, k1, k2⟩ := h2
      refine .inr ⟨p, _, h1, k1, by show 3 ≤ 8; decide, fun u mu => ?_⟩
      have e := h3.1
      subst e
      rcases List.mem_cons.mp mu with rfl | mu
      · exact .inl ⟨by omega, _, rfl⟩
      rcases List.mem_cons.mp mu with rfl | mu
      · exact .inl ⟨by omega, _, rfl⟩
      · rw [List.mem_singleton.mp mu]
        exact .inr (.inl ⟨by omega, q, L, rfl, k2, h6⟩)
    | split x t u =>
      obtain ⟨p1, p2, k1, k2, k3⟩ := h2
      obtain ⟨mA, mB, v1, v2⟩ := h3
      have lA := dropN_len mA
      have lB := dropN_len mB
      refine .inr ⟨p, _, h1, k1, by show 4 ≤ 8; decide, fun u' mu => ?_⟩
      rcases List.mem_cons.mp mu with rfl | mu
      · exact .inl ⟨by omega, _, rfl⟩
      rcases List.mem_cons.mp mu with rfl | mu
      · exact .inl ⟨by omega, _, rfl⟩
      rcases List.mem_cons.mp mu with rfl | mu
      · exact .inr (.inr ⟨p1, t, dropN A x, B, rfl, k2, v1, by omega, by omega, h6⟩)
      · rw [List.mem_singleton.mp mu]
        exact .inr (.inr ⟨p2, u, A, dropN B x, rfl, k3, v2, by omega, h5, by omega⟩)
section
variable {P : Program} {w : World} {K : PySem.W.Frag} {mg : Str → Option Value} {base : Heap}
/-! _law_removes -/
abbrev sRv : Stmt := top 49
abbrev pRv : List Str := ["_law_rows", "_law_failed", "_law_nodes", "_law_order"]
abbrev nRv : List Str := ["_law_rows", "_law_failed", "_law_nodes", "_law_order", "_law_left", "_law_name"]
theorem scRv : FnScope nRv pRv (defScope sRv) := ⟨rfl, rfl, rfl, by decide +kernel, rfl, by decide +kernel, by decide +kernel⟩
def spRv : Sp := fun vs H Q _ => ∃ (W e a o : Addr) (c : Int) (xs : List Str) (rs : Rws) (L Fs : List Str), vs = [.ref W, .ref e, .ref a, .ref o] ∧ Rw0 H W c xs rs ∧ H e = some (.lst (Fs.map V.str)) ∧ H a = some (.lst (L.map V.str)) ∧ H o = some (.tup (L.map V.str)) ∧ Hon xs Fs L ∧ Fl xs Fs ∧ okL c Fs.length L = false ∧ ∀ H', Same H H' → Q (.bl true) H'
theorem ok_removes {f f1 f2 : Addr} {fd fd1 fd2 : FuncData} {k : Nat} (F : Fun K "_law_removes" "_law_removes" sRv f fd) (T : Bq mg)
    (F1 : Fun K "_law_satisfies" "_law_satisfies" sLsat f1 fd1) (b1 : Binds K fd1 ["_law_requirement", "_law_nodes"] []) (g1 : mg "_law_satisfies" = some (.ref f1)) (G1 : FnOk P w K mg base CX0 k f1 fd1 ["_law_requirement", "_law_nodes"] (spSat K Short))
    (F2 : Fun K "_law_without" "_law_without" sWo f2 fd2) (b2 : Binds K fd2 pWo []) (g2 : mg "_law_without" = some (.ref f2)) (G2 : FnOk P w K mg base CX0 k f2 fd2 pWo spWo) : FnOk P w K mg base CX0 (k + 1) f fd pRv spRv := by
  refine F.ok scRv (fun vs H Q E h => ?_) (fun cdv A outer s H vs Q E hr h => ?_)
  · obtain ⟨W, e, a, o, c, xs, rs, L, Fs, rfl, _⟩ := h
    rfl
  · obtain ⟨W, e, a, o, c, xs, rs, L, Fs, rfl, R, he, ha, ho, hon, fl, no, q⟩ := h
    have hu := hu_of hr
    have l8 := hon.few R.fit
    have f8 := fl.few R.fit
    refine ⟨_, pss_cons (ps_set (i := 4) scRv.nd rfl (Or.inl rfl) (pe_callTy call_list_of (by rfl) T.T.lst (by decide +kernel) (pa_cons (pv 2) pa_nil)))
      (pss_cons (ps_for PassesOwn.never rfl (pi_tup (pv 3)) (pg_name (i := 5) scRv.nd rfl (Or.inl rfl))
        (pss_cons (ps_if (PW.pt (pw_or (pt_cmpR op_notIn_seq (pv 5) (pv 4) (by rfl)) (pw_or1 (pt_val (pe_call G1 hr (by rfl) g1 F1.kp b1 .nil pass0 (pa_cons (pe_dget hu (pv 0) (pv 5) (fun _ _ => rfl)) (pa_cons (pe_op op_cat (pv 4) (pe_callTy call_list_of (by rfl) T.T.lst (by decide +kernel) (pa_cons (pv 1) pa_nil))) pa_nil))))))) (pss_one (ps_ret pe_bl)) pss_nil)
        (pss_one (ps_set (i := 4) scRv.nd rfl (Or.inl rfl) (pe_call G2 hr (by rfl) g2 F2.kp b2 .nil pass0 (pa_cons (pv 4) (pa_cons (pv 5) pa_nil)))))))
      (pss_one (ps_ret (pe_cmpR (op_eqD hr.units) (pv 4) (pe_lst pa_nil) (nomark _))))), ?_⟩
    refine ⟨.ref a, rfl, a, _, rfl, .inl (SqL.of ha), fun l1 nl1 => ?_⟩
    have s1 := same_new (o := .lst (L.map V.str)) nl1
    have hl1 : (upd H l1 (.lst (L.map V.str))) l1 = some (.lst (L.map V.str)) := upd_same
    generalize upd H l1 (.lst (L.map V.str)) = H1 at s1 hl1 ⊢
    have ho1 := s1 _ _ ho
    refine ⟨.ref o, rfl, o, rfl, ⟨_, SqT.of ho1⟩, for_tup (K := K) (a := o) (xs := L.map V.str) (fun j σ H2 => ∃ (l : Addr) (y5 : Option V), σ = [some (.ref W), some (.ref e), some (.ref a), some (.ref o), some (.ref l), y5] ∧ Same H1 H2 ∧ H2 l = some (.lst ((L.drop j).map V.str))) ⟨l1, none, rfl, Same.refl _, hl1⟩ (fun j σ H2 _ ⟨_, _, _, s2, _⟩ => SqT.of (s2 _ _ ho1)) ?_ ?_⟩
    · rintro j y σ H2 hy ⟨l, y5, rfl, s2, hl⟩
      rw [List.getElem?_map] at hy
      obtain ⟨x, hx, rfl⟩ := Option.map_eq_some_iff.mp hy
      have jl : j < L.length := (List.getElem?_eq_some_iff.mp hx).1
      have ed : ∃ r, L.drop j = x :: r := by
        refine ⟨L.drop (j + 1), ?_⟩
        rw [List.drop_eq_getElem_cons jl]
        have := (List.getElem?_eq_some_iff.mp hx).2
        rw [this]
      obtain ⟨r, ed⟩ := ed
      obtain ⟨e1, _⟩ := drop_out hon.nd ed
      rw [dropN_out] at e1
      have mxd : x ∈ L.drop j := by rw [ed]; exact List.mem_cons_self
      have hd := hon.dropn j
      have s02 := s1.trans s2
      refine ⟨.str x, rfl, .ref l, rfl, l, _, rfl, .inl (SqL.of hl), rfl, flats _, _, rfl, ?_⟩
      rw [inV_str, decide_eq_true mxd]
      refine iteF ?_
      obtain ⟨r', mr, hv⟩ := val_in (R.fit.keys.mem_iff.mpr (hd.inn x mxd))
      have R2 := R.same s02
      refine ⟨.ref W, rfl, .str x, rfl, W, _, rfl, .inl ⟨_, Sum.inr x, .inl R2.dc, rfl, hv.symm⟩, ?_⟩
      refine ⟨.ref l, rfl, .ref e, rfl, e, _, rfl, .inl (SqL.of (s02 _ _ he)), fun l2 nl2 => ?_⟩
      have s3 := same_new (o := .lst (Fs.map V.str)) nl2
      have hl2 : (upd H2 l2 (.lst (Fs.map V.str))) l2 = some (.lst (Fs.map V.str)) := upd_same
      generalize upd H2 l2 (.lst (Fs.map V.str)) = H3 at s3 hl2 ⊢
      refine ⟨l, l2, _, _, rfl, rfl, s3 _ _ hl, hl2, by rw [List.length_map, List.length_map, List.length_drop]; exact Nat.le_of_lt (small1000 (by omega)), fun l3 nl3 => ?_⟩
      have ea : ((L.drop j).map V.str ++ Fs.map V.str : List V) = (L.drop j ++ Fs).map V.str := by rw [List.map_append]
      rw [ea]
      have s4 := same_new (o := .lst ((L.drop j ++ Fs).map V.str)) nl3
      have hl3 : (upd H3 l3 (.lst ((L.drop j ++ Fs).map V.str))) l3 = some (.lst ((L.drop j ++ Fs).map V.str)) := upd_same
      generalize upd H3 l3 (.lst ((L.drop j ++ Fs).map V.str)) = H4 at s4 hl3 ⊢
      have s24 := s3.trans s4
      obtain ⟨zs, Rq, pm⟩ := ((R2.fit.each _ mr).same s24).req
      have zl := pm.length_eq
      have few := R.fit.few
      refine ⟨r', c, zs.map Sum.inl, l3, L.drop j ++ Fs, rfl, Rq, short_names zs, by rw [List.length_map]; omega, .inl (SqL.of hl3), fun H5 s5 => ?_⟩
      have es : sat (L.drop j ++ Fs) c (zs.map Sum.inl) = false := by
        rw [sat_names]
        show decide (c ≤ ((cnt zs (L.drop j ++ Fs) : Nat) : Int)) = _
        rw [cnt_perm pm, cnt_hon R.fit.nd fl.nd fl.inn hd, List.length_drop]
        refine decide_eq_false ?_
        rcases okL_not.mp no with z | z
        · rw [z] at jl
          simp at jl
        · omega
      rw [es]
      refine ⟨_, rfl, iteF ?_⟩
      have s25 := s24.trans s5
      refine ⟨.ref l, rfl, .str x, rfl, l, L.drop j, x, rfl, s25 _ _ hl, by rw [List.length_drop]; omega, fun l4 H6 s6 nl4 hl4 => ?_⟩
      rw [e1] at hl4
      exact ⟨l4, _, rfl, (s2.trans s25).trans s6, hl4⟩
    · rintro σ H2 ⟨l, y5, rfl, s2, hl⟩
      rw [List.length_map, List.drop_length] at hl
      refine ⟨.ref l, rfl, Nat.zero_le _, fun l2 nl2 => ?_⟩
      have s3 := same_new (o := .lst []) nl2
      have sh : SeqAt.shaped (.list []) = true := by decide +kernel
      refine ⟨.list [], .list [], .lst (SqL.of (s3 _ _ hl)) .nil, .lst (SqL.of upd_same) .nil, sh, sh, ?_⟩
      rw [SeqAt.eqv_refl _ (SeqAt.canLay_of_shaped sh)]
      exact q _ ((s1.trans s2).trans s3)
end
end Moot
namespace Moot
open PySem PySem.Spec PyProof.Rows L2
section
variable {P : Program} {w : World} {K : PySem.W.Frag} {mg : Str → Option Value} {base : Heap}
/-! _law_certifies -/
abbrev sCe : Stmt := top 50
abbrev pCe : List Str := ["_law_rows", "_law_failed", "_law_value", "_law_one", "_law_other"]
theorem scCe : FnScope pCe pCe (defScope sCe) := ⟨rfl, rfl, rfl, by decide +kernel, rfl, by decide +kernel, by decide +kernel⟩
def spCe (n : Nat) : Sp := fun vs H Q _ => ∃ (W e p a1 a2 : Addr) (c : Int) (xs : List Str) (rs : Rws) (A B Fs : List Str) (t : Crt), vs = [.ref W, .ref e, .ref p, .ref a1, .ref a2] ∧ Rw0 H W c xs rs ∧ H e = some (.lst (Fs.map V.str)) ∧ CrtAt H t p ∧ H a1 = some (.lst (A.map V.str)) ∧ H a2 = some (.lst (B.map V.str)) ∧
  Hon xs Fs A ∧ Hon xs Fs B ∧ Fl xs Fs ∧ Valid c Fs.length t A B ∧ A.length + B.length < n ∧ ∀ H', Same H H' → Q (.bl true) H'
theorem ok_certifies {f f1 f2 : Addr} {fd fd1 fd2 : FuncData} {k n : Nat} (F : Fun K "_law_certifies" "_law_certifies" sCe f fd) (b0 : Binds K fd pCe []) (g0 : mg "_law_certifies" = some (.ref f)) (T : Bq mg) (G0 : FnOk P w K mg base CX0 k f fd pCe (spCe n))
    (F1 : Fun K "_law_removes" "_law_removes" sRv f1 fd1) (b1 : Binds K fd1 pRv []) (g1 : mg "_law_removes" = some (.ref f1)) (G1 : FnOk P w K mg base CX0 k f1 fd1 pRv spRv)
    (F2 : Fun K "_law_without" "_law_without" sWo f2 fd2) (b2 : Binds K fd2 pWo []) (g2 : mg "_law_without" = some (.ref f2)) (G2 : FnOk P w K mg base CX0 k f2 fd2 pWo spWo) : FnOk P w K mg base CX0 (k + 1) f fd pCe (spCe (n + 1)) := by
  refine F.ok scCe (fun vs H Q E h => ?_) (fun cdv A' outer s H vs Q E hr h => ?_)
  · obtain ⟨W, e, p, a1, a2, c, xs, rs, A, B, Fs, t, rfl, _⟩ := h
    rfl
  · obtain ⟨W, e, p, a1, a2, c, xs, rs, A, B, Fs, t, rfl, R, he, ct, h1, h2, hA, hB, fl, va, hlen, q⟩ := h
    have lA := hA.few R.fit
    have lB := hB.few R.fit
    refine ⟨_, (pss_cons (ps_if (PW.pt (pw_or (pt_not (pt_val (pe_callB call_isiT (by rfl) T.T.isi (by decide +kernel) (pa_cons (pv 2) (pa_cons (pe_tup (pa_cons (pe_bltn (v := .ty "tuple") (by rfl) T.T.tup (by decide +kernel) rfl) (pa_cons (pe_bltn (v := .ty "list") (by rfl) T.T.lst (by decide +kernel) rfl) pa_nil))) pa_nil))))) (pw_or1 (pt_cmpR op_notIn_seq (pe_callB call_len_seq (by rfl) T.T.len PySem.boot_len (pa_cons (pv 2) pa_nil)) (pe_tup (pa_cons pe_int (pa_cons pe_int pa_nil))) (by rfl))))) (pss_one (ps_ret pe_bl)) pss_nil)
      (pss_cons (ps_if (pt_cmpR op_eq (pe_ix ix_tup (pv 2) pe_int (fun _ _ => rfl)) pe_str (nomark _)) (pss_cons (ps_if (PW.pt (pw_or (pt_cmpR op_ne (pe_callB call_len_seq (by rfl) T.T.len PySem.boot_len (pa_cons (pv 2) pa_nil)) pe_int (nomark _)) (pw_or (pt_cmpR op_notIn_seq (pe_ix ix_tup (pv 2) pe_int (fun _ _ => rfl)) (pe_tup (pa_cons pe_str (pa_cons pe_str pa_nil))) (by rfl)) (pw_or1 (pt_not (pt_val (pe_callB call_isiT (by rfl) T.T.isi (by decide +kernel) (pa_cons (pe_ix ix_tup (pv 2) pe_int (fun _ _ => rfl)) (pa_cons (pe_tup (pa_cons (pe_bltn (v := .ty "tuple") (by rfl) T.T.tup (by decide +kernel) rfl) (pa_cons (pe_bltn (v := .ty "list") (by rfl) T.T.lst (by decide +kernel) rfl) pa_nil))) pa_nil))))))))) (pss_one (ps_ret pe_bl)) pss_nil)
      (pss_one (ps_ret (pe_call G1 hr (by rfl) g1 F1.kp b1 .nil pass0 (pa_cons (pv 0) (pa_cons (pv 1) (pa_cons (pe_ifExp (pt_cmpR op_eq (pe_ix ix_tup (pv 2) pe_int (fun _ _ => rfl)) pe_str (nomark _)) (pv 3) (pv 4)) (pa_cons (pe_ix ix_tup (pv 2) pe_int (fun _ _ => rfl)) pa_nil)))))))) pss_nil)
      (pss_cons (ps_if (PW.pt (pw_or (pt_cmpR op_ne (pe_ix ix_tup (pv 2) pe_int (fun _ _ => rfl)) pe_str (nomark _)) (pw_or (pt_cmpR op_ne (pe_callB call_len_seq (by rfl) T.T.len PySem.boot_len (pa_cons (pv 2) pa_nil)) pe_int (nomark _)) (pw_or (pt_cmpR op_notIn_seq (pe_ix ix_tup (pv 2) pe_int (fun _ _ => rfl)) (pv 3) (by rfl)) (pw_or1 (pt_cmpR op_notIn_seq (pe_ix ix_tup (pv 2) pe_int (fun _ _ => rfl)) (pv 4) (by rfl))))))) (pss_one (ps_ret pe_bl)) pss_nil)
      (pss_cons (ps_if (pt_not (pt_val (pe_call G0 hr (by rfl) g0 F.kp b0 .nil pass0 (pa_cons (pv 0) (pa_cons (pv 1) (pa_cons (pe_ix ix_tup (pv 2) pe_int (fun _ _ => rfl)) (pa_cons (pe_call G2 hr (by rfl) g2 F2.kp b2 .nil pass0 (pa_cons (pv 3) (pa_cons (pe_ix ix_tup (pv 2) pe_int (fun _ _ => rfl)) pa_nil))) (pa_cons (pv 4) pa_nil)))))))) (pss_one (ps_ret pe_bl)) pss_nil)
      (pss_one (ps_ret (pe_call G0 hr (by rfl) g0 F.kp b0 .nil pass0 (pa_cons (pv 0) (pa_cons (pv 1) (pa_cons (pe_ix ix_tup (pv 2) pe_int (fun _ _ => rfl)) (pa_cons (pv 3) (pa_cons (pe_call G2 hr (by rfl) g2 F2.kp b2 .nil pass0 (pa_cons (pv 4) (pa_cons (pe_ix ix_tup (pv 2) pe_int (fun _ _ => rfl)) pa_nil))) pa_nil)))))))))))), ?_⟩
    -- the first look
    have shape : ∃ us : List V, H p = some (.tup us) ∧ (us.length = 3 ∨ us.length = 4) := by
      cases t with
      | one L => obtain ⟨q, k1, _⟩ := ct; exact ⟨_, k1, .inl rfl⟩
      | other L => obtain ⟨q, k1, _⟩ := ct; exact ⟨_, k1, .inl rfl⟩
      | split x t u => obtain ⟨p1, p2, k1, _⟩ := ct; exact ⟨_, k1, .inr rfl⟩
    obtain ⟨us, hp, l34⟩ := shape
    refine ⟨.ref p, rfl, by show 2 ≤ sizeLine; decide, fun tp ntp => ?_⟩
    have s1 := same_new (o := .tup [.ty "tuple", .ty "list"]) ntp
    have htp : (upd H tp (.tup [.ty "tuple", .ty "list"])) tp = some (.tup [.ty "tuple", .ty "list"]) := upd_same
    generalize upd H tp (.tup [.ty "tuple", .ty "list"]) = H1 at s1 htp ⊢
    refine ⟨_, tp, _, .type "tuple", _, true, rfl, htp, tl_cls, .base (.tup (s1 _ _ hp)), tl_kit, _, rfl, iteF ?_⟩
    refine ⟨.ref p, rfl, p, _, rfl, .inr (SqT.of (s1 _ _ hp)), by show 2 ≤ sizeLine; decide, fun t3 nt3 => ?_⟩
    have s2 := same_new (o := .tup [.int 3, .int 4]) nt3
    have ht3 : (upd H1 t3 (.tup [.int 3, .int 4])) t3 = some (.tup [.int 3, .int 4]) := upd_same
    generalize upd H1 t3 (.tup [.int 3, .int 4]) = H2 at s2 ht3 ⊢
    have s02 := s1.trans s2
    refine ⟨t3, _, rfl, .inr (SqT.of ht3), rfl, rfl, _, rfl, ?_⟩
    have in34 : inV (V.int ((us.length : Nat) : Int)) [V.int 3, V.int 4] = true := by
      rcases l34 with h | h <;> rw [h] <;> decide +kernel
    rw [in34]
    refine iteF ?_
    clear hp l34 us in34 
    cases t with
    | one L =>
      obtain ⟨qo, k1, k2⟩ := ct
      obtain ⟨rfl, no⟩ := va
      have k1' := s02 _ _ k1
      refine ⟨.ref p, rfl, p, _, 0, .str "empty", rfl, rfl, SqT.of k1', atI_nat (j := 0) rfl, rfl, _, rfl, ?_⟩
      rw [show decide (V.str "empty" = V.str "empty") = true from decide_eq_true rfl]
      refine iteT ?_
      refine ⟨.ref p, rfl, p, _, rfl, .inr (SqT.of k1'), rfl, _, rfl, ?_⟩
      rw [show decide (V.int ((([V.str "empty", V.str "one", V.ref qo] : List V).length : Nat) : Int) = V.int 3) = true from decide_eq_true rfl]
      refine iteF ?_
      refine ⟨.ref p, rfl, p, _, 1, .str "one", rfl, rfl, SqT.of k1', atI_nat (j := 1) rfl, by show 2 ≤ sizeLine; decide, fun t4 nt4 => ?_⟩
      have s3 := same_new (o := .tup [.str "one", .str "other"]) nt4
      have ht4 : (upd H2 t4 (.tup [.str "one", .str "other"])) t4 = some (.tup [.str "one", .str "other"]) := upd_same
      generalize upd H2 t4 (.tup [.str "one", .str "other"]) = H3 at s3 ht4 ⊢
      have s03 := s02.trans s3
      refine ⟨t4, _, rfl, .inr (SqT.of ht4), rfl, rfl, _, rfl, ?_⟩
      rw [show inV (V.str "one") [V.str "one", V.str "other"] = true from by decide +kernel]
      refine iteF ?_
      refine ⟨.ref p, rfl, p, _, 2, .ref qo, rfl, rfl, SqT.of (s03 _ _ k1), atI_nat (j := 2) rfl, by show 2 ≤ sizeLine; decide, fun t5 nt5 => ?_⟩
      have s4 := same_new (o := .tup [.ty "tuple", .ty "list"]) nt5
      have ht5 : (upd H3 t5 (.tup [.ty "tuple", .ty "list"])) t5 = some (.tup [.ty "tuple", .ty "list"]) := upd_same
      generalize upd H3 t5 (.tup [.ty "tuple", .ty "list"]) = H4 at s4 ht5 ⊢
      have s04 := s03.trans s4
      refine ⟨_, t5, _, .type "tuple", _, true, rfl, ht5, tl_cls, .base (.tup (s04 _ _ k2)), tl_kit, _, rfl, iteF ?_⟩
      refine ⟨.ref W, rfl, .ref e, rfl, .ref p, rfl, p, _, 1, .str "one", rfl, rfl, SqT.of (s04 _ _ k1), atI_nat (j := 1) rfl, rfl, _, rfl, ?_⟩
      rw [show decide (V.str "one" = V.str "one") = true from by decide +kernel]
      refine iteT ⟨.ref a1, rfl, .ref p, rfl, p, _, 2, .ref qo, rfl, rfl, SqT.of (s04 _ _ k1), atI_nat (j := 2) rfl, ?_⟩
      exact ⟨W, e, a1, qo, c, xs, rs, L, Fs, rfl, R.same s04, s04 _ _ he, s04 _ _ h1, s04 _ _ k2, hA, fl, no, fun H5 s5 => q H5 (s04.trans s5)⟩
    | other L =>
      obtain ⟨qo, k1, k2⟩ := ct
      obtain ⟨rfl, no⟩ := va
      have k1' := s02 _ _ k1
      refine ⟨.ref p, rfl, p, _, 0, .str "empty", rfl, rfl, SqT.of k1', atI_nat (j := 0) rfl, rfl, _, rfl, ?_⟩
      rw [show decide (V.str "empty" = V.str "empty") = true from decide_eq_true rfl]
      refine iteT ?_
      refine ⟨.ref p, rfl, p, _, rfl, .inr (SqT.of k1'), rfl, _, rfl, ?_⟩
      rw [show decide (V.int ((([V.str "empty", V.str "other", V.ref qo] : List V).length : Nat) : Int) = V.int 3) = true from decide_eq_true rfl]
      refine iteF ?_
      refine ⟨.ref p, rfl, p, _, 1, .str "other", rfl, rfl, SqT.of k1', atI_nat (j := 1) rfl, by show 2 ≤ sizeLine; decide, fun t4 nt4 => ?_⟩
      have s3 := same_new (o := .tup [.str "one", .str "other"]) nt4
      have ht4 : (upd H2 t4 (.tup [.str "one", .str "other"])) t4 = some (.tup [.str "one", .str "other"]) := upd_same
      generalize upd H2 t4 (.tup [.str "one", .str "other"]) = H3 at s3 ht4 ⊢
      have s03 := s02.trans s3
      refine ⟨t4, _, rfl, .inr (SqT.of ht4), rfl, rfl, _, rfl, ?_⟩
      rw [show inV (V.str "other") [V.str "one", V.str "other"] = true from by decide +kernel]
      refine iteF ?_
      refine ⟨.ref p, rfl, p, _, 2, .ref qo, rfl, rfl, SqT.of (s03 _ _ k1), atI_nat (j := 2) rfl, by show 2 ≤ sizeLine; decide, fun t5 nt5 => ?_⟩
      have s4 := same_new (o := .tup [.ty "tuple", .ty "list"]) nt5
      have ht5 : (upd H3 t5 (.tup [.ty "tuple", .ty "list"])) t5 = some (.tup [.ty "tuple", .ty "list"]) := upd_same
      generalize upd H3 t5 (.tup [.ty "tuple", .ty "list"]) = H4 at s4 ht5 ⊢
      have s04 := s03.trans s4
      refine ⟨_, t5, _, .type "tuple", _, true, rfl, ht5, tl_cls, .base (.tup (s04 _ _ k2)), tl_kit, _, rfl, iteF ?_⟩
      refine ⟨.ref W, rfl, .ref e, rfl, .ref p, rfl, p, _, 1, .str "other", rfl, rfl, SqT.of (s04 _ _ k1), atI_nat (j := 1) rfl, rfl, _, rfl, ?_⟩
      rw [show decide (V.str "other" = V.str "one") = false from by decide +kernel]
      refine iteF ⟨.ref a2, rfl, .ref p, rfl, p, _, 2, .ref qo, rfl, rfl, SqT.of (s04 _ _ k1), atI_nat (j := 2) rfl, ?_⟩
      exact ⟨W, e, a2, qo, c, xs, rs, L, Fs, rfl, R.same s04, s04 _ _ he, s04 _ _ h2, s04 _ _ k2, hB, fl, no, fun H5 s5 => q H5 (s04.trans s5)⟩
    | split x t u =>
      obtain ⟨p1, p2, k1, k2, k3⟩ := ct
      obtain ⟨mA, mB, v1, v2⟩ := va
      have dA := dropN_len mA
      have dB := dropN_len mB
      have k1' := s02 _ _ k1
      refine ⟨.ref p, rfl, p, _, 0, .str "split", rfl, rfl, SqT.of k1', atI_nat (j := 0) rfl, rfl, _, rfl, ?_⟩
      rw [show decide (V.str "split" = V.str "empty") = false from by decide +kernel]
      refine iteF ?_
      refine ⟨.ref p, rfl, p, _, 0, .str "split", rfl, rfl, SqT.of k1', atI_nat (j := 0) rfl, rfl, _, rfl, ?_⟩
      rw [show decide (V.str "split" = V.str "split") = true from decide_eq_true rfl]
      refine iteF ?_
      refine ⟨.ref p, rfl, p, _, rfl, .inr (SqT.of k1'), rfl, _, rfl, ?_⟩
      rw [show decide (V.int ((([V.str "split", V.str x, V.ref p1, V.ref p2] : List V).length : Nat) : Int) = V.int 4) = true from decide_eq_true rfl]
      refine iteF ?_
      refine ⟨.ref p, rfl, p, _, 1, .str x, rfl, rfl, SqT.of k1', atI_nat (j := 1) rfl, .ref a1, rfl, a1, _, rfl, .inl (SqL.of (s02 _ _ h1)), rfl, flats A, _, rfl, ?_⟩
      rw [inV_str, decide_eq_true mA]
      refine iteF ?_
      refine ⟨.ref p, rfl, p, _, 1, .str x, rfl, rfl, SqT.of k1', atI_nat (j := 1) rfl, .ref a2, rfl, a2, _, rfl, .inl (SqL.of (s02 _ _ h2)), rfl, flats B, _, rfl, ?_⟩
      rw [inV_str, decide_eq_true mB]
      refine iteF ?_
      refine ⟨.ref W, rfl, .ref e, rfl, .ref p, rfl, p, _, 2, .ref p1, rfl, rfl, SqT.of k1', atI_nat (j := 2) rfl, .ref a1, rfl, .ref p, rfl, p, _, 1, .str x, rfl, rfl, SqT.of k1', atI_nat (j := 1) rfl, ?_⟩
      refine ⟨a1, A, x, rfl, s02 _ _ h1, lA, fun l1 H3 s3 nl1 hl1 => ?_⟩
      have s03 := s02.trans s3
      refine ⟨.ref a2, rfl, W, e, p1, l1, a2, c, xs, rs, dropN A x, B, Fs, t, rfl, R.same s03, s03 _ _ he, CrtAt.same s03 k2, hl1, s03 _ _ h2, hA.drop x, hB, fl, v1, by omega, fun H4 s4 => ⟨_, rfl, iteF ?_⟩⟩
      have s04 := s03.trans s4
      have k14 := s04 _ _ k1
      refine ⟨.ref W, rfl, .ref e, rfl, .ref p, rfl, p, _, 3, .ref p2, rfl, rfl, SqT.of k14, atI_nat (j := 3) rfl, .ref a1, rfl, .ref a2, rfl, .ref p, rfl, p, _, 1, .str x, rfl, rfl, SqT.of k14, atI_nat (j := 1) rfl, ?_⟩
      refine ⟨a2, B, x, rfl, s04 _ _ h2, lB, fun l2 H5 s5 nl2 hl2 => ?_⟩
      have s05 := s04.trans s5
      exact ⟨W, e, p2, a1, l2, c, xs, rs, A, dropN B x, Fs, u, rfl, R.same s05, s05 _ _ he, CrtAt.same s05 k3, s05 _ _ h1, hl2, hA, hB.drop x, fl, v2, by omega, fun H6 s6 => q H6 (s05.trans s6)⟩
end
end Moot
namespace Moot
open PySem PySem.Spec PyProof.Rows L2
section
variable {P : Program} {w : World} {K : PySem.W.Frag} {mg : Str → Option Value} {base : Heap}
/-! _law_certificate_holds -/
abbrev sHo : Stmt := top 51
abbrev pHo : List Str := ["_law_rows", "_law_failed", "_law_value"]
abbrev nHo : List Str := ["_law_rows", "_law_failed", "_law_value", "_law_honest", "_law_name"]
theorem scHo : FnScope nHo pHo (defScope sHo) := ⟨rfl, rfl, rfl, by decide +kernel, rfl, by decide +kernel, by decide +kernel⟩
/-- all the honest ones -/
structure AllHon (xs Fs L : List Str) : Prop where
  hon : Hon xs Fs L
  all : ∀ x ∈ xs, x ∉ Fs → x ∈ L
def spHo : Sp := fun vs H Q _ => ∃ (W e p : Addr) (c : Int) (xs : List Str) (rs : Rws) (L Fs : List Str) (t : Crt), vs = [.ref W, .ref e, .ref p] ∧ Rw0 H W c xs rs ∧ H e = some (.lst (Fs.map V.str)) ∧ CrtAt H t p ∧ AllHon xs Fs L ∧ Fl xs Fs ∧ Valid c Fs.length t L L ∧ ∀ H', Same H H' → Q (.bl true) H'
theorem ok_holds {f f1 : Addr} {fd fd1 : FuncData} {k : Nat} (F : Fun K "_law_certificate_holds" "_law_certificate_holds" sHo f fd) (T : Bq mg)
    (F1 : Fun K "_law_certifies" "_law_certifies" sCe f1 fd1) (b1 : Binds K fd1 pCe []) (g1 : mg "_law_certifies" = some (.ref f1)) (G1 : FnOk P w K mg base CX0 k f1 fd1 pCe (spCe 17)) : FnOk P w K mg base CX0 (k + 1) f fd pHo spHo := by
  refine F.ok scHo (fun vs H Q E h => ?_) (fun cdv A outer s H vs Q E hr h => ?_)
  · obtain ⟨W, e, p, c, xs, rs, L, Fs, t, rfl, _⟩ := h
    rfl
  · obtain ⟨W, e, p, c, xs, rs, L, Fs, t, rfl, R, he, ct, ah, fl, va, q⟩ := h
    refine ⟨_, pss_cons (ps_setLc (i := 3) (own := [("_law_name", 4)]) (g := gName 4) (by rfl) scHo.nd rfl rfl (sw_true rfl rfl rfl (by decide +kernel)) (pi_list (pe_callB cr_sortedS (by rfl) T.T.srt (by decide +kernel) (pa_cons (pe_callTy (call_list_dK rfl) (by rfl) T.T.lst (by decide +kernel) (pa_cons (pv 0) pa_nil)) pa_nil))) (blkOk_by (N := nHo) (sc := defScope sHo) (by decide +kernel))
        (fun _ _ _ _ _ => pg_name (i := 4) scHo.nd rfl (Or.inl rfl)) (fun _ _ _ _ _ => pts_one (pt_cmpR (show OpR _ (compareOp .NotIn) (rIn K true) from op_notIn_seq) (pv 4) (pv 1) (by rfl))) (fun _ _ _ _ _ => pv 4))
      (pss_one (ps_ret (pe_call G1 hr (by rfl) g1 F1.kp b1 .nil pass0 (pa_cons (pv 0) (pa_cons (pv 1) (pa_cons (pv 2) (pa_cons (pv 3) (pa_cons (pv 3) pa_nil)))))))), ?_⟩
    have l8 := ah.hon.few R.fit
    have rl := R.fit.len
    have few := R.fit.few
    refine ⟨.ref W, rfl, W, _, rfl, R.dc, fun l1 nl1 => ?_⟩
    have e1 : (kvs rs).map (fun kv => kV kv.1) = (rs.map (·.1)).map V.str := by
      unfold kvs
      rw [List.map_map, List.map_map]
      rfl
    rw [e1]
    have s1 := same_new (o := .lst ((rs.map (·.1)).map V.str)) nl1
    have hl1 : (upd H l1 (.lst ((rs.map (·.1)).map V.str))) l1 = some (.lst ((rs.map (·.1)).map V.str)) := upd_same
    generalize upd H l1 (.lst ((rs.map (·.1)).map V.str)) = H1 at s1 hl1 ⊢
    refine ⟨l1, _, rfl, SqL.of hl1, by rw [List.length_map]; omega, fun ys l2 pm so nl2 => ?_⟩
    have s2 := same_new (o := .lst (ys.map V.str)) nl2
    have hl2 : (upd H1 l2 (.lst (ys.map V.str))) l2 = some (.lst (ys.map V.str)) := upd_same
    generalize upd H1 l2 (.lst (ys.map V.str)) = H2 at s2 hl2 ⊢
    have s02 := s1.trans s2
    have ypm : ys.Perm xs := pm.trans R.fit.keys
    have yl := ypm.length_eq
    refine ⟨l2, rfl, ⟨_, SqL.of hl2⟩, fun D nD => lc_list (K := K) (a := l2) (xs := ys.map V.str) (fun i H3 => Same H2 H3 ∧ H3 D = some (.lst (((ys.take i).filter fun x => decide (x ∉ Fs)).map V.str))) ⟨same_new nD, upd_same⟩ (fun i H3 _ h => SqL.of (h.1 _ _ hl2)) ?_ ?_⟩
    · rintro i x H3 hx ⟨s3, hD⟩
      rw [List.getElem?_map] at hx
      obtain ⟨z, hz, rfl⟩ := Option.map_eq_some_iff.mp hx
      have tk : ys.take (i + 1) = ys.take i ++ [z] := by
        rw [List.take_add_one, hz]
        rfl
      refine ⟨rfl, .str z, rfl, .ref e, rfl, e, _, rfl, .inl (SqL.of ((s02.trans s3) _ _ he)), rfl, flats Fs, _, rfl, ?_⟩
      rw [inV_str]
      by_cases m : z ∈ Fs
      · rw [decide_eq_true m]
        refine iteF ⟨s3, ?_⟩
        rw [hD, tk, List.filter_append]
        simp [m]
      · rw [decide_eq_false m]
        refine iteT ⟨.str z, rfl, _, hD, ?_, fun d o eb => ?_, ?_⟩
        · rw [List.length_map]
          refine small1000 (Nat.le_trans (List.length_filter_le _ _) ?_)
          rw [List.length_take]
          omega
        · rw [upd_ne (ne_of_none eb nD)]
          exact s3 d o eb
        · rw [upd_same, tk, List.filter_append]
          simp [m]
    · rintro H3 ⟨s3, hD⟩
      rw [List.length_map, List.take_length] at hD
      have eL : (ys.filter fun x => decide (x ∉ Fs)) = L := by
        refine srt_one (List.Pairwise.sublist List.filter_sublist (sorted_pairs so)) ((ypm.nodup_iff.mpr R.fit.nd).filter _) ah.hon.srt ah.hon.nd fun x => ?_
        rw [List.mem_filter, decide_eq_true_eq, ypm.mem_iff]
        exact ⟨fun h => ah.all x h.1 h.2, fun h => ⟨ah.hon.inn x h, ah.hon.out x h⟩⟩
      rw [eL] at hD
      have s03 := s02.trans s3
      exact ⟨.ref W, rfl, .ref e, rfl, .ref p, rfl, .ref D, rfl, .ref D, rfl, W, e, p, D, D, c, xs, rs, L, L, Fs, t, rfl, R.same s03, s03 _ _ he, CrtAt.same s03 ct, hD, hD, ah.hon, ah.hon, fl, va, by omega, fun H4 s4 => q H4 (s03.trans s4)⟩
/-! _law_all_tuples -/
abbrev sAt : Stmt := top 52
abbrev nAt : List Str := ["_law_value", "_law_part"]
theorem scAt : FnScope nAt ["_law_value"] (defScope sAt) := ⟨rfl, rfl, rfl, by decide +kernel, rfl, by decide +kernel, by decide +kernel⟩
def spAt (n : Nat) : Sp := fun vs H Q _ => ∃ (v : V) (c : Int) (f : Nat), vs = [v] ∧ TV c f H n v ∧ ∀ H', Same H H' → Q (.bl true) H'
theorem ok_alltup {f : Addr} {fd : FuncData} {k n : Nat} (F : Fun K "_law_all_tuples" "_law_all_tuples" sAt f fd) (b0 : Binds K fd ["_law_value"] []) (g0 : mg "_law_all_tuples" = some (.ref f)) (T : Bq mg) (G0 : FnOk P w K mg base CX0 k f fd ["_law_value"] (spAt n)) :
    FnOk P w K mg base CX0 (k + 1) f fd ["_law_value"] (spAt (n + 1)) := by
  refine F.ok scAt (fun vs H Q E h => ?_) (fun cdv A outer s H vs Q E hr h => ?_)
  · obtain ⟨v, c, f, rfl, _⟩ := h
    rfl
  · obtain ⟨v, c, f', rfl, tv, q⟩ := h
    refine ⟨_, pss_cons (ps_if (pt_val (pe_callB call_isi (by rfl) T.T.isi (by decide +kernel) (pa_cons (pv 0) (pa_cons (pe_bltn (v := .ty "tuple") (by rfl) T.T.tup (by decide +kernel) rfl) pa_nil))))
        (pss_one (ps_ret (pe_callB (cr_all rfl) (by rfl) T.all (by decide +kernel) (pa_cons (pe_lc (own := [("_law_part", 1)]) (g := gName 1) (tt := tYes) (by rfl) scAt.nd (pi_tup (pv 0)) (blkOk_by (N := nAt) (sc := defScope sAt) (by decide +kernel))
          (fun _ _ _ _ _ => pg_name (i := 1) scAt.nd rfl (Or.inl rfl)) (fun _ _ _ _ _ => pts_nil) (fun _ _ _ _ _ => pe_call G0 hr (by rfl) g0 F.kp b0 .nil pass0 (pa_cons (pv 1) pa_nil))) pa_nil)))) pss_nil)
      (pss_one (ps_ret (pe_callB call_isi (by rfl) T.T.isi (by decide +kernel) (pa_cons (pv 0) (pa_cons (pe_bltn (v := .ty "str") (by rfl) T.T.str (by decide +kernel) rfl) pa_nil))))), ?_⟩
    rcases tv.items with ⟨z, rfl⟩ | ⟨a, us, rfl, ha, l8, items⟩
    · refine ⟨.str z, rfl, _, _, .type "str", .type "tuple", false, rfl, .ty _, .base (.str z), kit_ty (r := false) (by decide +kernel), _, rfl, iteF ?_⟩
      exact ⟨.str z, rfl, _, _, .type "str", .type "str", true, rfl, .ty _, .base (.str z), kit_ty (r := true) (by decide +kernel), q H (Same.refl H)⟩
    · refine ⟨.ref a, rfl, _, _, .type "tuple", .type "tuple", true, rfl, .ty _, .base (.tup ha), kit_ty (r := true) (by decide +kernel), _, rfl, iteT ?_⟩
      refine ⟨.ref a, rfl, a, rfl, ⟨_, SqT.of ha⟩, fun D nD => lc_tup (K := K) (a := a) (xs := us) (fun i H1 => Same H H1 ∧ H1 D = some (.lst (((us.take i).map fun _ => true).map V.bl))) ⟨same_new nD, upd_same⟩ (fun i H1 _ h => SqT.of (h.1 _ _ ha)) ?_ ?_⟩
      · rintro i x H1 hx ⟨s1, hD⟩
        have tk : us.take (i + 1) = us.take i ++ [x] := by
          rw [List.take_add_one, hx]
          rfl
        refine ⟨rfl, x, rfl, x, c, f', rfl, (items x (List.mem_of_getElem? hx)).same s1, fun H2 s2 => ⟨_, s2 _ _ hD, ?_, fun d o eb => ?_, ?_⟩⟩
        · rw [List.length_map, List.length_map, List.length_take]
          exact small1000 (by omega)
        · rw [upd_ne (ne_of_none eb nD)]
          exact s2 _ _ (s1 d o eb)
        · rw [upd_same, tk, List.map_append, List.map_append]
          rfl
      · rintro H1 ⟨s1, hD⟩
        refine ⟨D, _, rfl, SqL.of hD, ?_⟩
        rw [all_true]
        exact q H1 s1
/-! _law_verdict_holds -/
abbrev sVh : Stmt := top 53
abbrev pVh : List Str := ["_law_rows", "_law_failed", "_law_found", "_law_apart"]
abbrev nVh : List Str := ["_law_rows", "_law_failed", "_law_found", "_law_apart", "_law_certificate", "_law_right"]
theorem scVh : FnScope nVh pVh (defScope sVh) := ⟨rfl, rfl, rfl, by decide +kernel, rfl, by decide +kernel, by decide +kernel⟩
def spVh : Sp := fun vs H Q _ => ∃ (W e p : Addr) (ap : Bool) (c : Int) (xs : List Str) (rs : Rws) (L Fs : List Str), vs = [.ref W, .ref e, .ref p, .bl ap] ∧ Rw0 H W c xs rs ∧ H e = some (.lst (Fs.map V.str)) ∧ VerAt H (cq c Fs.length 17 L L) p ∧ AllHon xs Fs L ∧ Fl xs Fs ∧ ap = (cq c Fs.length 17 L L).apart ∧ ∀ H', Same H H' → Q (.bl true) H'
theorem ok_verdict {f f1 f2 f3 : Addr} {fd fd1 fd2 fd3 : FuncData} {k : Nat} (F : Fun K "_law_verdict_holds" "_law_verdict_holds" sVh f fd) (T : Bq mg)
    (F1 : Fun K "_law_are_apart" "_law_are_apart" sAp f1 fd1) (b1 : Binds K fd1 pAp []) (g1 : mg "_law_are_apart" = some (.ref f1)) (G1 : FnOk P w K mg base CX0 k f1 fd1 pAp spAp)
    (F2 : Fun K "_law_all_tuples" "_law_all_tuples" sAt f2 fd2) (b2 : Binds K fd2 ["_law_value"] []) (g2 : mg "_law_all_tuples" = some (.ref f2)) (G2 : FnOk P w K mg base CX0 k f2 fd2 ["_law_value"] (spAt 19))
    (F3 : Fun K "_law_certificate_holds" "_law_certificate_holds" sHo f3 fd3) (b3 : Binds K fd3 pHo []) (g3 : mg "_law_certificate_holds" = some (.ref f3)) (G3 : FnOk P w K mg base CX0 k f3 fd3 pHo spHo) : FnOk P w K mg base CX0 (k + 1) f fd pVh spVh := by
  refine F.ok scVh (fun vs H Q E h => ?_) (fun cdv A outer s H vs Q E hr h => ?_)
  · obtain ⟨W, e, p, ap, c, xs, rs, L, Fs, rfl, _⟩ := h
    rfl
  · obtain ⟨W, e, p, ap, c, xs, rs, L, Fs, rfl, R, he, ve, ah, fl, eap, q⟩ := h
    refine ⟨_, pss_cons (ps_if (PW.pt (pw_or (pt_not (pt_val (pe_callB call_isi (by rfl) T.T.isi (by decide +kernel) (pa_cons (pv 2) (pa_cons (pe_bltn (v := .ty "tuple") (by rfl) T.T.tup (by decide +kernel) rfl) pa_nil)))))
        (pw_or1 (pt_cmpR op_ne (pe_callB call_len_seq (by rfl) T.T.len PySem.boot_len (pa_cons (pv 2) pa_nil)) (pe_op op_add pe_int (pe_callTy call_int1 (by rfl) T.T.int (by decide +kernel) (pa_cons (pv 3) pa_nil))) (nomark _))))) (pss_one (ps_ret pe_bl)) pss_nil)
      (pss_cons (ps_if (pt_val (pv 3)) (pss_one (ps_ret (pe_and (pe_cmpR op_eq (pe_ix ix_tup (pv 2) pe_int (fun _ _ => rfl)) pe_str (nomark _)) (pe_one (pe_call G1 hr (by rfl) g1 F1.kp b1 .nil pass0 (pa_cons (pv 0) (pa_cons (pv 1) (pa_cons (pe_ix ix_tup (pv 2) pe_int (fun _ _ => rfl)) (pa_cons (pe_ix ix_tup (pv 2) pe_int (fun _ _ => rfl)) pa_nil))))))))) pss_nil)
      (pss_cons (ps_set (i := 4) scVh.nd rfl (Or.inl rfl) (pe_ix ix_tup (pv 2) pe_int (fun _ _ => rfl)))
      (pss_cons (ps_set (i := 5) scVh.nd rfl (Or.inl rfl) (pe_and (pe_cmpR op_eq (pe_ix ix_tup (pv 2) pe_int (fun _ _ => rfl)) pe_str (nomark _)) (pe_one (pe_call G2 hr (by rfl) g2 F2.kp b2 .nil pass0 (pa_cons (pv 4) pa_nil)))))
      (pss_one (ps_ret (pe_and (pv 5) (pe_one (pe_call G3 hr (by rfl) g3 F3.kp b3 .nil pass0 (pa_cons (pv 0) (pa_cons (pv 1) (pa_cons (pv 4) pa_nil))))))))))), ?_⟩
    have l8 := ah.hon.few R.fit
    cases h : cq c Fs.length 17 L L with
    | disj A' B' =>
      rw [h] at ve eap
      obtain ⟨q1, q2, k1, k2, k3⟩ := ve
      have e1 : ap = true := eap
      subst e1
      obtain ⟨sA, sB, oA, oB, dj⟩ := cq_disj _ _ _ _ _ h
      have sub : ∀ {M : List Str}, M.Sublist L → Hon xs Fs M := fun s => ⟨List.Pairwise.sublist s ah.hon.srt, s.nodup ah.hon.nd, fun x m => ah.hon.inn x (s.subset m), fun x m => ah.hon.out x (s.subset m)⟩
      refine ⟨.ref p, rfl, _, _, .type "tuple", .type "tuple", true, rfl, .ty _, .base (.tup k1), kit_ty (r := true) (by decide +kernel), _, rfl, iteF ?_⟩
      refine ⟨.ref p, rfl, p, _, rfl, .inr (SqT.of k1), .bl true, rfl, .inr ⟨true, rfl, _, _, rfl, rfl, rfl, _, rfl, ?_⟩⟩
      rw [show decide (V.int ((([V.str "disjoint", V.ref q1, V.ref q2] : List V).length : Nat) : Int) = V.int (2 + if true = true then 1 else 0)) = true from decide_eq_true rfl]
      refine iteF ?_
      refine ⟨.bl true, rfl, _, rfl, iteT ?_⟩
      refine ⟨.ref p, rfl, p, _, 0, .str "disjoint", rfl, rfl, SqT.of k1, atI_nat (j := 0) rfl, rfl, _, rfl, ?_⟩
      rw [show decide (V.str "disjoint" = V.str "disjoint") = true from decide_eq_true rfl]
      refine iteT ?_
      refine ⟨.ref W, rfl, .ref e, rfl, .ref p, rfl, p, _, 1, .ref q1, rfl, rfl, SqT.of k1, atI_nat (j := 1) rfl, .ref p, rfl, p, _, 2, .ref q2, rfl, rfl, SqT.of k1, atI_nat (j := 2) rfl, ?_⟩
      exact ⟨W, e, q1, q2, c, xs, rs, A', B', Fs, rfl, R, he, k2, k3, sub sA, sub sB, fl, oA, oB, dj, q⟩
    | crt t =>
      rw [h] at ve eap
      obtain ⟨p1, k1, ct⟩ := ve
      have e1 : ap = false := eap
      subst e1
      have va := cq_valid _ _ _ _ (by omega) h
      refine ⟨.ref p, rfl, _, _, .type "tuple", .type "tuple", true, rfl, .ty _, .base (.tup k1), kit_ty (r := true) (by decide +kernel), _, rfl, iteF ?_⟩
      refine ⟨.ref p, rfl, p, _, rfl, .inr (SqT.of k1), .bl false, rfl, .inr ⟨false, rfl, _, _, rfl, rfl, rfl, _, rfl, ?_⟩⟩
      rw [show decide (V.int ((([V.str "intersecting", V.ref p1] : List V).length : Nat) : Int) = V.int (2 + if false = true then 1 else 0)) = true from decide_eq_true rfl]
      refine iteF ?_
      refine ⟨.bl false, rfl, _, rfl, iteF ?_⟩
      refine ⟨.ref p, rfl, p, _, 1, .ref p1, rfl, rfl, SqT.of k1, atI_nat (j := 1) rfl, ?_⟩
      refine ⟨.ref p, rfl, p, _, 0, .str "intersecting", rfl, rfl, SqT.of k1, atI_nat (j := 0) rfl, rfl, _, rfl, ?_⟩
      rw [show decide (V.str "intersecting" = V.str "intersecting") = true from decide_eq_true rfl]
      refine iteT ?_
      refine ⟨.ref p1, rfl, .ref p1, c, Fs.length, rfl, .inr (.inr ⟨p1, t, L, L, rfl, ct, va, by omega, by omega, by omega⟩), fun H1 s1 => ?_⟩
      refine ⟨.bl true, rfl, _, rfl, iteT ?_⟩
      exact ⟨.ref W, rfl, .ref e, rfl, .ref p1, rfl, W, e, p1, c, xs, rs, L, Fs, t, rfl, R.same s1, s1 _ _ he, CrtAt.same s1 ct, ah, fl, va, fun H2 s2 => q H2 (s1.trans s2)⟩
end
end Moot
namespace Moot
open PySem PySem.Spec PyProof.Rows L2
theorem Uni.tups {H H' : Hp} {r : Addr} {c : Int} {xs : List Str} (h : Uni H r c xs) (t : Tups H H') : Uni H' r c xs := let ⟨p, zs, h1, h2, h3⟩ := h; ⟨p, zs, t _ _ h1, t _ _ h2, h3⟩
theorem RowsAt.tups {H H' : Hp} {ts : List Addr} {rs : Rws} (h : RowsAt H ts rs) (t : Tups H H') : RowsAt H' ts rs := ⟨h.1, fun i a e => let ⟨x, r, h1, h2⟩ := h.2 i a e; ⟨x, r, h1, t _ _ h2⟩⟩
theorem Fit.tups {H H' : Hp} {c : Int} {xs : List Str} {rs : Rws} (h : Fit H c xs rs) (t : Tups H H') : Fit H' c xs rs := { h with each := fun q m => (h.each q m).tups t }
theorem Box.lsts {H : Hp} {b g m : Addr} {n : Nat} (B : Box H b g m n) {p : Addr} {o : HO} (h : H p = some o) (no : ∀ xs, o ≠ .lst xs) : p ≠ b ∧ p ≠ g := by
  obtain ⟨x, k, gs, ms, hb, hg, _⟩ := B.ex
  refine ⟨fun e => ?_, fun e => ?_⟩
  · rw [e, hb] at h
    exact no _ (Option.some.inj h).symm
  · rw [e, hg] at h
    exact no _ (Option.some.inj h).symm
theorem Rw0.keep {H H' : Hp} {W : Addr} {c : Int} {xs : List Str} {rs : Rws} {b g m : Addr} {n : Nat} (h : Rw0 H W c xs rs) (k : Keep b g H H') (B : Box H b g m n) : Rw0 H' W c xs rs := by
  obtain ⟨n1, n2⟩ := B.lsts h.dc (fun _ z => by cases z)
  exact ⟨k _ _ h.dc n1 n2, h.fit.tups (k.tups B)⟩
theorem NetAt.keep {C : Addr} {H H' : Hp} {net D : Addr} {c : Int} {xs : List Str} {rs : Rws} {b g m : Addr} {n : Nat} (h : NetAt C H net D c xs rs) (k : Keep b g H H') (B : Box H b g m n) : NetAt C H' net D c xs rs := by
  obtain ⟨dx, hn⟩ := h.ob
  obtain ⟨n1, n2⟩ := B.lsts h.dc (fun _ z => by cases z)
  obtain ⟨n3, n4⟩ := B.lsts hn (fun _ z => by cases z)
  exact ⟨⟨dx, k _ _ hn n3 n4⟩, k _ _ h.dc n1 n2, h.fit.tups (k.tups B), h.srt⟩
theorem merge_kvs : ∀ (rs qs : Rws), ((qs ++ rs).map (·.1)).Nodup → mergeK (kvs qs) (kvs rs) = kvs (qs ++ rs)
  | [], qs, _ => by rw [List.append_nil]; rfl
  | (x, r) :: rs, qs, nd => by
    have new : x ∉ qs.map (·.1) := by
      rw [List.map_append] at nd
      intro m
      exact (List.nodup_append.mp nd).2.2 x m x (by simp) rfl
    show mergeK (putK (kvs qs) (Sum.inr x : L2.Key) (V.ref r)) (kvs rs) = _
    rw [putK_new _ (val_out new)]
    have e : kvs qs ++ [((Sum.inr x : L2.Key), V.ref r)] = kvs (qs ++ [(x, r)]) := by
      unfold kvs
      rw [List.map_append]
      rfl
    rw [e]
    have e2 : qs ++ (x, r) :: rs = (qs ++ [(x, r)]) ++ rs := by rw [List.append_assoc]; rfl
    rw [e2] at nd ⊢
    exact merge_kvs rs (qs ++ [(x, r)]) nd
theorem rows_paired {K : PySem.W.Frag} {H : Hp} : ∀ (ts : List Addr) (rs : Rws), RowsAt H ts rs → Paired (fun p kv => SqT K H p [kV kv.1, kv.2]) ts (kvs rs)
  | [], rs, h => by
    have : rs = [] := List.length_eq_zero_iff.mp h.1.symm
    subst this
    exact .nil
  | t :: ts, [], h => by cases h.1
  | t :: ts, q :: rs, h => by
    obtain ⟨x, r, e, ht⟩ := h.2 0 t rfl
    have e' : q = (x, r) := Option.some.inj e
    subst e'
    exact .cons (SqT.of ht) (rows_paired ts rs ⟨Nat.succ.inj h.1, fun i a ea => h.2 (i + 1) a ea⟩)
theorem cut_take (ys : List Str) {v : Int} (h0 : 0 ≤ v) (h1 : v ≤ (ys.length : Int)) : cutV (ys.map V.str) none (some v) = (ys.take v.toNat).map V.str := by
  show (List.drop (HT.sIx (ys.map V.str).length 0 none) (ys.map V.str)).take (HT.sIx (ys.map V.str).length (ys.map V.str).length (some v) - HT.sIx (ys.map V.str).length 0 none) = _
  have e1 : HT.sIx (ys.map V.str).length 0 none = 0 := rfl
  have e2 : HT.sIx (ys.map V.str).length (ys.map V.str).length (some v) = min v.toNat (ys.map V.str).length := by
    show (if v < 0 then _ else _) = _
    rw [if_neg (by omega)]
  rw [e1, e2, List.drop_zero, Nat.sub_zero, List.length_map, List.map_take]
  rw [show min v.toNat ys.length = v.toNat from by omega]
theorem hon_len {C : Addr} {H : Hp} {net D : Addr} {c : Int} {xs : List Str} {rs : Rws} (N : NetAt C H net D c xs rs) {Fs : List Str} (fl : Fl xs Fs) : (honL rs Fs).length + Fs.length = xs.length := by
  have e1 : cnt (rs.map (·.1)) Fs = Fs.length := by rw [cnt_perm N.fit.keys, cnt_len N.fit.nd fl.nd fl.inn]
  have e2 : (honL rs Fs).length + cnt (rs.map (·.1)) Fs = (rs.map (·.1)).length := by
    unfold honL cnt
    rw [← List.countP_eq_length_filter, List.length_eq_countP_add_countP (fun x => decide (x ∈ Fs)), Nat.add_comm]
    congr 1
    exact List.countP_congr fun x _ => by simp
  rw [e1, N.fit.keys.length_eq] at e2
  exact e2
abbrev rTupOf (K : PySem.W.Frag) : List V → Hp → VK → Prop := fun xs H Q => ∃ p ys, xs = [.ref p] ∧ ((SqL K H p ys ∧ ∀ l, H l = none → Q (.ref l) (upd H l (.tup ys))) ∨ (SqT K H p ys ∧ Q (.ref p) H))
section
variable {P : Program} {w : World} {K : PySem.W.Frag} {mg : Str → Option Value} {base : Heap}
/-! law -/
abbrev sLaw : Stmt := top 54
abbrev nLaw : List Str := ["_law_script", "_law_box_here", "_law_names_here", "_law_many", "_law_count", "_law_drawn", "_law_rows", "_law_network", "_law_turn", "_law_failed", "_law_least", "_law_apart", "_law_name"]
theorem scLaw : FnScope nLaw ["_law_script"] (defScope sLaw) := ⟨rfl, rfl, rfl, by decide +kernel, rfl, by decide +kernel, by decide +kernel⟩
def spLaw (K : PySem.W.Frag) : Sp := fun vs H Q _ => ∃ (a : Addr) (ns : List Int), vs = [.ref a] ∧ SqL K H a (ns.map V.int) ∧ ns.length ≤ 63 ∧ ∀ H', Q (.bl true) H'
theorem ok_law {f f1 f2 f3 f4 f5 f6 f7 C : Addr} {fd fd1 fd2 fd3 fd4 fd5 fd6 fd7 : FuncData} {k : Nat} (F : Fun K "law" "law" sLaw f fd) (T : Bq mg) (X : Txt K mg C)
    (F1 : Fun K "_law_box" "_law_box" sBox f1 fd1) (b1 : Binds K fd1 ["_law_script"] []) (g1 : mg "_law_box" = some (.ref f1)) (G1 : FnOk P w K mg base CX0 (k + 1) f1 fd1 ["_law_script"] (spBox K))
    (F2 : Fun K "_law_take" "_law_take" sTake f2 fd2) (b2 : Binds K fd2 ["_law_box_here", "_law_size"] []) (g2 : mg "_law_take" = some (.ref f2)) (G2 : FnOk P w K mg base CX0 (k + 1) f2 fd2 ["_law_box_here", "_law_size"] spTake)
    (F3 : Fun K "_law_names" "_law_names" sNames f3 fd3) (b3 : Binds K fd3 ["_law_box_here", "_law_many"] []) (g3 : mg "_law_names" = some (.ref f3)) (G3 : FnOk P w K mg base CX0 (k + 1) f3 fd3 ["_law_box_here", "_law_many"] spNames)
    (F4 : Fun K "_law_shuffled" "_law_shuffled" sShu f4 fd4) (b4 : Binds K fd4 ["_law_box_here", "_law_values"] []) (g4 : mg "_law_shuffled" = some (.ref f4)) (G4 : FnOk P w K mg base CX0 (k + 1) f4 fd4 ["_law_box_here", "_law_values"] (spShu K))
    (M5 : Mk K C f5) (b5 : Binds K fd5 ["self", "rows"] []) (G5 : FnOk P w K mg base CX0 k f5 fd5 ["self", "rows"] (spNi K C))
    (F6 : Fun K "intersection" "intersection" sIt f6 fd6) (b6 : Kb K fd6 ["network", "faulty"] 1) (g6 : mg "intersection" = some (.ref f6)) (G6 : FnOk P w K mg base CX0 (k + 1) f6 fd6 ["network", "faulty"] (spIt K C))
    (F7 : Fun K "_law_verdict_holds" "_law_verdict_holds" sVh f7 fd7) (b7 : Binds K fd7 pVh []) (g7 : mg "_law_verdict_holds" = some (.ref f7)) (G7 : FnOk P w K mg base CX0 (k + 1) f7 fd7 pVh spVh) : FnOk P w K mg base CX0 (k + 1 + 1) f fd ["_law_script"] (spLaw K) := by
  refine F.ok scLaw (fun vs H Q E h => ?_) (fun cdv A outer s H vs Q E hr h => ?_)
  · obtain ⟨a, ns, rfl, _⟩ := h
    rfl
  · obtain ⟨a, ns, rfl, hS, len, q⟩ := h
    refine ⟨_, pss_cons (ps_set (i := 1) scLaw.nd rfl (Or.inr rfl) (pe_call G1 hr (by rfl) g1 F1.kp b1 .nil pass0 (pa_cons (pv 0) pa_nil)))
      (pss_cons (ps_set (i := 2) scLaw.nd rfl (Or.inr rfl) (pe_call G3 hr (by rfl) g3 F3.kp b3 .nil pass0 (pa_cons (pv 1) (pa_cons (pe_op op_add pe_int (pe_call G2 hr (by rfl) g2 F2.kp b2 .nil pass0 (pa_cons (pv 1) (pa_cons pe_int pa_nil)))) pa_nil))))
      (pss_cons (ps_set (i := 3) scLaw.nd rfl (Or.inl rfl) (pe_callB call_len_seq (by rfl) T.T.len PySem.boot_len (pa_cons (pv 2) pa_nil)))
      (pss_cons (ps_set (i := 4) scLaw.nd rfl (Or.inr rfl) (pe_op op_add pe_int (pe_call G2 hr (by rfl) g2 F2.kp b2 .nil pass0 (pa_cons (pv 1) (pa_cons (pv 3) pa_nil)))))
      (pss_cons (ps_setLc (i := 5) (own := [("_law_name", 12)]) (g := gName 12) (tt := tYes) (by rfl) scLaw.nd rfl rfl (sw_true rfl rfl rfl (by decide +kernel)) (pi_list (pv 2)) (blkOk_by (N := nLaw) (sc := defScope sLaw) (by decide +kernel))
        (fun _ _ _ _ _ => pg_name (i := 12) scLaw.nd rfl (Or.inl rfl)) (fun _ _ _ _ _ => pts_nil) (fun _ _ _ _ _ => pe_tup (pa_cons (pv 12) (pa_cons (pe_tup (pa_cons (pv 4) (pa_cons (pe_callTy (show CallR _ (.type "tuple") (rTupOf K) from call_tuple_of) (by rfl) T.T.tup (by decide +kernel) (pa_cons (pe_call G4 hr (by rfl) g4 F4.kp b4 .nil pass0 (pa_cons (pv 1) (pa_cons (pv 2) pa_nil))) pa_nil)) pa_nil))) pa_nil))))
      (pss_cons (ps_par (i := 6) (j := 7) (by rfl) scLaw.nd rfl rfl (by decide) rfl rfl (pa_cons (pe_callTy (call_dictP rfl) (by rfl) T.dict (by decide +kernel) (pa_cons (pv 5) pa_nil)) (pa_cons (pe_make M5 G5 hr (by rfl) X.mgC b5 .nil pass0 (pa_cons (pv 5) pa_nil)) pa_nil)) (by rfl))
      (pss_cons (ps_for PassesOwn.never rfl (pi_range1 rfl T.T.rng (pa_cons pe_int pa_nil)) (pg_name (i := 8) scLaw.nd rfl (Or.inl rfl))
        (pss_cons (ps_set (i := 9) scLaw.nd rfl (Or.inl rfl) (pe_slice sl_list (pe_call G4 hr (by rfl) g4 F4.kp b4 .nil pass0 (pa_cons (pv 1) (pa_cons (pv 2) pa_nil))) po_none (po_some (pe_call G2 hr (by rfl) g2 F2.kp b2 .nil pass0 (pa_cons (pv 1) (pa_cons (pe_op op_add (pv 3) pe_int) pa_nil))))))
        (pss_cons (ps_set (i := 10) scLaw.nd rfl (Or.inl rfl) (pe_callB (call_max2 rfl) (by rfl) T.T.max (by decide +kernel) (pa_cons pe_int (pa_cons (pe_op op_sub (pv 4) (pe_callB call_len_seq (by rfl) T.T.len PySem.boot_len (pa_cons (pv 9) pa_nil))) pa_nil))))
        (pss_cons (ps_set (i := 11) scLaw.nd rfl (Or.inl rfl) (pe_cmpR op_le (pe_op op_mul pe_int (pv 10)) (pe_op op_sub (pv 3) (pe_callB call_len_seq (by rfl) T.T.len PySem.boot_len (pa_cons (pv 9) pa_nil))) (nomark _)))
        (pss_one (ps_if (pt_not (pt_val (pe_call G7 hr (by rfl) g7 F7.kp b7 .nil pass0 (pa_cons (pv 6) (pa_cons (pv 9) (pa_cons (pe_callN G6 hr (by rfl) g6 F6.kp b6 pass0 (pa_cons (pv 7) pa_nil) (pk_cons (pv 9) pk_nil)) (pa_cons (pv 11) pa_nil))))))) (pss_one (ps_ret pe_bl)) pss_nil))))))
      (pss_one (ps_ret pe_bl)))))))), ?_⟩
    refine ⟨.ref a, rfl, a, ns, rfl, hS, len, fun H1 b g m s1 B1 => ?_⟩
    refine ⟨.ref b, rfl, .ref b, rfl, b, g, m, 0, 8, rfl, B1, by decide, by decide, by decide, fun v0 H2 a0 a1 B2 K2 => ⟨_, _, rfl, rfl, ?_⟩⟩
    have ev : (1 : Int) + v0 = (((1 + v0).toNat : Nat) : Int) := by omega
    refine ⟨b, g, m, _, (1 + v0).toNat, by rw [← ev]; rfl, B2, by decide, by omega, fun np xs H3 nnp h3 xl nd nm B3 K3 => ?_⟩
    obtain ⟨npb, npg, npm⟩ := B2.ne nnp
    have x8 : xs.length ≤ 8 := by omega
    have x1 : 1 ≤ xs.length := by omega
    refine ⟨.ref np, rfl, np, _, rfl, .inl (SqL.of h3), ?_⟩
    rw [List.length_map]
    refine ⟨.ref b, rfl, .int (xs.length : Int), rfl, b, g, m, _, (xs.length : Int), rfl, B3, by decide, by omega, by omega, fun v1 H4 c0 c1 B4 K4 => ⟨_, _, rfl, rfl, ?_⟩⟩
    have h4 := K4 _ _ h3 npb npg
    dsimp only
    generalize hc : (1 : Int) + v1 = c
    have cc1 : 1 ≤ c := by omega
    have cc2 : c ≤ (xs.length : Int) := by omega
    -- the rows
    refine ⟨.ref np, rfl, np, rfl, ⟨_, SqL.of h4⟩, fun D nD => ?_⟩
    obtain ⟨Db, Dg, Dm⟩ := B4.ne nD
    refine lc_list (K := K) (a := np) (xs := xs.map V.str) (fun i H5 => Box H5 b g m (200 + 10 * i) ∧ Keep b g H4 H5 ∧ ∃ (ts : List Addr) (rs : Rws), H5 D = some (.lst (ts.map V.ref)) ∧ RowsAt H5 ts rs ∧ rs.map (·.1) = xs.take i ∧ ∀ q ∈ rs, Uni H5 q.2 c xs) ?_ (fun i H5 _ h => SqL.of (h.2.1 _ _ h4 npb npg)) ?_ ?_
    · exact ⟨(B4.store Db Dg Dm).more (by omega), Same.keep (same_new nD), [], [], upd_same, ⟨rfl, fun i t e => by simp at e⟩, rfl, fun q m => by cases m⟩
    · rintro i y H5 hy ⟨B5, K5, ts, rs, hD, ra, keys, each⟩
      rw [List.getElem?_map] at hy
      obtain ⟨z, hz, rfl⟩ := Option.map_eq_some_iff.mp hy
      have il : i < xs.length := (List.getElem?_eq_some_iff.mp hz).1
      have tk : xs.take (i + 1) = xs.take i ++ [z] := by
        rw [List.take_add_one, hz]
        rfl
      have h5 := K5 _ _ h4 npb npg
      refine ⟨rfl, .str z, rfl, .int c, rfl, .ref b, rfl, .ref np, rfl, b, g, m, np, _, xs, rfl, B5, by omega, SqL.of h5, by omega, fun p ys H6 np6 hp pm B6 K6 => ?_⟩
      refine ⟨p, _, rfl, .inl ⟨SqL.of hp, fun t1 nt1 => ?_⟩⟩
      have s7 := same_new (o := .tup (ys.map V.str)) nt1
      have ht1 : (upd H6 t1 (.tup (ys.map V.str))) t1 = some (.tup (ys.map V.str)) := upd_same
      generalize upd H6 t1 (.tup (ys.map V.str)) = H7 at s7 ht1 ⊢
      refine ⟨by show 2 ≤ sizeLine; decide, fun t2 nt2 => ?_⟩
      have s8 := same_new (o := .tup [.int c, .ref t1]) nt2
      have ht2 : (upd H7 t2 (.tup [.int c, .ref t1])) t2 = some (.tup [.int c, .ref t1]) := upd_same
      generalize upd H7 t2 (.tup [.int c, .ref t1]) = H8 at s8 ht2 ⊢
      refine ⟨by show 2 ≤ sizeLine; decide, fun t3 nt3 => ?_⟩
      have s9 := same_new (o := .tup [.str z, .ref t2]) nt3
      have ht3 : (upd H8 t3 (.tup [.str z, .ref t2])) t3 = some (.tup [.str z, .ref t2]) := upd_same
      generalize upd H8 t3 (.tup [.str z, .ref t2]) = H9 at s9 ht3 ⊢
      have s69 := (s7.trans s8).trans s9
      have k59 : Keep b g H5 H9 := K6.trans (Same.keep s69)
      have hD9 := k59 _ _ hD Db Dg
      have B9 := B6.same s69
      have tu : Tups H5 (upd H9 D (.lst (ts.map V.ref ++ [.ref t3]))) := (k59.tups B5).trans (tups_store hD9)
      have tu9 : Tups H9 (upd H9 D (.lst (ts.map V.ref ++ [.ref t3]))) := tups_store hD9
      have len2 : ts.length = i := by
        have := congrArg List.length keys
        rw [List.length_map, List.length_take] at this
        have := ra.1
        omega
      refine ⟨_, hD9, ?_, (B9.store Db Dg Dm).more (by omega), fun d o e n1 n2 => ?_, ts ++ [t3], rs ++ [(z, t2)], ?_, ?_, ?_, ?_⟩
      · rw [List.length_map]
        exact small1000 (by omega)
      · rw [upd_ne (ne_of_none e nD)]
        exact k59 _ _ (K5 _ _ e n1 n2) n1 n2
      · rw [upd_same, List.map_append]
        rfl
      · refine ⟨by rw [List.length_append, List.length_append, ra.1]; rfl, fun j t et => ?_⟩
        by_cases hj : j < ts.length
        · rw [List.getElem?_append_left hj] at et
          obtain ⟨x', r', e1, e2⟩ := ra.2 j t et
          refine ⟨x', r', ?_, tu _ _ e2⟩
          rw [List.getElem?_append_left (by rw [← ra.1]; exact hj)]
          exact e1
        · have ej : j = ts.length := by
            have := (List.getElem?_eq_some_iff.mp et).1
            rw [List.length_append, List.length_singleton] at this
            omega
          subst ej
          rw [List.getElem?_append_right (Nat.le_refl _), Nat.sub_self] at et
          cases Option.some.inj et
          refine ⟨z, t2, ?_, tu9 _ _ ht3⟩
          rw [ra.1, List.getElem?_append_right (Nat.le_refl _), Nat.sub_self]
          rfl
      · rw [List.map_append, keys, tk]
        rfl
      · intro q' mq
        rcases List.mem_append.mp mq with mq | mq
        · exact (each q' mq).tups tu
        · rw [List.mem_singleton.mp mq]
          exact ⟨t1, ys, tu9 _ _ (s9 _ _ ht2), tu9 _ _ (s9 _ _ (s8 _ _ ht1)), pm⟩
    · rintro H5 ⟨B5, K5, ts, rs, hD, ra, keys, each⟩
      rw [List.length_map] at B5 keys
      rw [List.take_length] at keys
      have fit : Fit H5 c xs rs := ⟨nd, x8, nm, cc1, cc2, by rw [keys], each⟩
      have h5 := K5 _ _ h4 npb npg
      -- dict, Network
      refine ⟨.ref D, rfl, D, ts, kvs rs, rfl, SqL.of hD, rows_paired ts rs ra, fun W nW => ?_⟩
      have em : mergeK [] (kvs rs) = kvs rs := merge_kvs rs [] (by rw [List.nil_append, keys]; exact nd)
      rw [em]
      have s6 := same_new (o := .dK (kvs rs)) nW
      have hW : (upd H5 W (.dK (kvs rs))) W = some (.dK (kvs rs)) := upd_same
      generalize upd H5 W (.dK (kvs rs)) = H6 at s6 hW ⊢
      refine ⟨.ref D, rfl, fun net dx nnet ndx ne => ?_⟩
      have s7 : Same H6 (upd (upd H6 dx (.own net)) net (.ins C dx [])) := (same_new ndx).trans (same_new (by rw [upd_ne ne.symm]; exact nnet))
      have hnet : (upd (upd H6 dx (.own net)) net (.ins C dx [])) net = some (.ins C dx []) := upd_same
      generalize upd (upd H6 dx (.own net)) net (.ins C dx []) = H7 at s7 hnet ⊢
      have s57 := s6.trans s7
      refine ⟨net, dx, D, ts, rs, c, xs, rfl, hnet, SqL.of (s57 _ _ hD), ra.same s57, fit.same s57, fun D2 rs' H8 N8 bt => ⟨rfl, _, _, rfl, ?_⟩⟩
      have nn : ∀ {p : Addr} {o : HO}, H6 p = some o → H8 p = some o := fun {p o} e => bt p o (s7 _ _ e) (ne_of_none e nnet)
      have s58 : Same H5 H8 := fun d o e => nn (s6 d o e)
      have B8 := B5.same s58
      have R8 : Rw0 H8 W c xs rs := ⟨nn hW, fit.same s58⟩
      have h8 := s58 _ _ h5
      have nb : 200 + 10 * xs.length ≤ 300 := by omega
      refine ⟨2, rfl, by decide, by decide, for_range (lo := 0) (n := 2) (fun i σ H9 => ∃ (y8 y9 y10 y11 y12 : Option V), σ = [some (.ref a), some (.ref b), some (.ref np), some (.int (xs.length : Int)), some (.int c), some (.ref D), some (.ref W), some (.ref net), y8, y9, y10, y11, y12] ∧ Box H9 b g m (300 + 100 * i) ∧ H9 np = some (.lst (xs.map V.str)) ∧ Rw0 H9 W c xs rs ∧ NetAt C H9 net D2 c xs rs') ?_ ?_ ?_⟩
      · exact ⟨_, _, _, _, _, rfl, B8.more (by omega), h8, R8, N8⟩
      · rintro i σ H9 hi ⟨y8, y9, y10, y11, y12, rfl, B9, h9, R9, N9⟩
        refine ⟨.ref b, rfl, .ref np, rfl, b, g, m, np, _, xs, rfl, B9, by omega, SqL.of h9, by omega, fun p ys H10 np10 hp pm B10 K10 => ?_⟩
        obtain ⟨pb, pg, pmm⟩ := B9.ne np10
        have yl := pm.length_eq
        refine ⟨.ref b, rfl, .int (xs.length : Int), rfl, _, _, rfl, rfl, b, g, m, _, (xs.length : Int) + 1, rfl, B10, by omega, by omega, by omega, fun v2 H11 d0 d1 B11 K11 => ⟨v2, rfl, ?_⟩⟩
        have hp11 := K11 _ _ hp pb pg
        refine ⟨p, _, rfl, SqL.of hp11, fun e ne' => ?_⟩
        rw [cut_take ys d0 (by omega)]
        have s12 := same_new (o := .lst ((ys.take v2.toNat).map V.str)) ne'
        have he : (upd H11 e (.lst ((ys.take v2.toNat).map V.str))) e = some (.lst ((ys.take v2.toNat).map V.str)) := upd_same
        generalize upd H11 e (.lst ((ys.take v2.toNat).map V.str)) = H12 at s12 he ⊢
        generalize hF : ys.take v2.toNat = Fs at he ⊢
        have fl : Fl xs Fs := ⟨by rw [← hF]; exact (List.take_sublist _ _).nodup (pm.nodup_iff.mpr nd), fun x mx => pm.mem_iff.mp (by rw [← hF] at mx; exact List.mem_of_mem_take mx)⟩
        have k912 : Keep b g H9 H12 := (K10.trans K11).trans (Same.keep s12)
        have R12 := R9.keep k912 B9
        have N12 := N9.keep k912 B9
        have h12 := k912 _ _ h9 npb npg
        have B12 := B11.same s12
        refine ⟨_, rfl, .ref e, rfl, e, _, rfl, .inl (SqL.of he), _, _, rfl, rfl, _, _, rfl, ?_⟩
        refine ⟨_, rfl, _, _, rfl, rfl, .inl ⟨by decide, by decide⟩, _, rfl, .ref e, rfl, e, _, rfl, .inl (SqL.of he), _, _, rfl, rfl, _, _, rfl, rfl, ?_⟩
        rw [List.length_map]
        refine ⟨.ref W, rfl, .ref e, rfl, .ref net, rfl, .ref e, rfl, rfl, rfl, net, D2, e, c, xs, rs', Fs, rfl, N12, .inl (SqL.of he), fl, fun r H13 s13 ver => ?_⟩
        have hl := hon_len N12 fl
        have hon := N12.hon Fs
        have ap : decide (2 * (if c - (Fs.length : Int) > 1 then c - (Fs.length : Int) else 1) ≤ (xs.length : Int) - (Fs.length : Int)) = (cq c Fs.length 17 (honL rs' Fs) (honL rs' Fs)).apart := by
          have l8 := hon.few N12.fit
          have v := verdict (c := c) (f := Fs.length) (n := 17) hon.nd (by omega)
          have el : ((honL rs' Fs).length : Int) = (xs.length : Int) - (Fs.length : Int) := by omega
          rw [el] at v
          cases hq : cq c Fs.length 17 (honL rs' Fs) (honL rs' Fs) with
          | disj A' B' => exact decide_eq_true (v.mp ⟨A', B', hq⟩)
          | crt t =>
            refine decide_eq_false fun z => ?_
            obtain ⟨A', B', e'⟩ := v.mpr z
            rw [hq] at e'
            cases e'
        have ah : AllHon xs Fs (honL rs' Fs) := ⟨hon, fun x mx nx => List.mem_filter.mpr ⟨N12.fit.keys.mem_iff.mpr mx, decide_eq_true nx⟩⟩
        refine ⟨_, rfl, W, e, r, _, c, xs, rs, honL rs' Fs, Fs, rfl, R12.same s13, s13 _ _ he, ver, ah, fl, ap, fun H14 s14 => ⟨_, rfl, iteF ?_⟩⟩
        have s1214 := s13.trans s14
        exact ⟨_, _, _, _, _, rfl, (B12.same s1214).more (by omega), s1214 _ _ h12, R12.same s1214, N12.same s1214⟩
      · rintro σ H9 ⟨y8, y9, y10, y11, y12, rfl, _⟩
        exact q H9
end
end Moot
namespace Moot
open PySem PySem.Spec PyProof.Rows L2
/-! what the top has written -/
theorem all_mk {l : PySem.W.OpenLaw} {w : World} {K : PySem.W.Frag} {h : Heap} {mg : Str → Option Value} {fa C dT eA f_ns f_out f_isn f_who f_ct f_hd f_sr f_ir f_nwr f_nin f_sp f_sat f_cr f_fr f_so f_rm f_lq f_cq f_it f_rb f_cu f_nn f_cn f_ro f_box f_mix f_take f_nam f_shu f_lsat f_qu f_is f_ap f_wo f_rv f_ce f_ho f_al f_vh f_law f_ini : Addr} (X : K.In h) (G : h.Ns mainGlobals mg) (hfa : mg "law" = some (.ref fa))
    {od_ns an_ns od_out an_out od_isn an_isn od_who an_who od_ct an_ct od_hd an_hd od_sr an_sr od_ir an_ir od_nwr an_nwr od_nin an_nin od_sp an_sp od_sat an_sat od_cr an_cr od_fr an_fr od_so an_so od_rm an_rm od_lq an_lq od_cq an_cq od_it an_it od_rb an_rb od_cu an_cu od_nn an_nn od_cn an_cn od_ro an_ro od_box an_box od_mix an_mix od_take an_take od_nam an_nam od_shu an_shu od_lsat an_lsat od_qu an_qu od_is an_is od_ap an_ap od_wo an_wo od_rv an_rv od_ce an_ce od_ho an_ho od_al an_al od_vh an_vh od_law an_law od_ini an_ini : Option Addr} {sl_ns sl_out sl_isn sl_who sl_ct sl_hd sl_sr sl_ir sl_nwr sl_nin sl_sp sl_sat sl_cr sl_fr sl_so sl_rm sl_lq sl_cq sl_it sl_rb sl_cu sl_nn sl_cn sl_ro sl_box sl_mix sl_take sl_nam sl_shu sl_lsat sl_qu sl_is sl_ap sl_wo sl_rv sl_ce sl_ho sl_al sl_vh sl_law sl_ini : Array (Option Value)} {oc_ns kV_ns dc_ns pm_ns cd_ns ct_ns oc_out kV_out dc_out pm_out cd_out ct_out oc_isn kV_isn dc_isn pm_isn cd_isn ct_isn oc_who kV_who dc_who pm_who cd_who ct_who oc_ct kV_ct dc_ct pm_ct cd_ct ct_ct oc_hd kV_hd dc_hd pm_hd cd_hd ct_hd oc_sr kV_sr dc_sr pm_sr cd_sr ct_sr oc_ir kV_ir dc_ir pm_ir cd_ir ct_ir oc_nwr kV_nwr dc_nwr pm_nwr cd_nwr ct_nwr oc_nin kV_nin dc_nin pm_nin cd_nin ct_nin oc_sp kV_sp dc_sp pm_sp cd_sp ct_sp oc_sat kV_sat dc_sat pm_sat cd_sat ct_sat oc_cr kV_cr dc_cr pm_cr cd_cr ct_cr oc_fr kV_fr dc_fr pm_fr cd_fr ct_fr oc_so kV_so dc_so pm_so cd_so ct_so oc_rm kV_rm dc_rm pm_rm cd_rm ct_rm oc_lq kV_lq dc_lq pm_lq cd_lq ct_lq oc_cq kV_cq dc_cq pm_cq cd_cq ct_cq oc_it kV_it dc_it pm_it cd_it ct_it oc_rb kV_rb dc_rb pm_rb cd_rb ct_rb oc_cu kV_cu dc_cu pm_cu cd_cu ct_cu oc_nn kV_nn dc_nn pm_nn cd_nn ct_nn oc_cn kV_cn dc_cn pm_cn cd_cn ct_cn oc_ro kV_ro dc_ro pm_ro cd_ro ct_ro oc_box kV_box dc_box pm_box cd_box ct_box oc_mix kV_mix dc_mix pm_mix cd_mix ct_mix oc_take kV_take dc_take pm_take cd_take ct_take oc_nam kV_nam dc_nam pm_nam cd_nam ct_nam oc_shu kV_shu dc_shu pm_shu cd_shu ct_shu oc_lsat kV_lsat dc_lsat pm_lsat cd_lsat ct_lsat oc_qu kV_qu dc_qu pm_qu cd_qu ct_qu oc_is kV_is dc_is pm_is cd_is ct_is oc_ap kV_ap dc_ap pm_ap cd_ap ct_ap oc_wo kV_wo dc_wo pm_wo cd_wo ct_wo oc_rv kV_rv dc_rv pm_rv cd_rv ct_rv oc_ce kV_ce dc_ce pm_ce cd_ce ct_ce oc_ho kV_ho dc_ho pm_ho cd_ho ct_ho oc_al kV_al dc_al pm_al cd_al ct_al oc_vh kV_vh dc_vh pm_vh cd_vh ct_vh oc_law kV_law dc_law pm_law cd_law ct_law oc_ini kV_ini dc_ini pm_ini cd_ini ct_ini : Value}
    {tA tB tC tD : Tok} {ocT : Value} {odT : Option Addr} {nT : Nat} {slT : Array (Option Value)}
    (aC : PySem.W.nsIn K mainGlobals "Network" = some (some (.ref C)))
    (a_ns : PySem.W.nsIn K mainGlobals "node_set" = some (some (.ref f_ns)))
    (l_ns : K.lookup f_ns = some ⟨oc_ns, od_ns, .func (PySem.W.fnOf "node_set" "node_set" (defArgs sNs) (defBody sNs) (defScope sNs) .none kV_ns dc_ns pm_ns an_ns cd_ns ct_ns), sl_ns⟩)
    (c_ns : PySem.W.codeIn K cd_ns "node_set" = true)
    (k_ns : PySem.W.keepIn K (.ref f_ns) = true)
    (a_out : PySem.W.nsIn K mainGlobals "names_outside" = some (some (.ref f_out)))
    (l_out : K.lookup f_out = some ⟨oc_out, od_out, .func (PySem.W.fnOf "names_outside" "names_outside" (defArgs sOut) (defBody sOut) (defScope sOut) .none kV_out dc_out pm_out an_out cd_out ct_out), sl_out⟩)
    (c_out : PySem.W.codeIn K cd_out "names_outside" = true)
    (k_out : PySem.W.keepIn K (.ref f_out) = true)
    (a_isn : PySem.W.nsIn K mainGlobals "is_name" = some (some (.ref f_isn)))
    (l_isn : K.lookup f_isn = some ⟨oc_isn, od_isn, .func (PySem.W.fnOf "is_name" "is_name" (defArgs sIn) (defBody sIn) (defScope sIn) .none kV_isn dc_isn pm_isn an_isn cd_isn ct_isn), sl_isn⟩)
    (c_isn : PySem.W.codeIn K cd_isn "is_name" = true)
    (k_isn : PySem.W.keepIn K (.ref f_isn) = true)
    (a_who : PySem.W.nsIn K mainGlobals "is_whole_number" = some (some (.ref f_who)))
    (l_who : K.lookup f_who = some ⟨oc_who, od_who, .func (PySem.W.fnOf "is_whole_number" "is_whole_number" (defArgs sWh) (defBody sWh) (defScope sWh) .none kV_who dc_who pm_who an_who cd_who ct_who), sl_who⟩)
    (c_who : PySem.W.codeIn K cd_who "is_whole_number" = true)
    (k_who : PySem.W.keepIn K (.ref f_who) = true)
    (a_ct : PySem.W.nsIn K mainGlobals "is_counted_tuple" = some (some (.ref f_ct)))
    (l_ct : K.lookup f_ct = some ⟨oc_ct, od_ct, .func (PySem.W.fnOf "is_counted_tuple" "is_counted_tuple" (defArgs sCt) (defBody sCt) (defScope sCt) .none kV_ct dc_ct pm_ct an_ct cd_ct ct_ct), sl_ct⟩)
    (c_ct : PySem.W.codeIn K cd_ct "is_counted_tuple" = true)
    (k_ct : PySem.W.keepIn K (.ref f_ct) = true)
    (a_hd : PySem.W.nsIn K mainGlobals "has_duplicates" = some (some (.ref f_hd)))
    (l_hd : K.lookup f_hd = some ⟨oc_hd, od_hd, .func (PySem.W.fnOf "has_duplicates" "has_duplicates" (defArgs sHd) (defBody sHd) (defScope sHd) .none kV_hd dc_hd pm_hd an_hd cd_hd ct_hd), sl_hd⟩)
    (c_hd : PySem.W.codeIn K cd_hd "has_duplicates" = true)
    (k_hd : PySem.W.keepIn K (.ref f_hd) = true)
    (a_sr : PySem.W.nsIn K mainGlobals "is_simple_requirement" = some (some (.ref f_sr)))
    (l_sr : K.lookup f_sr = some ⟨oc_sr, od_sr, .func (PySem.W.fnOf "is_simple_requirement" "is_simple_requirement" (defArgs sSr) (defBody sSr) (defScope sSr) .none kV_sr dc_sr pm_sr an_sr cd_sr ct_sr), sl_sr⟩)
    (c_sr : PySem.W.codeIn K cd_sr "is_simple_requirement" = true)
    (k_sr : PySem.W.keepIn K (.ref f_sr) = true)
    (a_ir : PySem.W.nsIn K mainGlobals "is_requirement" = some (some (.ref f_ir)))
    (l_ir : K.lookup f_ir = some ⟨oc_ir, od_ir, .func (PySem.W.fnOf "is_requirement" "is_requirement" (defArgs sIr) (defBody sIr) (defScope sIr) .none kV_ir dc_ir pm_ir an_ir cd_ir ct_ir), sl_ir⟩)
    (c_ir : PySem.W.codeIn K cd_ir "is_requirement" = true)
    (k_ir : PySem.W.keepIn K (.ref f_ir) = true)
    (a_nwr : PySem.W.nsIn K mainGlobals "names_with_repetition" = some (some (.ref f_nwr)))
    (l_nwr : K.lookup f_nwr = some ⟨oc_nwr, od_nwr, .func (PySem.W.fnOf "names_with_repetition" "names_with_repetition" (defArgs sNwr) (defBody sNwr) (defScope sNwr) .none kV_nwr dc_nwr pm_nwr an_nwr cd_nwr ct_nwr), sl_nwr⟩)
    (c_nwr : PySem.W.codeIn K cd_nwr "names_with_repetition" = true)
    (k_nwr : PySem.W.keepIn K (.ref f_nwr) = true)
    (a_nin : PySem.W.nsIn K mainGlobals "names_in" = some (some (.ref f_nin)))
    (l_nin : K.lookup f_nin = some ⟨oc_nin, od_nin, .func (PySem.W.fnOf "names_in" "names_in" (defArgs sNin) (defBody sNin) (defScope sNin) .none kV_nin dc_nin pm_nin an_nin cd_nin ct_nin), sl_nin⟩)
    (c_nin : PySem.W.codeIn K cd_nin "names_in" = true)
    (k_nin : PySem.W.keepIn K (.ref f_nin) = true)
    (a_sp : PySem.W.nsIn K mainGlobals "satisfies_part" = some (some (.ref f_sp)))
    (l_sp : K.lookup f_sp = some ⟨oc_sp, od_sp, .func (PySem.W.fnOf "satisfies_part" "satisfies_part" (defArgs sSp) (defBody sSp) (defScope sSp) .none kV_sp dc_sp pm_sp an_sp cd_sp ct_sp), sl_sp⟩)
    (c_sp : PySem.W.codeIn K cd_sp "satisfies_part" = true)
    (k_sp : PySem.W.keepIn K (.ref f_sp) = true)
    (a_sat : PySem.W.nsIn K mainGlobals "satisfies" = some (some (.ref f_sat)))
    (l_sat : K.lookup f_sat = some ⟨oc_sat, od_sat, .func (PySem.W.fnOf "satisfies" "satisfies" (defArgs sSat) (defBody sSat) (defScope sSat) .none kV_sat dc_sat pm_sat an_sat cd_sat ct_sat), sl_sat⟩)
    (c_sat : PySem.W.codeIn K cd_sat "satisfies" = true)
    (k_sat : PySem.W.keepIn K (.ref f_sat) = true)
    (a_cr : PySem.W.nsIn K mainGlobals "can_be_removed" = some (some (.ref f_cr)))
    (l_cr : K.lookup f_cr = some ⟨oc_cr, od_cr, .func (PySem.W.fnOf "can_be_removed" "can_be_removed" (defArgs sCr) (defBody sCr) (defScope sCr) .none kV_cr dc_cr pm_cr an_cr cd_cr ct_cr), sl_cr⟩)
    (c_cr : PySem.W.codeIn K cd_cr "can_be_removed" = true)
    (k_cr : PySem.W.keepIn K (.ref f_cr) = true)
    (a_fr : PySem.W.nsIn K mainGlobals "first_removable" = some (some (.ref f_fr)))
    (l_fr : K.lookup f_fr = some ⟨oc_fr, od_fr, .func (PySem.W.fnOf "first_removable" "first_removable" (defArgs sFr) (defBody sFr) (defScope sFr) .none kV_fr dc_fr pm_fr an_fr cd_fr ct_fr), sl_fr⟩)
    (c_fr : PySem.W.codeIn K cd_fr "first_removable" = true)
    (k_fr : PySem.W.keepIn K (.ref f_fr) = true)
    (a_so : PySem.W.nsIn K mainGlobals "start_of_removal" = some (some (.ref f_so)))
    (l_so : K.lookup f_so = some ⟨oc_so, od_so, .func (PySem.W.fnOf "start_of_removal" "start_of_removal" (defArgs sSo) (defBody sSo) (defScope sSo) .none kV_so dc_so pm_so an_so cd_so ct_so), sl_so⟩)
    (c_so : PySem.W.codeIn K cd_so "start_of_removal" = true)
    (k_so : PySem.W.keepIn K (.ref f_so) = true)
    (a_rm : PySem.W.nsIn K mainGlobals "removal_order" = some (some (.ref f_rm)))
    (l_rm : K.lookup f_rm = some ⟨oc_rm, od_rm, .func (PySem.W.fnOf "removal_order" "removal_order" (defArgs sRm) (defBody sRm) (defScope sRm) .none kV_rm dc_rm pm_rm an_rm cd_rm ct_rm), sl_rm⟩)
    (c_rm : PySem.W.codeIn K cd_rm "removal_order" = true)
    (k_rm : PySem.W.keepIn K (.ref f_rm) = true)
    (a_lq : PySem.W.nsIn K mainGlobals "largest_quorum" = some (some (.ref f_lq)))
    (l_lq : K.lookup f_lq = some ⟨oc_lq, od_lq, .func (PySem.W.fnOf "largest_quorum" "largest_quorum" (defArgs sLq) (defBody sLq) (defScope sLq) .none kV_lq dc_lq pm_lq an_lq cd_lq ct_lq), sl_lq⟩)
    (c_lq : PySem.W.codeIn K cd_lq "largest_quorum" = true)
    (k_lq : PySem.W.keepIn K (.ref f_lq) = true)
    (a_cq : PySem.W.nsIn K mainGlobals "certificate_or_quorums" = some (some (.ref f_cq)))
    (l_cq : K.lookup f_cq = some ⟨oc_cq, od_cq, .func (PySem.W.fnOf "certificate_or_quorums" "certificate_or_quorums" (defArgs sCq) (defBody sCq) (defScope sCq) .none kV_cq dc_cq pm_cq an_cq cd_cq ct_cq), sl_cq⟩)
    (c_cq : PySem.W.codeIn K cd_cq "certificate_or_quorums" = true)
    (k_cq : PySem.W.keepIn K (.ref f_cq) = true)
    (a_it : PySem.W.nsIn K mainGlobals "intersection" = some (some (.ref f_it)))
    (l_it : K.lookup f_it = some ⟨oc_it, od_it, .func (PySem.W.fnOf "intersection" "intersection" (defArgs sIt) (defBody sIt) (defScope sIt) .none kV_it dc_it pm_it an_it cd_it ct_it), sl_it⟩)
    (c_it : PySem.W.codeIn K cd_it "intersection" = true)
    (k_it : PySem.W.keepIn K (.ref f_it) = true)
    (a_rb : PySem.W.nsIn K mainGlobals "requirements_by_name" = some (some (.ref f_rb)))
    (l_rb : K.lookup f_rb = some ⟨oc_rb, od_rb, .func (PySem.W.fnOf "requirements_by_name" "requirements_by_name" (defArgs sRb) (defBody sRb) (defScope sRb) .none kV_rb dc_rb pm_rb an_rb cd_rb ct_rb), sl_rb⟩)
    (c_rb : PySem.W.codeIn K cd_rb "requirements_by_name" = true)
    (k_rb : PySem.W.keepIn K (.ref f_rb) = true)
    (a_cu : PySem.W.nsIn K mainGlobals "check_names_used" = some (some (.ref f_cu)))
    (l_cu : K.lookup f_cu = some ⟨oc_cu, od_cu, .func (PySem.W.fnOf "check_names_used" "check_names_used" (defArgs sCu) (defBody sCu) (defScope sCu) .none kV_cu dc_cu pm_cu an_cu cd_cu ct_cu), sl_cu⟩)
    (c_cu : PySem.W.codeIn K cd_cu "check_names_used" = true)
    (k_cu : PySem.W.keepIn K (.ref f_cu) = true)
    (a_nn : PySem.W.findIn K (.ref C) "node_names" = some (some (.ref f_nn)))
    (i_nn : PySem.W.isFn K (.ref f_nn) = true)
    (l_nn : K.lookup f_nn = some ⟨oc_nn, od_nn, .func (PySem.W.fnOf "node_names" "Network.node_names" (defArgs sNn) (defBody sNn) (defScope sNn) .none kV_nn dc_nn pm_nn an_nn cd_nn ct_nn), sl_nn⟩)
    (c_nn : PySem.W.codeIn K cd_nn "Network.node_names" = true)
    (k_nn : PySem.W.keepIn K (.ref f_nn) = true)
    (a_cn : PySem.W.findIn K (.ref C) "check_nodes" = some (some (.ref f_cn)))
    (i_cn : PySem.W.isFn K (.ref f_cn) = true)
    (l_cn : K.lookup f_cn = some ⟨oc_cn, od_cn, .func (PySem.W.fnOf "check_nodes" "Network.check_nodes" (defArgs sCn) (defBody sCn) (defScope sCn) .none kV_cn dc_cn pm_cn an_cn cd_cn ct_cn), sl_cn⟩)
    (c_cn : PySem.W.codeIn K cd_cn "Network.check_nodes" = true)
    (k_cn : PySem.W.keepIn K (.ref f_cn) = true)
    (a_ro : PySem.W.findIn K (.ref C) "requirement_of" = some (some (.ref f_ro)))
    (i_ro : PySem.W.isFn K (.ref f_ro) = true)
    (l_ro : K.lookup f_ro = some ⟨oc_ro, od_ro, .func (PySem.W.fnOf "requirement_of" "Network.requirement_of" (defArgs sRo) (defBody sRo) (defScope sRo) .none kV_ro dc_ro pm_ro an_ro cd_ro ct_ro), sl_ro⟩)
    (c_ro : PySem.W.codeIn K cd_ro "Network.requirement_of" = true)
    (k_ro : PySem.W.keepIn K (.ref f_ro) = true)
    (a_box : PySem.W.nsIn K mainGlobals "_law_box" = some (some (.ref f_box)))
    (l_box : K.lookup f_box = some ⟨oc_box, od_box, .func (PySem.W.fnOf "_law_box" "_law_box" (defArgs sBox) (defBody sBox) (defScope sBox) .none kV_box dc_box pm_box an_box cd_box ct_box), sl_box⟩)
    (c_box : PySem.W.codeIn K cd_box "_law_box" = true)
    (k_box : PySem.W.keepIn K (.ref f_box) = true)
    (a_mix : PySem.W.nsIn K mainGlobals "_law_mixed" = some (some (.ref f_mix)))
    (l_mix : K.lookup f_mix = some ⟨oc_mix, od_mix, .func (PySem.W.fnOf "_law_mixed" "_law_mixed" (defArgs sMixed) (defBody sMixed) (defScope sMixed) .none kV_mix dc_mix pm_mix an_mix cd_mix ct_mix), sl_mix⟩)
    (c_mix : PySem.W.codeIn K cd_mix "_law_mixed" = true)
    (k_mix : PySem.W.keepIn K (.ref f_mix) = true)
    (a_take : PySem.W.nsIn K mainGlobals "_law_take" = some (some (.ref f_take)))
    (l_take : K.lookup f_take = some ⟨oc_take, od_take, .func (PySem.W.fnOf "_law_take" "_law_take" (defArgs sTake) (defBody sTake) (defScope sTake) .none kV_take dc_take pm_take an_take cd_take ct_take), sl_take⟩)
    (c_take : PySem.W.codeIn K cd_take "_law_take" = true)
    (k_take : PySem.W.keepIn K (.ref f_take) = true)
    (a_nam : PySem.W.nsIn K mainGlobals "_law_names" = some (some (.ref f_nam)))
    (l_nam : K.lookup f_nam = some ⟨oc_nam, od_nam, .func (PySem.W.fnOf "_law_names" "_law_names" (defArgs sNames) (defBody sNames) (defScope sNames) .none kV_nam dc_nam pm_nam an_nam cd_nam ct_nam), sl_nam⟩)
    (c_nam : PySem.W.codeIn K cd_nam "_law_names" = true)
    (k_nam : PySem.W.keepIn K (.ref f_nam) = true)
    (a_shu : PySem.W.nsIn K mainGlobals "_law_shuffled" = some (some (.ref f_shu)))
    (l_shu : K.lookup f_shu = some ⟨oc_shu, od_shu, .func (PySem.W.fnOf "_law_shuffled" "_law_shuffled" (defArgs sShu) (defBody sShu) (defScope sShu) .none kV_shu dc_shu pm_shu an_shu cd_shu ct_shu), sl_shu⟩)
    (c_shu : PySem.W.codeIn K cd_shu "_law_shuffled" = true)
    (k_shu : PySem.W.keepIn K (.ref f_shu) = true)
    (a_lsat : PySem.W.nsIn K mainGlobals "_law_satisfies" = some (some (.ref f_lsat)))
    (l_lsat : K.lookup f_lsat = some ⟨oc_lsat, od_lsat, .func (PySem.W.fnOf "_law_satisfies" "_law_satisfies" (defArgs sLsat) (defBody sLsat) (defScope sLsat) .none kV_lsat dc_lsat pm_lsat an_lsat cd_lsat ct_lsat), sl_lsat⟩)
    (c_lsat : PySem.W.codeIn K cd_lsat "_law_satisfies" = true)
    (k_lsat : PySem.W.keepIn K (.ref f_lsat) = true)
    (a_qu : PySem.W.nsIn K mainGlobals "_law_is_quorum" = some (some (.ref f_qu)))
    (l_qu : K.lookup f_qu = some ⟨oc_qu, od_qu, .func (PySem.W.fnOf "_law_is_quorum" "_law_is_quorum" (defArgs sQu) (defBody sQu) (defScope sQu) .none kV_qu dc_qu pm_qu an_qu cd_qu ct_qu), sl_qu⟩)
    (c_qu : PySem.W.codeIn K cd_qu "_law_is_quorum" = true)
    (k_qu : PySem.W.keepIn K (.ref f_qu) = true)
    (a_is : PySem.W.nsIn K mainGlobals "_law_is_set" = some (some (.ref f_is)))
    (l_is : K.lookup f_is = some ⟨oc_is, od_is, .func (PySem.W.fnOf "_law_is_set" "_law_is_set" (defArgs sIs) (defBody sIs) (defScope sIs) .none kV_is dc_is pm_is an_is cd_is ct_is), sl_is⟩)
    (c_is : PySem.W.codeIn K cd_is "_law_is_set" = true)
    (k_is : PySem.W.keepIn K (.ref f_is) = true)
    (a_ap : PySem.W.nsIn K mainGlobals "_law_are_apart" = some (some (.ref f_ap)))
    (l_ap : K.lookup f_ap = some ⟨oc_ap, od_ap, .func (PySem.W.fnOf "_law_are_apart" "_law_are_apart" (defArgs sAp) (defBody sAp) (defScope sAp) .none kV_ap dc_ap pm_ap an_ap cd_ap ct_ap), sl_ap⟩)
    (c_ap : PySem.W.codeIn K cd_ap "_law_are_apart" = true)
    (k_ap : PySem.W.keepIn K (.ref f_ap) = true)
    (a_wo : PySem.W.nsIn K mainGlobals "_law_without" = some (some (.ref f_wo)))
    (l_wo : K.lookup f_wo = some ⟨oc_wo, od_wo, .func (PySem.W.fnOf "_law_without" "_law_without" (defArgs sWo) (defBody sWo) (defScope sWo) .none kV_wo dc_wo pm_wo an_wo cd_wo ct_wo), sl_wo⟩)
    (c_wo : PySem.W.codeIn K cd_wo "_law_without" = true)
    (k_wo : PySem.W.keepIn K (.ref f_wo) = true)
    (a_rv : PySem.W.nsIn K mainGlobals "_law_removes" = some (some (.ref f_rv)))
    (l_rv : K.lookup f_rv = some ⟨oc_rv, od_rv, .func (PySem.W.fnOf "_law_removes" "_law_removes" (defArgs sRv) (defBody sRv) (defScope sRv) .none kV_rv dc_rv pm_rv an_rv cd_rv ct_rv), sl_rv⟩)
    (c_rv : PySem.W.codeIn K cd_rv "_law_removes" = true)
    (k_rv : PySem.W.keepIn K (.ref f_rv) = true)
    (a_ce : PySem.W.nsIn K mainGlobals "_law_certifies" = some (some (.ref f_ce)))
    (l_ce : K.lookup f_ce = some ⟨oc_ce, od_ce, .func (PySem.W.fnOf "_law_certifies" "_law_certifies" (defArgs sCe) (defBody sCe) (defScope sCe) .none kV_ce dc_ce pm_ce an_ce cd_ce ct_ce), sl_ce⟩)
    (c_ce : PySem.W.codeIn K cd_ce "_law_certifies" = true)
    (k_ce : PySem.W.keepIn K (.ref f_ce) = true)
    (a_ho : PySem.W.nsIn K mainGlobals "_law_certificate_holds" = some (some (.ref f_ho)))
    (l_ho : K.lookup f_ho = some ⟨oc_ho, od_ho, .func (PySem.W.fnOf "_law_certificate_holds" "_law_certificate_holds" (defArgs sHo) (defBody sHo) (defScope sHo) .none kV_ho dc_ho pm_ho an_ho cd_ho ct_ho), sl_ho⟩)
    (c_ho : PySem.W.codeIn K cd_ho "_law_certificate_holds" = true)
    (k_ho : PySem.W.keepIn K (.ref f_ho) = true)
    (a_al : PySem.W.nsIn K mainGlobals "_law_all_tuples" = some (some (.ref f_al)))
    (l_al : K.lookup f_al = some ⟨oc_al, od_al, .func (PySem.W.fnOf "_law_all_tuples" "_law_all_tuples" (defArgs sAt) (defBody sAt) (defScope sAt) .none kV_al dc_al pm_al an_al cd_al ct_al), sl_al⟩)
    (c_al : PySem.W.codeIn K cd_al "_law_all_tuples" = true)
    (k_al : PySem.W.keepIn K (.ref f_al) = true)
    (a_vh : PySem.W.nsIn K mainGlobals "_law_verdict_holds" = some (some (.ref f_vh)))
    (l_vh : K.lookup f_vh = some ⟨oc_vh, od_vh, .func (PySem.W.fnOf "_law_verdict_holds" "_law_verdict_holds" (defArgs sVh) (defBody sVh) (defScope sVh) .none kV_vh dc_vh pm_vh an_vh cd_vh ct_vh), sl_vh⟩)
    (c_vh : PySem.W.codeIn K cd_vh "_law_verdict_holds" = true)
    (k_vh : PySem.W.keepIn K (.ref f_vh) = true)
    (a_law : PySem.W.nsIn K mainGlobals "law" = some (some (.ref f_law)))
    (l_law : K.lookup f_law = some ⟨oc_law, od_law, .func (PySem.W.fnOf "law" "law" (defArgs sLaw) (defBody sLaw) (defScope sLaw) .none kV_law dc_law pm_law an_law cd_law ct_law), sl_law⟩)
    (c_law : PySem.W.codeIn K cd_law "law" = true)
    (k_law : PySem.W.keepIn K (.ref f_law) = true)
    (a_ini : PySem.W.findIn K (.ref C) "__init__" = some (some (.ref f_ini)))
    (i_ini : PySem.W.isFn K (.ref f_ini) = true)
    (l_ini : K.lookup f_ini = some ⟨oc_ini, od_ini, .func (PySem.W.fnOf "__init__" "Network.__init__" (defArgs sNi) (defBody sNi) (defScope sNi) (.ref dT) kV_ini dc_ini pm_ini an_ini cd_ini ct_ini), sl_ini⟩)
    (c_ini : PySem.W.codeIn K cd_ini "Network.__init__" = true)
    (k_ini : PySem.W.keepIn K (.ref f_ini) = true)
    (y_dT : K.lookup dT = some ⟨ocT, odT, .seq #[.ref eA] nT, slT⟩)
    (y_let : PySem.W.nsIn K mainGlobals "LETTERS" = some (some (.str abc tA)))
    (y_lon : PySem.W.nsIn K mainGlobals "LONGEST_NAME" = some (some (.int 8 tB)))
    (y_mn : PySem.W.nsIn K mainGlobals "MOST_NAMES" = some (some (.int 12 tC)))
    (y_md : PySem.W.nsIn K mainGlobals "MOST_DIFFERENT_NAMES" = some (some (.int 8 tD)))
    (w_pg : PySem.W.plainGet K C Str.empty = true)
    (w_hd : PySem.W.hasDictIn K C = true)
    (w_po : PySem.W.plainOver K C = true)
    (w_sa : PySem.W.findIn K (.ref C) "__setattr__" = some (some (.builtin "object.__setattr__")))
    (w_mk : PySem.W.makesIn K C = true)
    (w_kc : PySem.W.keepIn K (.ref C) = true)
    (w_nR : PySem.W.findIn K (.ref C) "requirements" = some none)
    (z_isi : PySem.W.nsIn K mainGlobals "isinstance" = some none)
    (z_str : PySem.W.nsIn K mainGlobals "str" = some none)
    (z_len : PySem.W.nsIn K mainGlobals "len" = some none)
    (z_tup : PySem.W.nsIn K mainGlobals "tuple" = some none)
    (z_lst : PySem.W.nsIn K mainGlobals "list" = some none)
    (z_srt : PySem.W.nsIn K mainGlobals "sorted" = some none)
    (z_set : PySem.W.nsIn K mainGlobals "set" = some none)
    (z_rng : PySem.W.nsIn K mainGlobals "range" = some none)
    (z_int : PySem.W.nsIn K mainGlobals "int" = some none)
    (z_bool : PySem.W.nsIn K mainGlobals "bool" = some none)
    (z_sum : PySem.W.nsIn K mainGlobals "sum" = some none)
    (z_min : PySem.W.nsIn K mainGlobals "min" = some none)
    (z_max : PySem.W.nsIn K mainGlobals "max" = some none)
    (z_all : PySem.W.nsIn K mainGlobals "all" = some none)
    (z_any : PySem.W.nsIn K mainGlobals "any" = some none)
    (z_dict : PySem.W.nsIn K mainGlobals "dict" = some none) :
    ∃ fd : FuncData, (∀ (s : Shared) (v : Value), BindsTo s fd ⟨[v], []⟩ [("_law_script", v)]) ∧ ∀ base : Heap, K.In base → base.Ns mainGlobals mg → FnOk l.prog w K mg base CX0 27 fa fd ["_law_script"] (spLaw K) := by
  have e := hfa.symm.trans (PySem.W.mg_of X G a_law)
  cases e
  have T0 : Blt mg := ⟨PySem.W.mg_none_of X G z_isi, PySem.W.mg_none_of X G z_str, PySem.W.mg_none_of X G z_len, PySem.W.mg_none_of X G z_tup, PySem.W.mg_none_of X G z_lst, PySem.W.mg_none_of X G z_srt, PySem.W.mg_none_of X G z_set, PySem.W.mg_none_of X G z_rng, PySem.W.mg_none_of X G z_int, PySem.W.mg_none_of X G z_bool, PySem.W.mg_none_of X G z_sum, PySem.W.mg_none_of X G z_min, PySem.W.mg_none_of X G z_max⟩
  have T : Bq mg := ⟨T0, PySem.W.mg_none_of X G z_all, PySem.W.mg_none_of X G z_any, PySem.W.mg_none_of X G z_dict, ⟨_, PySem.W.mg_of X G y_let, _, rfl⟩, ⟨_, PySem.W.mg_of X G y_lon, _, rfl⟩, ⟨_, PySem.W.mg_of X G y_mn, _, rfl⟩, ⟨_, PySem.W.mg_of X G y_md, _, rfl⟩⟩
  have TX : Txt K mg C := ⟨⟨w_pg, w_hd, w_po, w_sa⟩, w_nR, PySem.W.mg_of X G aC⟩
  have F_ns := fun_mk (st := sNs) l_ns c_ns k_ns
  have g_ns : mg "node_set" = some (.ref _) := PySem.W.mg_of X G a_ns
  have b_ns := F_ns.binds (ps := ["names"]) fun _ _ _ _ _ _ us hl => match us, hl with | [_], _ => rfl
  have F_out := fun_mk (st := sOut) l_out c_out k_out
  have g_out : mg "names_outside" = some (.ref _) := PySem.W.mg_of X G a_out
  have b_out := F_out.binds (ps := ["names", "excluded"]) fun _ _ _ _ _ _ us hl => match us, hl with | [_, _], _ => rfl
  have F_isn := fun_mk (st := sIn) l_isn c_isn k_isn
  have g_isn : mg "is_name" = some (.ref _) := PySem.W.mg_of X G a_isn
  have b_isn := F_isn.binds (ps := ["value"]) fun _ _ _ _ _ _ us hl => match us, hl with | [_], _ => rfl
  have F_who := fun_mk (st := sWh) l_who c_who k_who
  have g_who : mg "is_whole_number" = some (.ref _) := PySem.W.mg_of X G a_who
  have b_who := F_who.binds (ps := ["value"]) fun _ _ _ _ _ _ us hl => match us, hl with | [_], _ => rfl
  have F_ct := fun_mk (st := sCt) l_ct c_ct k_ct
  have g_ct : mg "is_counted_tuple" = some (.ref _) := PySem.W.mg_of X G a_ct
  have b_ct := F_ct.binds (ps := ["value"]) fun _ _ _ _ _ _ us hl => match us, hl with | [_], _ => rfl
  have F_hd := fun_mk (st := sHd) l_hd c_hd k_hd
  have g_hd : mg "has_duplicates" = some (.ref _) := PySem.W.mg_of X G a_hd
  have b_hd := F_hd.binds (ps := ["parts"]) fun _ _ _ _ _ _ us hl => match us, hl with | [_], _ => rfl
  have F_sr := fun_mk (st := sSr) l_sr c_sr k_sr
  have g_sr : mg "is_simple_requirement" = some (.ref _) := PySem.W.mg_of X G a_sr
  have b_sr := F_sr.binds (ps := ["value"]) fun _ _ _ _ _ _ us hl => match us, hl with | [_], _ => rfl
  have F_ir := fun_mk (st := sIr) l_ir c_ir k_ir
  have g_ir : mg "is_requirement" = some (.ref _) := PySem.W.mg_of X G a_ir
  have b_ir := F_ir.binds (ps := ["value"]) fun _ _ _ _ _ _ us hl => match us, hl with | [_], _ => rfl
  have F_nwr := fun_mk (st := sNwr) l_nwr c_nwr k_nwr
  have g_nwr : mg "names_with_repetition" = some (.ref _) := PySem.W.mg_of X G a_nwr
  have b_nwr := F_nwr.binds (ps := ["requirement"]) fun _ _ _ _ _ _ us hl => match us, hl with | [_], _ => rfl
  have F_nin := fun_mk (st := sNin) l_nin c_nin k_nin
  have g_nin : mg "names_in" = some (.ref _) := PySem.W.mg_of X G a_nin
  have b_nin := F_nin.binds (ps := ["requirement"]) fun _ _ _ _ _ _ us hl => match us, hl with | [_], _ => rfl
  have F_sp := fun_mk (st := sSp) l_sp c_sp k_sp
  have g_sp : mg "satisfies_part" = some (.ref _) := PySem.W.mg_of X G a_sp
  have b_sp := F_sp.binds (ps := ["part", "nodes"]) fun _ _ _ _ _ _ us hl => match us, hl with | [_, _], _ => rfl
  have F_sat := fun_mk (st := sSat) l_sat c_sat k_sat
  have g_sat : mg "satisfies" = some (.ref _) := PySem.W.mg_of X G a_sat
  have b_sat := F_sat.binds (ps := ["requirement", "nodes"]) fun _ _ _ _ _ _ us hl => match us, hl with | [_, _], _ => rfl
  have F_cr := fun_mk (st := sCr) l_cr c_cr k_cr
  have g_cr : mg "can_be_removed" = some (.ref _) := PySem.W.mg_of X G a_cr
  have b_cr := F_cr.binds (ps := ["network", "name", "nodes", "faulty"]) fun _ _ _ _ _ _ us hl => match us, hl with | [_, _, _, _], _ => rfl
  have F_fr := fun_mk (st := sFr) l_fr c_fr k_fr
  have g_fr : mg "first_removable" = some (.ref _) := PySem.W.mg_of X G a_fr
  have b_fr := F_fr.binds (ps := ["network", "nodes", "faulty"]) fun _ _ _ _ _ _ us hl => match us, hl with | [_, _, _], _ => rfl
  have F_so := fun_mk (st := sSo) l_so c_so k_so
  have g_so : mg "start_of_removal" = some (.ref _) := PySem.W.mg_of X G a_so
  have b_so := F_so.binds (ps := ["network", "nodes", "faulty"]) fun _ _ _ _ _ _ us hl => match us, hl with | [_, _, _], _ => rfl
  have F_rm := fun_mk (st := sRm) l_rm c_rm k_rm
  have g_rm : mg "removal_order" = some (.ref _) := PySem.W.mg_of X G a_rm
  have b_rm : Kb K (PySem.W.fnOf "removal_order" "removal_order" (defArgs sRm) (defBody sRm) (defScope sRm) .none kV_rm dc_rm pm_rm an_rm cd_rm ct_rm) ["network", "nodes", "faulty"] 2 := ⟨fun s us ws _ h1 h2 => match us, ws, h1, h2 with | [_, _], [_], _, _ => .of_eq rfl, fun r q => r.append q⟩
  have F_lq := fun_mk (st := sLq) l_lq c_lq k_lq
  have g_lq : mg "largest_quorum" = some (.ref _) := PySem.W.mg_of X G a_lq
  have b_lq : Kb K (PySem.W.fnOf "largest_quorum" "largest_quorum" (defArgs sLq) (defBody sLq) (defScope sLq) .none kV_lq dc_lq pm_lq an_lq cd_lq ct_lq) ["network", "nodes", "faulty"] 2 := ⟨fun s us ws _ h1 h2 => match us, ws, h1, h2 with | [_, _], [_], _, _ => .of_eq rfl, fun r q => r.append q⟩
  have F_cq := fun_mk (st := sCq) l_cq c_cq k_cq
  have g_cq : mg "certificate_or_quorums" = some (.ref _) := PySem.W.mg_of X G a_cq
  have b_cq := F_cq.binds (ps := ["network", "one", "other", "faulty"]) fun _ _ _ _ _ _ us hl => match us, hl with | [_, _, _, _], _ => rfl
  have F_it := fun_mk (st := sIt) l_it c_it k_it
  have g_it : mg "intersection" = some (.ref _) := PySem.W.mg_of X G a_it
  have b_it : Kb K (PySem.W.fnOf "intersection" "intersection" (defArgs sIt) (defBody sIt) (defScope sIt) .none kV_it dc_it pm_it an_it cd_it ct_it) ["network", "faulty"] 1 := ⟨fun s us ws _ h1 h2 => match us, ws, h1, h2 with | [_], [_], _, _ => .of_eq rfl, fun r q => r.append q⟩
  have F_rb := fun_mk (st := sRb) l_rb c_rb k_rb
  have g_rb : mg "requirements_by_name" = some (.ref _) := PySem.W.mg_of X G a_rb
  have b_rb := F_rb.binds (ps := ["rows"]) fun _ _ _ _ _ _ us hl => match us, hl with | [_], _ => rfl
  have F_cu := fun_mk (st := sCu) l_cu c_cu k_cu
  have g_cu : mg "check_names_used" = some (.ref _) := PySem.W.mg_of X G a_cu
  have b_cu := F_cu.binds (ps := ["requirements"]) fun _ _ _ _ _ _ us hl => match us, hl with | [_], _ => rfl
  have F_nn := fun_mk (st := sNn) l_nn c_nn k_nn
  have M_nn : Meth K C "node_names" f_nn := ⟨a_nn, i_nn, k_nn⟩
  have b_nn := F_nn.binds (ps := ["self"]) fun _ _ _ _ _ _ us hl => match us, hl with | [_], _ => rfl
  have F_cn := fun_mk (st := sCn) l_cn c_cn k_cn
  have M_cn : Meth K C "check_nodes" f_cn := ⟨a_cn, i_cn, k_cn⟩
  have b_cn := F_cn.binds (ps := ["self", "names"]) fun _ _ _ _ _ _ us hl => match us, hl with | [_, _], _ => rfl
  have F_ro := fun_mk (st := sRo) l_ro c_ro k_ro
  have M_ro : Meth K C "requirement_of" f_ro := ⟨a_ro, i_ro, k_ro⟩
  have b_ro := F_ro.binds (ps := ["self", "name"]) fun _ _ _ _ _ _ us hl => match us, hl with | [_, _], _ => rfl
  have F_box := fun_mk (st := sBox) l_box c_box k_box
  have g_box : mg "_law_box" = some (.ref _) := PySem.W.mg_of X G a_box
  have b_box := F_box.binds (ps := ["_law_script"]) fun _ _ _ _ _ _ us hl => match us, hl with | [_], _ => rfl
  have F_mix := fun_mk (st := sMixed) l_mix c_mix k_mix
  have g_mix : mg "_law_mixed" = some (.ref _) := PySem.W.mg_of X G a_mix
  have b_mix := F_mix.binds (ps := ["_law_cell", "_law_k"]) fun _ _ _ _ _ _ us hl => match us, hl with | [_, _], _ => rfl
  have F_take := fun_mk (st := sTake) l_take c_take k_take
  have g_take : mg "_law_take" = some (.ref _) := PySem.W.mg_of X G a_take
  have b_take := F_take.binds (ps := ["_law_box_here", "_law_size"]) fun _ _ _ _ _ _ us hl => match us, hl with | [_, _], _ => rfl
  have F_nam := fun_mk (st := sNames) l_nam c_nam k_nam
  have g_nam : mg "_law_names" = some (.ref _) := PySem.W.mg_of X G a_nam
  have b_nam := F_nam.binds (ps := ["_law_box_here", "_law_many"]) fun _ _ _ _ _ _ us hl => match us, hl with | [_, _], _ => rfl
  have F_shu := fun_mk (st := sShu) l_shu c_shu k_shu
  have g_shu : mg "_law_shuffled" = some (.ref _) := PySem.W.mg_of X G a_shu
  have b_shu := F_shu.binds (ps := ["_law_box_here", "_law_values"]) fun _ _ _ _ _ _ us hl => match us, hl with | [_, _], _ => rfl
  have F_lsat := fun_mk (st := sLsat) l_lsat c_lsat k_lsat
  have g_lsat : mg "_law_satisfies" = some (.ref _) := PySem.W.mg_of X G a_lsat
  have b_lsat := F_lsat.binds (ps := ["_law_requirement", "_law_nodes"]) fun _ _ _ _ _ _ us hl => match us, hl with | [_, _], _ => rfl
  have F_qu := fun_mk (st := sQu) l_qu c_qu k_qu
  have g_qu : mg "_law_is_quorum" = some (.ref _) := PySem.W.mg_of X G a_qu
  have b_qu := F_qu.binds (ps := ["_law_rows", "_law_nodes", "_law_failed"]) fun _ _ _ _ _ _ us hl => match us, hl with | [_, _, _], _ => rfl
  have F_is := fun_mk (st := sIs) l_is c_is k_is
  have g_is : mg "_law_is_set" = some (.ref _) := PySem.W.mg_of X G a_is
  have b_is := F_is.binds (ps := ["_law_value"]) fun _ _ _ _ _ _ us hl => match us, hl with | [_], _ => rfl
  have F_ap := fun_mk (st := sAp) l_ap c_ap k_ap
  have g_ap : mg "_law_are_apart" = some (.ref _) := PySem.W.mg_of X G a_ap
  have b_ap := F_ap.binds (ps := ["_law_rows", "_law_failed", "_law_one", "_law_other"]) fun _ _ _ _ _ _ us hl => match us, hl with | [_, _, _, _], _ => rfl
  have F_wo := fun_mk (st := sWo) l_wo c_wo k_wo
  have g_wo : mg "_law_without" = some (.ref _) := PySem.W.mg_of X G a_wo
  have b_wo := F_wo.binds (ps := ["_law_names_here", "_law_name"]) fun _ _ _ _ _ _ us hl => match us, hl with | [_, _], _ => rfl
  have F_rv := fun_mk (st := sRv) l_rv c_rv k_rv
  have g_rv : mg "_law_removes" = some (.ref _) := PySem.W.mg_of X G a_rv
  have b_rv := F_rv.binds (ps := ["_law_rows", "_law_failed", "_law_nodes", "_law_order"]) fun _ _ _ _ _ _ us hl => match us, hl with | [_, _, _, _], _ => rfl
  have F_ce := fun_mk (st := sCe) l_ce c_ce k_ce
  have g_ce : mg "_law_certifies" = some (.ref _) := PySem.W.mg_of X G a_ce
  have b_ce := F_ce.binds (ps := ["_law_rows", "_law_failed", "_law_value", "_law_one", "_law_other"]) fun _ _ _ _ _ _ us hl => match us, hl with | [_, _, _, _, _], _ => rfl
  have F_ho := fun_mk (st := sHo) l_ho c_ho k_ho
  have g_ho : mg "_law_certificate_holds" = some (.ref _) := PySem.W.mg_of X G a_ho
  have b_ho := F_ho.binds (ps := ["_law_rows", "_law_failed", "_law_value"]) fun _ _ _ _ _ _ us hl => match us, hl with | [_, _, _], _ => rfl
  have F_al := fun_mk (st := sAt) l_al c_al k_al
  have g_al : mg "_law_all_tuples" = some (.ref _) := PySem.W.mg_of X G a_al
  have b_al := F_al.binds (ps := ["_law_value"]) fun _ _ _ _ _ _ us hl => match us, hl with | [_], _ => rfl
  have F_vh := fun_mk (st := sVh) l_vh c_vh k_vh
  have g_vh : mg "_law_verdict_holds" = some (.ref _) := PySem.W.mg_of X G a_vh
  have b_vh := F_vh.binds (ps := ["_law_rows", "_law_failed", "_law_found", "_law_apart"]) fun _ _ _ _ _ _ us hl => match us, hl with | [_, _, _, _], _ => rfl
  have F_law := fun_mk (st := sLaw) l_law c_law k_law
  have g_law : mg "law" = some (.ref _) := PySem.W.mg_of X G a_law
  have b_law := F_law.binds (ps := ["_law_script"]) fun _ _ _ _ _ _ us hl => match us, hl with | [_], _ => rfl
  have F_ini : FunD K "__init__" "Network.__init__" (defArgs sNi) (defBody sNi) (defScope sNi) [.ref eA] [] f_ini (PySem.W.fnOf "__init__" "Network.__init__" (defArgs sNi) (defBody sNi) (defScope sNi) (.ref dT) kV_ini dc_ini pm_ini an_ini cd_ini ct_ini) :=
    ⟨⟨_, _, _, _, _, _, _, _, _, _, rfl, l_ini, c_ini, .inr ⟨by simp, dT, _, [.ref eA], nT, rfl, y_dT, rfl, .cons rfl .nil⟩, .inl rfl⟩, k_ini⟩
  obtain ⟨ds, vds, b_ini⟩ := F_ini.binds1 (ps := ["self", "rows"]) 2 1 (by simp) rfl (fun T kV doc pm an cdv ct us its h1 h2 => match us, its, h1, h2 with | [_, _], [_], _, _ => ⟨_, rfl, rfl⟩)
  have eds : ds = [] := by
    cases vds
    rfl
  subst eds
  refine ⟨PySem.W.fnOf "law" "law" (defArgs sLaw) (defBody sLaw) (defScope sLaw) .none kV_law dc_law pm_law an_law cd_law ct_law, fun s v => .of_eq rfl, fun base _ _ => ?_⟩
  have G_take : FnOk l.prog w K mg base CX0 2 _ _ _ spTake := ok_take (k := 0) F_take F_mix b_mix g_mix T0.len T0.max
  have G_nam : FnOk l.prog w K mg base CX0 3 _ _ _ spNames := ok_names F_nam F_take b_take g_take G_take T0.rng
  have G_shu : FnOk l.prog w K mg base CX0 3 _ _ _ (spShu K) := ok_shuffled F_shu F_take b_take g_take G_take T
  have G_box : FnOk l.prog w K mg base CX0 1 _ _ _ (spBox K) := ok_box (k := 0) F_box
  have G_ns2 : FnOk l.prog w K mg base CX0 1 _ _ _ (spNs2 K) := ok_ns2 (k := 0) F_ns T
  have G_ns : FnOk l.prog w K mg base CX0 2 _ _ _ (spNs K) := ok_ns (k := 1) F_ns T0.tup T0.srt T0.set
  have G_out : FnOk l.prog w K mg base CX0 1 _ _ _ (spOut K) := ok_out (k := 0) F_out T
  have G_isn : FnOk l.prog w K mg base CX0 1 _ _ _ spIn := ok_isname (k := 0) F_isn T
  have G_ct : FnOk l.prog w K mg base CX0 2 _ _ _ spCt := ok_counted (k := 0) F_ct T F_who b_who g_who
  have G_hd : FnOk l.prog w K mg base CX0 1 _ _ _ (spHd K) := ok_dup (k := 0) F_hd T
  have G_nwr : FnOk l.prog w K mg base CX0 2 _ _ _ (spNwr fun _ => True) := ok_nwr_all F_nwr b_nwr g_nwr T0
  have G_ir : FnOk l.prog w K mg base CX0 3 _ _ _ spIr := ok_isreq F_ir T F_ct b_ct g_ct G_ct F_isn b_isn g_isn (G_isn.mono (by decide)) F_sr b_sr g_sr F_hd b_hd g_hd (G_hd.mono (by decide)) F_nwr b_nwr g_nwr G_nwr
  have G_nin : FnOk l.prog w K mg base CX0 3 _ _ _ spNin := ok_nin F_nin F_ns b_ns g_ns F_nwr b_nwr g_nwr G_ns G_nwr
  have G_rb : FnOk l.prog w K mg base CX0 4 _ _ _ (spRb K) := ok_byname F_rb T F_isn b_isn g_isn (G_isn.mono (by decide)) F_ir b_ir g_ir G_ir
  have G_cu : FnOk l.prog w K mg base CX0 4 _ _ _ spCu := ok_used F_cu T F_nin b_nin g_nin G_nin
  have G_ini : FnOk l.prog w K mg base CX0 5 _ _ _ (spNi K C) := ok_netinit F_ini T TX F_rb b_rb g_rb G_rb F_cu b_cu g_cu G_cu
  have G_nn : FnOk l.prog w K mg base CX0 1 _ _ _ (spNn C) := ok_nodenames (k := 0) F_nn T TX
  have G_cn : FnOk l.prog w K mg base CX0 1 _ _ _ (spCn K C) := ok_checknodes (k := 0) F_cn T TX
  have G_ro : FnOk l.prog w K mg base CX0 2 _ _ _ (spRo C) := ok_reqof F_ro T TX M_cn b_cn G_cn
  have G_sat : FnOk l.prog w K mg base CX0 4 _ _ _ (spSat K Short) := ok_sat_all F_sat b_sat g_sat F_sp b_sp g_sp T0
  have G_cr : FnOk l.prog w K mg base CX0 5 _ _ _ (spCr K C) := ok_removable F_cr T TX F_sat b_sat g_sat G_sat M_ro b_ro (G_ro.mono (by decide))
  have G_fr : FnOk l.prog w K mg base CX0 6 _ _ _ (spFr K C) := ok_first F_fr T F_cr b_cr g_cr G_cr
  have G_so : FnOk l.prog w K mg base CX0 2 _ _ _ (spSo K C) := ok_start F_so T TX M_cn b_cn G_cn F_out b_out g_out G_out F_ns b_ns g_ns G_ns2
  have G_rm : FnOk l.prog w K mg base CX0 7 _ _ _ (spRm K C) := ok_order F_rm T F_so b_so g_so (G_so.mono (by decide)) F_fr b_fr g_fr G_fr F_out b_out g_out (G_out.mono (by decide))
  have G_lq : FnOk l.prog w K mg base CX0 8 _ _ _ (spLq K C) := ok_largest F_lq T F_so b_so g_so (G_so.mono (by decide)) F_rm b_rm g_rm G_rm F_out b_out g_out (G_out.mono (by decide))
  have G_cq : ∀ n, FnOk l.prog w K mg base CX0 (8 + n) f_cq (PySem.W.fnOf "certificate_or_quorums" "certificate_or_quorums" (defArgs sCq) (defBody sCq) (defScope sCq) .none kV_cq dc_cq pm_cq an_cq cd_cq ct_cq) pCq (spCq K C n) := fun n => by
    induction n with
    | zero => exact fn_none 8 fun vs H Q E ⟨_, _, _, _, _, _, _, _, _, _, _, _, _, _, _, _, _, _, _, h, _⟩ => absurd h (Nat.not_lt_zero _)
    | succ n ih => exact ok_cq (k := 8 + n) F_cq b_cq g_cq T ih F_lq b_lq g_lq (G_lq.mono (by omega)) F_rm b_rm g_rm (G_rm.mono (by omega)) F_out b_out g_out (G_out.mono (by omega))
  have G_it : FnOk l.prog w K mg base CX0 26 _ _ _ (spIt K C) := ok_inter F_it T TX M_cn b_cn (G_cn.mono (by decide)) M_nn b_nn (G_nn.mono (by decide)) F_out b_out g_out (G_out.mono (by decide)) F_cq b_cq g_cq (G_cq 17)
  have G_lsat : FnOk l.prog w K mg base CX0 2 _ _ _ (spSat K Short) := ok_lsat_all F_lsat b_lsat g_lsat T0
  have G_qu : FnOk l.prog w K mg base CX0 3 _ _ _ (spQu K) := ok_quorum F_qu T F_lsat b_lsat g_lsat G_lsat
  have G_is : FnOk l.prog w K mg base CX0 1 _ _ _ spIs := ok_isset (k := 0) F_is T
  have G_ap : FnOk l.prog w K mg base CX0 4 _ _ _ spAp := ok_apart F_ap T F_is b_is g_is (G_is.mono (by decide)) F_qu b_qu g_qu G_qu
  have G_wo : FnOk l.prog w K mg base CX0 1 _ _ _ spWo := ok_without (k := 0) F_wo T
  have G_rv : FnOk l.prog w K mg base CX0 3 _ _ _ spRv := ok_removes F_rv T F_lsat b_lsat g_lsat G_lsat F_wo b_wo g_wo (G_wo.mono (by decide))
  have G_ce : ∀ n, FnOk l.prog w K mg base CX0 (3 + n) f_ce (PySem.W.fnOf "_law_certifies" "_law_certifies" (defArgs sCe) (defBody sCe) (defScope sCe) .none kV_ce dc_ce pm_ce an_ce cd_ce ct_ce) pCe (spCe n) := fun n => by
    induction n with
    | zero => exact fn_none 3 fun vs H Q E ⟨_, _, _, _, _, _, _, _, _, _, _, _, _, _, _, _, _, _, _, _, _, _, h, _⟩ => absurd h (Nat.not_lt_zero _)
    | succ n ih => exact ok_certifies (k := 3 + n) F_ce b_ce g_ce T ih F_rv b_rv g_rv (G_rv.mono (by omega)) F_wo b_wo g_wo (G_wo.mono (by omega))
  have G_ho : FnOk l.prog w K mg base CX0 21 _ _ _ spHo := ok_holds F_ho T F_ce b_ce g_ce (G_ce 17)
  have G_al : ∀ n, FnOk l.prog w K mg base CX0 n f_al (PySem.W.fnOf "_law_all_tuples" "_law_all_tuples" (defArgs sAt) (defBody sAt) (defScope sAt) .none kV_al dc_al pm_al an_al cd_al ct_al) ["_law_value"] (spAt n) := fun n => by
    induction n with
    | zero =>
      refine fn_none 0 fun vs H Q E ⟨v, c, f, _, tv, _⟩ => ?_
      rcases tv with ⟨h, _⟩ | ⟨h, _⟩ | ⟨p, t, A, B, _, _, _, h, _⟩
      · exact absurd h (by decide)
      · exact absurd h (by decide)
      · omega
    | succ n ih => exact ok_alltup F_al b_al g_al T ih
  have G_vh : FnOk l.prog w K mg base CX0 22 _ _ _ spVh := ok_verdict F_vh T F_ap b_ap g_ap (G_ap.mono (by decide)) F_al b_al g_al ((G_al 19).mono (by decide)) F_ho b_ho g_ho G_ho
  exact ok_law (k := 25) F_law T TX F_box b_box g_box (G_box.mono (by decide)) F_take b_take g_take (G_take.mono (by decide)) F_nam b_nam g_nam (G_nam.mono (by decide)) F_shu b_shu g_shu (G_shu.mono (by decide)) ⟨w_mk, a_ini, i_ini, w_kc⟩ b_ini (G_ini.mono (by decide)) F_it b_it g_it G_it F_vh b_vh g_vh (G_vh.mono (by decide))
end Moot
open PySem PySem.W PyProof.Rows
set_option maxRecDepth 100000 in
set_option maxHeartbeats 0 in
theorem PySem.Challenge.cw_oathmoot_k21_majority_networks_intersect_holds : PySem.Challenge.rw_oathmoot_k21_majority_networks_intersect.Holds := by
  w_on; o_law; k_head; (case hw => w_witness2)
  k_fill
  refine L2.walk_of (l := PySem.Challenge.rw_oathmoot_k21_majority_networks_intersect) (n := 63) (k := 27) (x := "_law_script") (CX := fun _ => L2.CX0) (sp := fun w => Moot.spLaw _) rfl (by decide) rfl ⟨rfl, by decide, by decide⟩ (fun w h Y => PySem.W.kIn_of Y) ?F (fun _ _ a ns hl _ hS => ⟨a, ns, rfl, hS, hl, fun _ => rfl⟩) (fun _ _ _ _ _ h => h)
  case F =>
    intro w mg fa h KX G hmg
    refine' Moot.all_mk KX G hmg ?aC ?a_ns ?l_ns ?c_ns ?k_ns ?a_out ?l_out ?c_out ?k_out ?a_isn ?l_isn ?c_isn ?k_isn ?a_who ?l_who ?c_who ?k_who ?a_ct ?l_ct ?c_ct ?k_ct ?a_hd ?l_hd ?c_hd ?k_hd ?a_sr ?l_sr ?c_sr ?k_sr ?a_ir ?l_ir ?c_ir ?k_ir ?a_nwr ?l_nwr ?c_nwr ?k_nwr ?a_nin ?l_nin ?c_nin ?k_nin ?a_sp ?l_sp ?c_sp ?k_sp ?a_sat ?l_sat ?c_sat ?k_sat ?a_cr ?l_cr ?c_cr ?k_cr ?a_fr ?l_fr ?c_fr ?k_fr ?a_so ?l_so ?c_so ?k_so ?a_rm ?l_rm ?c_rm ?k_rm ?a_lq ?l_lq ?c_lq ?k_lq ?a_cq ?l_cq ?c_cq ?k_cq ?a_it ?l_it ?c_it ?k_it ?a_rb ?l_rb ?c_rb ?k_rb ?a_cu ?l_cu ?c_cu ?k_cu ?a_nn ?i_nn ?l_nn ?c_nn ?k_nn ?a_cn ?i_cn ?l_cn ?c_cn ?k_cn ?a_ro ?i_ro ?l_ro ?c_ro ?k_ro ?a_box ?l_box ?c_box ?k_box ?a_mix ?l_mix ?c_mix ?k_mix ?a_take ?l_take ?c_take ?k_take ?a_nam ?l_nam ?c_nam ?k_nam ?a_shu ?l_shu ?c_shu ?k_shu ?a_lsat ?l_lsat ?c_lsat ?k_lsat ?a_qu ?l_qu ?c_qu ?k_qu ?a_is ?l_is ?c_is ?k_is ?a_ap ?l_ap ?c_ap ?k_ap ?a_wo ?l_wo ?c_wo ?k_wo ?a_rv ?l_rv ?c_rv ?k_rv ?a_ce ?l_ce ?c_ce ?k_ce ?a_ho ?l_ho ?c_ho ?k_ho ?a_al ?l_al ?c_al ?k_al ?a_vh ?l_vh ?c_vh ?k_vh ?a_law ?l_law ?c_law ?k_law ?a_ini ?i_ini ?l_ini ?c_ini ?k_ini ?y_dT ?y_let ?y_lon ?y_mn ?y_md ?w_pg ?w_hd ?w_po ?w_sa ?w_mk ?w_kc ?w_nR ?z_isi ?z_str ?z_len ?z_tup ?z_lst ?z_srt ?z_set ?z_rng ?z_int ?z_bool ?z_sum ?z_min ?z_max ?z_all ?z_any ?z_dict
    (case aC => k_is); (case a_ns => k_is); (case l_ns => k_is); (case c_ns => k_is); (case k_ns => k_is); (case a_out => k_is); (case l_out => k_is); (case c_out => k_is)
    (case k_out => k_is); (case a_isn => k_is); (case l_isn => k_is); (case c_isn => k_is); (case k_isn => k_is); (case a_who => k_is); (case l_who => k_is); (case c_who => k_is)
    (case k_who => k_is); (case a_ct => k_is); (case l_ct => k_is); (case c_ct => k_is); (case k_ct => k_is); (case a_hd => k_is); (case l_hd => k_is); (case c_hd => k_is)
    (case k_hd => k_is); (case a_sr => k_is); (case l_sr => k_is); (case c_sr => k_is); (case k_sr => k_is); (case a_ir => k_is); (case l_ir => k_is); (case c_ir => k_is)
    (case k_ir => k_is); (case a_nwr => k_is); (case l_nwr => k_is); (case c_nwr => k_is); (case k_nwr => k_is); (case a_nin => k_is); (case l_nin => k_is); (case c_nin => k_is)
    (case k_nin => k_is); (case a_sp => k_is); (case l_sp => k_is); (case c_sp => k_is); (case k_sp => k_is); (case a_sat => k_is); (case l_sat => k_is); (case c_sat => k_is)
    (case k_sat => k_is); (case a_cr => k_is); (case l_cr => k_is); (case c_cr => k_is); (case k_cr => k_is); (case a_fr => k_is); (case l_fr => k_is); (case c_fr => k_is)
    (case k_fr => k_is); (case a_so => k_is); (case l_so => k_is); (case c_so => k_is); (case k_so => k_is); (case a_rm => k_is); (case l_rm => k_is); (case c_rm => k_is)
    (case k_rm => k_is); (case a_lq => k_is); (case l_lq => k_is); (case c_lq => k_is); (case k_lq => k_is); (case a_cq => k_is); (case l_cq => k_is); (case c_cq => k_is)
    (case k_cq => k_is); (case a_it => k_is); (case l_it => k_is); (case c_it => k_is); (case k_it => k_is); (case a_rb => k_is); (case l_rb => k_is); (case c_rb => k_is)
    (case k_rb => k_is); (case a_cu => k_is); (case l_cu => k_is); (case c_cu => k_is); (case k_cu => k_is); (case a_nn => k_is); (case i_nn => k_is); (case l_nn => k_is)
    (case c_nn => k_is); (case k_nn => k_is); (case a_cn => k_is); (case i_cn => k_is); (case l_cn => k_is); (case c_cn => k_is); (case k_cn => k_is); (case a_ro => k_is)
    (case i_ro => k_is); (case l_ro => k_is); (case c_ro => k_is); (case k_ro => k_is); (case a_box => k_is); (case l_box => k_is); (case c_box => k_is); (case k_box => k_is)
    (case a_mix => k_is); (case l_mix => k_is); (case c_mix => k_is); (case k_mix => k_is); (case a_take => k_is); (case l_take => k_is); (case c_take => k_is); (case k_take => k_is)
    (case a_nam => k_is); (case l_nam => k_is); (case c_nam => k_is); (case k_nam => k_is); (case a_shu => k_is); (case l_shu => k_is); (case c_shu => k_is); (case k_shu => k_is)
    (case a_lsat => k_is); (case l_lsat => k_is); (case c_lsat => k_is); (case k_lsat => k_is); (case a_qu => k_is); (case l_qu => k_is); (case c_qu => k_is); (case k_qu => k_is)
    (case a_is => k_is); (case l_is => k_is); (case c_is => k_is); (case k_is => k_is); (case a_ap => k_is); (case l_ap => k_is); (case c_ap => k_is); (case k_ap => k_is)
    (case a_wo => k_is); (case l_wo => k_is); (case c_wo => k_is); (case k_wo => k_is); (case a_rv => k_is); (case l_rv => k_is); (case c_rv => k_is); (case k_rv => k_is)
    (case a_ce => k_is); (case l_ce => k_is); (case c_ce => k_is); (case k_ce => k_is); (case a_ho => k_is); (case l_ho => k_is); (case c_ho => k_is); (case k_ho => k_is)
    (case a_al => k_is); (case l_al => k_is); (case c_al => k_is); (case k_al => k_is); (case a_vh => k_is); (case l_vh => k_is); (case c_vh => k_is); (case k_vh => k_is)
    (case a_law => k_is); (case l_law => k_is); (case c_law => k_is); (case k_law => k_is); (case a_ini => k_is); (case i_ini => k_is); (case l_ini => k_is); (case c_ini => k_is)
    (case k_ini => k_is); (case y_dT => k_is); (case y_let => k_is); (case y_lon => k_is); (case y_mn => k_is); (case y_md => k_is); (case w_pg => k_is); (case w_hd => k_is)
    (case w_po => k_is); (case w_sa => k_is); (case w_mk => k_is); (case w_kc => k_is); (case w_nR => k_is); (case z_isi => k_is); (case z_str => k_is); (case z_len => k_is)
    (case z_tup => k_is); (case z_lst => k_is); (case z_srt => k_is); (case z_set => k_is); (case z_rng => k_is); (case z_int => k_is); (case z_bool => k_is); (case z_sum => k_is)
    (case z_min => k_is); (case z_max => k_is); (case z_all => k_is); (case z_any => k_is); (case z_dict => k_is)
