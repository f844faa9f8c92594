import PyProof.Rows.All
import Wide.All
import OpenK.AllK
import Wide.FinOn
import PyProof.Rows.SetFrom
import HandS.List
import HandS.Set
import PyProof.SetRoads
import HandS.ForMost
import HandS.Deep
import HandS.More
import HandS.IsInst
import HandS.Flow
import HandS.Codes
import HandS.Walk
import PyProof.TupleOfGen
import HandS.DictComp
import HandS.Conv
import HandS.Defaults
import HandS.Star
import KE.SortKeyHeap
import HandS.SortKw
import KE.SortData
import HandS.Zip
import HandS.TupAny
import HandS.EndTab
import PySem.Challenge.RW_oathmoot_k35_majority_networks_tolerate
set_option Elab.async false
set_option linter.unusedVariables false
set_option maxRecDepth 100000
set_option maxHeartbeats 8000000
/-! Sets of keys of any one kind, filled and then walked in whatever order the world has. -/
namespace Moot
open PySem PySem.Spec PyProof.Rows L2
section
variable {P : Program} {w : World} {T : Type} [DecidableEq T]
/-- what is known of a set's entries and of its table -/
structure Laid (knd : KeyKind P w T) (S : T → Bool) (es : Array (Int × Value)) (t : SetTable) : Prop where
  el : ElemsOf knd es.toList
  mem : ∀ k, S k = true ↔ ∃ e ∈ es.toList, knd.is k e.2 = true
  one : es.toList.Pairwise fun e f => ∀ k, knd.is k e.2 = true → knd.is k f.2 = true → False
  few : es.size < scanBound
  fit : t.fits es.size = true
  ris : Ris t.place.toList
  led : w.params.followText "set-order" = true ∨ t.led = true
/-- a set of n keys stands at a, S tells which -/
def Stands (knd : KeyKind P w T) (h : Heap) (a : Addr) (S : T → Bool) (n : Nat) : Prop :=
  ∃ o es ep t, h.get? a = some o ∧ o.ExactSet ∧ o.data = .set es ep t ∧ es.size = n ∧ Laid knd S es t
variable {knd : KeyKind P w T} {S : T → Bool} {es es' : Array (Int × Value)} {t t' : SetTable}
/-- entries in another order, in a table that still rises -/
theorem Laid.moved (L : Laid knd S es t) (p : es'.toList.Perm es.toList) (f : t'.fits es'.size = true) (r : Ris t'.place.toList) (l : t'.led = t.led) : Laid knd S es' t' := by
  have z : es'.size = es.size := by
    have q := p.length_eq
    simpa using q
  refine ⟨L.el.perm p, fun k => (L.mem k).trans ⟨?_, ?_⟩, ?_, by rw [z]; exact L.few, f, r, ?_⟩
  · rintro ⟨e, m, i⟩
    exact ⟨e, p.mem_iff.mpr m, i⟩
  · rintro ⟨e, m, i⟩
    exact ⟨e, p.mem_iff.mp m, i⟩
  · exact (p.pairwise_iff fun {e f} q k a b => q k b a).mpr L.one
  · rw [l]
    exact L.led
/-- a key more -/
theorem Laid.more (L : Laid knd S es t) {k : T} {x : Value} (hk : knd.is k x = true) (hx : x.scannable = true) (new : ∀ e ∈ es.toList, knd.is k e.2 = false)
    (p : es'.toList.Perm (es.push (knd.hash k, x)).toList) (room : es.size + 1 < scanBound) (f : t'.fits es'.size = true) (r : Ris t'.place.toList) (l : t'.led = t.led) :
    Laid knd (fun j => S j || decide (j = k)) es' t' := by
  rw [Array.toList_push] at p
  have z : es'.size = es.size + 1 := by
    have q := p.length_eq
    simpa using q
  have inj : ∀ j, knd.is j x = true → j = k := fun j h => knd.inj x j k h hk
  refine ⟨(L.el.push hk hx).perm p, fun j => ?_, ?_, by rw [z]; exact room, f, r, by rw [l]; exact L.led⟩
  · rw [Bool.or_eq_true, decide_eq_true_eq, L.mem j]
    constructor
    · rintro (⟨e, m, i⟩ | rfl)
      · exact ⟨e, p.mem_iff.mpr (List.mem_append_left _ m), i⟩
      · exact ⟨_, p.mem_iff.mpr (List.mem_append_right _ List.mem_cons_self), hk⟩
    · rintro ⟨e, m, i⟩
      rcases List.mem_append.mp (p.mem_iff.mp m) with m | m
      · exact .inl ⟨e, m, i⟩
      · rw [List.mem_singleton.mp m] at i
        exact .inr (inj j i)
  · refine (p.pairwise_iff fun {e f} q k a b => q k b a).mpr ?_
    refine List.pairwise_append.mpr ⟨L.one, List.pairwise_singleton _ _, fun e m e2 m2 j a b => ?_⟩
    rw [List.mem_singleton.mp m2] at b
    have c := new e m
    rw [inj j b] at a
    rw [a] at c
    cases c
section
variable {A : Around} {E : Value → Shared → Prop} {s : Shared} {a : Addr} {n : Nat} {k : T} {x : Value}
/-- the table with one mark taken off is as good -/
theorem Laid.off (L : Laid knd S es t) (b : Bool) : Laid knd S es (if b = true then t else { t with plain := false }) := by
  cases b with
  | true => exact L
  | false => exact ⟨L.el, L.mem, L.one, L.few, SetTable.fits_plain_off L.fit, L.ris, L.led⟩
/-- entries are stored, and laid anew where the table has grown too full -/
theorem stow {g : Bool → Sem Unit} (quiet : ∀ (b : Bool) (s₁ : Shared) (Q₁ : Unit → Shared → Prop), Q₁ () s₁ → wpAny (model P w) A (g b) Q₁ E s₁)
    {o : Obj} {es₀ : Array (Int × Value)} {ep : Nat} {t₀ : SetTable} (ho : s.heap.get? a = some o) (hex : o.ExactSet) (hd : o.data = .set es₀ ep t₀) (L : Laid knd S es t) {full : Bool} {Q : Option Bool → Shared → Prop}
    (q : ∀ h', Heap.SameBut a s.heap h' → Stands knd h' a S es.size → Q (some true) { s with heap := h' }) :
    wpAny (model P w) A (storeSet a es t >>= fun _ => if full = true then (match relayAll t es (SetTable.grown es.size) with | (es2, t2, gave) => g gave >>= fun _ => storeSet a es2 t2 >>= fun _ => pure (some true)) else pure (some true)) Q E s := by
  have first := store_at (es' := es) (t' := t) ho hd
  have same := Heap.SameBut.update s.heap a (Obj.putSet es t)
  apply wpAny_bind
  apply wpAny_storeSet_of ho hd _ (fits_of_scanBound L.few)
  cases full with
  | false => exact wpAny_pure (q _ same ⟨_, es, _, t, first, hex, rfl, rfl, L⟩)
  | true =>
    have p := relayAll_perm t es (SetTable.grown es.size)
    have L2 := L.moved p (relayAll_fits t es _) (relayAll_ris t es _) (relayAll_led t es _)
    have z : (relayAll t es (SetTable.grown es.size)).1.size = es.size := by simpa using p.length_eq
    rw [if_pos rfl]
    revert L2 z
    rcases relayAll t es (SetTable.grown es.size) with ⟨es2, t2, gave⟩
    intro L2 z
    apply wpAny_bind
    apply quiet
    apply wpAny_bind
    apply wpAny_storeSet_of first rfl _ (fits_of_scanBound L2.few)
    exact wpAny_pure (q _ (same.trans (Heap.SameBut.update _ a _)) ⟨_, es2, _, t2, store_at first rfl, hex, rfl, z, L2⟩)
theorem add_key {Q : Bool → Shared → Prop} (R : Stands knd s.heap a S n) (hk : knd.is k x = true) (hx : x.scannable = true) (room : n + 1 < scanBound)
    (q : ∀ h', Heap.SameBut a s.heap h' → Stands knd h' a (fun j => S j || decide (j = k)) (if S k = true then n else n + 1) → Q (!S k) { s with heap := h' }) :
    wpAny (model P w) A (setAddHashed a x (knd.hash k)) Q E s := by
  obtain ⟨o, es, ep, t, ho, hex, hd, rfl, L⟩ := R
  unfold setAddHashed setAddHashedIn
  apply wpAny_holding
  apply wpAny_bind
  apply wpAny_setState_of ho hd L.fit
  show wpAny _ _ (if byScan x es = true then _ else _) _ _ _
  rw [byScan_of hx L.few L.el, if_pos rfl]
  unfold setAddByScan
  apply wpAny_bind
  apply wpAny_bind
  apply wpAny_rule
  apply wpAny_bind
  apply wpAny_setScan_of hk ho hd L.fit L.el
  cases met : List.findIdx? (fun e => knd.is k e.2) es.toList with
  | some j =>
    obtain ⟨lt, hit, _⟩ := List.findIdx?_eq_some_iff_getElem.mp met
    have old : S k = true := (L.mem k).mpr ⟨_, List.getElem_mem lt, hit⟩
    have same : (fun j => S j || decide (j = k)) = S := funext fun i => by
      by_cases e : i = k
      · rw [e, old, Bool.true_or]
      · rw [decide_eq_false e, Bool.or_false]
    have r := q s.heap (Heap.SameBut.refl a s.heap)
    rw [same, old] at r
    exact wpAny_pure (wpAny_pure (r ⟨o, es, ep, t, ho, hex, hd, rfl, L⟩))
  | none =>
    have new : ∀ e ∈ es.toList, knd.is k e.2 = false := List.findIdx?_eq_none_iff.mp met
    have no : S k = false := by
      cases c : S k with
      | false => rfl
      | true =>
        obtain ⟨e, m, i⟩ := (L.mem k).mp c
        rw [new e m] at i
        cases i
    have p := layNew_perm t es (knd.hash k) x
    have L1 := L.more hk hx new p room (layNew_fits t es (knd.hash k) x) (layNew_ris t es (knd.hash k) x L.ris) (layNew_led t es (knd.hash k) x)
    have z : (layNew t es (knd.hash k) x).1.size = es.size + 1 := by simpa using p.length_eq
    rw [no] at q
    dsimp only
    clear p
    generalize layNew t es (knd.hash k) x = Z at L1 z ⊢
    obtain ⟨es1, t1, dm, gave⟩ := Z
    dsimp only at L1 z ⊢
    have fin : ∀ h', Heap.SameBut a s.heap h' → Stands knd h' a (fun j => S j || decide (j = k)) es1.size → Q true { s with heap := h' } := fun h' sb r => q h' sb (z ▸ r)
    apply wpAny_bind
    have calm : ∀ {s₁ : Shared} {Q₁ : Unit → Shared → Prop}, Q₁ () s₁ → ∀ b : Bool, wpAny (model P w) A (match b with | true => rule "set.scan.the-table-gave-way" | false => pure ()) Q₁ E s₁ := fun h b => by
      cases b with
      | true => exact wpAny_rule h
      | false => exact wpAny_pure h
    refine calm ?_ gave
    have step : ∀ b : Bool, _ := fun b => stow (A := A) (E := E) (s := s) (Q := fun r s₁ => wpAny (model P w) A (match r with | some added => pure added | none => setAddHashedIn a x (knd.hash k) 99999) Q E s₁)
      (fun b s₁ Q₁ h => calm h b) ho hex hd (L1.off b) (full := !dm && (if b = true then t1 else { t1 with plain := false }).tooFull) fun h' sb r => wpAny_pure (fin h' sb r)
    split
    · rw [hashByValue_scannable 8 hx]
      exact wpAny_bind (wpAny_pure (step _))
    · exact wpAny_bind (wpAny_pure (step true))
end
end
end Moot
namespace Moot
open PySem PySem.Spec PyProof.Rows L2
section
variable {P : Program} {w : World} {T : Type} [DecidableEq T] {knd : KeyKind P w T} {A : Around} {E : Value → Shared → Prop} {s : Shared}
/-- the new set, empty -/
def setNew (w : World) : Obj := { cls := .type "set", dict := none, data := .set #[] 0 (.fresh 0 0 (!w.params.followText "set-order")) }
theorem setNew_stands (h : Heap) : Stands knd (h.push (setNew w)) h.objs.size (fun _ => false) 0 := by
  refine ⟨setNew w, #[], 0, _, Heap.get?_push_size _ rfl, ⟨rfl, rfl, rfl⟩, rfl, rfl, ?_⟩
  refine ⟨fun e m => by simp at m, fun k => by simp, by simp, by decide, rfl, List.Pairwise.nil, ?_⟩
  show _ ∨ (!w.params.followText "set-order") = true
  cases w.params.followText "set-order" <;> simp
/-- set.__new__(set, x) -/
theorem new_of (x : Value) {Q : Value → Shared → Prop} (q : Q (.ref s.heap.objs.size) { s with heap := s.heap.push (setNew w) }) :
    codeAny (model P w) A (.call (.builtin "set.__new__") ⟨[.type "set", x], []⟩) (wants Q E) s := by
  apply codeAny_of_tree
  show wpAny _ A.in1 (checkBuiltinCall "set.__new__" ⟨[.type "set", x], []⟩ >>= fun _ => again (.builtin "set.__new__" ⟨[.type "set", x], []⟩)) _ _ s
  apply wpAny_bind
  apply wpAny_of_eq (PySem.F.newCall_set_1 x)
  refine wpAny_pure ⟨plainId_quiet PySem.F.plain_set_new _, codeAny_builtin PySem.F.entry_set_new ?_⟩
  rw [Around.under_plainId PySem.F.plain_set_new _]
  unfold Builtin.«set.__new__» Builtin.Frozenset.newClass
  have self := sub_set_self
  rcases s with ⟨hp, gs, dr, tk, os⟩
  dsimp only at q ⊢
  wp_walk
  apply wpAny_askSetting
  apply wpAny_pure
  show wpAny _ _ (newObj (Value.type "set") (.set #[] 0 (SetTable.fresh 0 0 !w.params.followText "set-order"))) _ _ _
  unfold newObj
  exact wpAny_bind (wpAny_alloc (wpAny_pure (wpAny_pure q)))
/-- the same set in a heap that keeps it -/
theorem Stands.kept {h h' : Heap} {a : Addr} {S : T → Bool} {n : Nat} (R : Stands knd h a S n) (k : ∀ o, h.get? a = some o → h'.get? a = some o) : Stands knd h' a S n := by
  obtain ⟨o, es, ep, t, ho, r⟩ := R
  exact ⟨o, es, ep, t, k o ho, r⟩
theorem Stands.says {h : Heap} {a : Addr} {S S' : T → Bool} {n n' : Nat} (R : Stands knd h a S n) (e : ∀ k, S k = S' k) (en : n = n') : Stands knd h a S' n' := by
  have f : S = S' := funext e
  subst f en
  exact R
section
variable {R : Result → Shared → Prop} {I : Addr} {fp wr : List Addr} {G : Array GenState → Array GenState → Prop} {n : Nat} {Pv : Nat → Value → Prop} {St : Nat → Shared → Prop}
/-- each thing that an iterator yields goes into the set -/
theorem fill (W : WalksS P w A.in1 I fp wr G n Pv St) {a : Addr} (out : a ∉ fp) {xs : List T} (len : xs.length = n) (few : n + 1 < scanBound)
    (val : ∀ i v, Pv i v → ∃ k, xs[i]? = some k ∧ knd.is k v = true ∧ v.scannable = true) :
    ∀ (left i m : Nat) (s : Shared), i + left = n → m ≤ i → St i s → Stands knd s.heap a (fun k => decide (k ∈ xs.take i)) m →
      (∀ s' m', Moved (a :: wr) G s s' → m' ≤ n → Stands knd s'.heap a (fun k => decide (k ∈ xs)) m' → R (.ok (.ret .none)) s') →
      codeAny (model P w) A (.builtin "set.update.loop" ⟨[.ref a, .ref I], []⟩) R s := by
  have outw : a ∉ wr := fun h => out (W.sub _ h)
  have wider : ∀ b ∈ wr, b ∈ a :: wr := fun b h => List.mem_cons_of_mem _ h
  intro left
  induction left with
  | zero =>
    intro i m s e hm st X r
    obtain rfl : i = n := e
    apply codeAny_builtin PyProof.Rows.F.entry_set_update_loop
    rw [Around.under_plainId PyProof.Rows.F.plain_set_update_loop _]
    show wpAny _ A.in1 (pyNext (.ref I) >>= _) _ _ s
    apply wpAny_bind
    refine W.done s _ _ st fun s' mv => wpAny_pure ?_
    refine r s' m (mv.mono wider) hm ((X.kept fun o => mv.heap a o outw).says (fun k => ?_) rfl)
    rw [List.take_of_length_le (Nat.le_of_eq len)]
  | succ left ih =>
    intro i m s e hm st X r
    have lt : i < n := by omega
    apply codeAny_builtin PyProof.Rows.F.entry_set_update_loop
    rw [Around.under_plainId PyProof.Rows.F.plain_set_update_loop _]
    show wpAny _ A.in1 (pyNext (.ref I) >>= _) _ _ s
    apply wpAny_bind
    refine W.item i s _ _ lt st fun v s' pv st' mv => ?_
    obtain ⟨k, hk, isk, sc⟩ := val i v pv
    have X' := X.kept fun o => mv.heap a o outw
    show wpAny _ A.in1 (holding [v] (setAdd a v) >>= _) _ _ s'
    apply wpAny_bind
    apply wpAny_holding
    unfold setAdd
    apply wpAny_holding
    apply wpAny_bind
    apply knd.pyHash isk
    refine add_key (s := { s' with toks := s'.toks + 1 }) X' isk sc (by omega) fun h' sb Y => ?_
    have Z : Stands knd h' a (fun k => decide (k ∈ xs.take (i + 1))) (if decide (k ∈ xs.take i) = true then m else m + 1) := Y.says (fun j => by
      rw [List.take_add_one, hk]
      simp [List.mem_append]) rfl
    have hm' : (if decide (k ∈ xs.take i) = true then m else m + 1) ≤ i + 1 := by
      split <;> omega
    refine wpAny_pure ⟨plainId_quiet PyProof.Rows.F.plain_set_update_loop _, ?_⟩
    refine ih (i + 1) _ _ (by omega) hm' (W.frame _ s' _ _ st' (Nat.le_succ _) fun b hb o e => ?_) Z fun s'' m' mv' hm'' X'' => ?_
    · rw [sb.2 b fun c => out (c ▸ hb)]
      exact e
    · refine r s'' m' (Moved.trans W.gtrans ((mv.mono wider).then_heap (Nat.le_succ _) fun b o nb e => ?_) mv') hm'' X''
      rw [sb.2 b fun c => nb (c ▸ List.mem_cons_self)]
      exact e
end
end
end Moot
namespace Moot
open PySem PySem.Spec PyProof.Rows L2
section
variable {P : Program} {w : World} {T : Type} [DecidableEq T] {knd : KeyKind P w T} {A : Around} {E : Value → Shared → Prop} {s : Shared}
/-- what set(xs) leaves -/
def Filled (knd : KeyKind P w T) (xs : List T) (s s' : Shared) : Prop :=
  ∃ (h' : Heap) (tk m : Nat), s' = { s with heap := h', toks := tk } ∧ m ≤ xs.length ∧ Stands knd h' s.heap.objs.size (fun k => decide (k ∈ xs)) m ∧ ∀ b o, s.heap.get? b = some o → h'.get? b = some o
/-- set.__init__ of the new set, over a list -/
theorem init_list {l : Addr} {vs : List Value} {xs : List T} (calm : A.handled = none) (hl : s.heap.IsList l vs.toArray) (len : xs.length = vs.length) (few : vs.length + 1 < scanBound)
    (val : ∀ (i : Nat) v, vs[i]? = some v → ∃ k, xs[i]? = some k ∧ knd.is k v = true ∧ v.scannable = true) :
    codeAny (model P w) A (.call (.builtin "set.__init__") ⟨[.ref s.heap.objs.size, .ref l], []⟩) (wants (fun r s' => r = .none ∧ Filled knd xs s s') E) { s with heap := s.heap.push (setNew w) } := by
  have at0 : (s.heap.push (setNew w)).get? s.heap.objs.size = some (setNew w) := Heap.get?_push_size _ rfl
  have ty : Shared.TypeIs { s with heap := s.heap.push (setNew w) } (.ref s.heap.objs.size) "set" := ⟨_, at0, rfl⟩
  refine codeAny_call_builtin PySem.F.called_set.init.plain PySem.F.entry_set_init (check_set_init_1 ty ?_)
  have hl1 : (s.heap.push (setNew w)).IsList l vs.toArray := hl.push _
  have hlo := hl1
  obtain ⟨⟨oc, od, oda, osl⟩, ol, hc, nl, hda⟩ := hlo
  dsimp only at hc hda
  subst hc hda
  have n1 := PySem.F.sub_list_set
  have n2 := PySem.F.sub_list_frozenset
  have n3 : (Value.type "list" == Value.type "dict") = false := by decide
  unfold Builtin.«set.__init__» noKeywords Builtin.Frozenset.updateFrom
  generalize it : pyIter = iter
  wp_walk
  subst it
  apply wpAny_pyIter_list hl1
  apply wpAny_bind
  apply wpAny_runValue
  have size1 : (s.heap.push (setNew w)).objs.size = s.heap.objs.size + 1 := size_push' _ _
  have low : l < s.heap.objs.size := by
    obtain ⟨o, ho, _⟩ := hl
    exact Heap.lt_size ho
  have calm2 : A.in1.in1.handled = none := calm
  have ne : l ≠ (s.heap.push (setNew w)).objs.size := by
    rw [size1]
    exact Nat.ne_of_lt (Nat.lt_succ_of_lt low)
  have out : s.heap.objs.size ∉ [(s.heap.push (setNew w)).objs.size, l] := by
    rw [size1]
    intro m
    rcases List.mem_cons.mp m with c | c
    · exact Nat.ne_of_lt (Nat.lt_succ_self _) c
    · exact Nat.ne_of_gt low (List.mem_singleton.mp c)
  have walk := (Walks.list (prog := P) (w := w) calm2 _ l ne vs.toArray).toS
  refine fill (knd := knd) (xs := xs) walk out (by rw [len]; simp) (by simpa using few) (fun i v h => ?_) vs.toArray.size 0 0 _ (by simp) (Nat.le_refl _) ?_ ?_ fun s' m mv hm X => ?_
  · exact val i v (by simpa using h)
  · exact ⟨⟨_, Heap.get?_push_size _ rfl, rfl, rfl⟩, hl1.push _⟩
  · exact ((setNew_stands s.heap).kept fun o => Heap.get?_push_of_some _).says (fun k => by simp) rfl
  · apply wpAny_pure
    refine wpAny_pure ⟨rfl, s'.heap, s'.toks, m, ?_, by rw [len]; simpa using hm, X, fun b o e => ?_⟩
    · rcases s' with ⟨h', g', d', t', o'⟩
      obtain rfl : g' = s.gens := mv.gens
      obtain rfl : d' = s.drawn := mv.drawn
      obtain rfl : o' = s.os := mv.os
      rfl
    · have lt := Heap.lt_size e
      refine mv.heap b o (fun c => ?_) (Heap.get?_push_of_some _ (Heap.get?_push_of_some _ e))
      rcases List.mem_cons.mp c with c | c
      · exact Nat.ne_of_lt lt c
      · refine Nat.ne_of_lt (Nat.lt_succ_of_lt lt) (Eq.trans (List.mem_singleton.mp c) size1)
/-- set(xs) of a list -/
theorem set_list {l : Addr} {vs : List Value} {xs : List T} (calm : A.handled = none) (hl : s.heap.IsList l vs.toArray) (len : xs.length = vs.length) (few : vs.length + 1 < scanBound)
    (val : ∀ (i : Nat) v, vs[i]? = some v → ∃ k, xs[i]? = some k ∧ knd.is k v = true ∧ v.scannable = true) {Q : Value → Shared → Prop} (q : ∀ s', Filled knd xs s s' → Q (.ref s.heap.objs.size) s') :
    wpAny (model P w) A (call (.type "set") [.ref l]) Q E s := by
  obtain ⟨c, tl, mro⟩ := PySem.F.called_set.mro
  have made := PySem.F.called_set.made
  have sub := PySem.F.called_set.sub
  have f1 := PySem.F.called_set.notType
  have f2 := PySem.F.called_set.canCreate
  have f3 := PySem.F.typeCall_set_1 (.ref l)
  apply wpAny_call
  apply codeAny_of_tree
  show wpAny _ _ (callAny (.type "set") _) _ _ _
  refine wpAny_pure ⟨Code.quiet_builtin _ (by decide +kernel), ?_⟩
  apply codeAny_builtin PySem.F.entry_type_call
  rw [Around.under_plain (weight_type_call_type "set" [.ref l] []) rfl]
  repeat (any_goals (first | assumption | wp_step))
  refine codeAny_mono (new_of (.ref l) (E := E) (Q := fun x s₁ => x = .ref s.heap.objs.size ∧ s₁ = { s with heap := s.heap.push (setNew w) }) ⟨rfl, rfl⟩) ?_
  rintro (e | f) s₁ h
  · exact h
  · cases f with
    | ret x =>
      obtain ⟨rfl, rfl⟩ := h
      have ty : Shared.TypeIs { s with heap := s.heap.push (setNew w) } (.ref s.heap.objs.size) "set" := ⟨_, Heap.get?_push_size _ rfl, rfl⟩
      have g1 := PySem.F.called_set.init.lookup
      have g2 := PySem.F.called_set.init.bind (.ref s.heap.objs.size)
      repeat (any_goals (first | assumption | wp_step))
      refine codeAny_mono (init_list (A := A.in1) (E := E) (knd := knd) calm hl len few val) ?_
      rintro (e | f) s₂ h
      · exact h
      · cases f with
        | ret r =>
          obtain ⟨rfl, F⟩ := h
          exact wpAny_pure (wpAny_pure (q s₂ F))
        | _ => exact h.elim
    | _ => exact h.elim
end
end Moot
namespace Moot
open PySem PySem.Spec PyProof.Rows L2
section
variable {P : Program} {w : World} {A : Around} {E : Value → Shared → Prop} {s : Shared}
/-- the text of an entry -/
def txt (v : Value) : Str := match v with | .str x _ => x | _ => Str.empty
theorem txts_are : ∀ {vs : List Value}, (∀ v ∈ vs, ∃ x t, v = Value.str x t) → StrsAre vs (vs.map txt)
  | [], _ => .nil
  | v :: vs, h => by
    obtain ⟨x, t, rfl⟩ := h v List.mem_cons_self
    exact .cons x t (txts_are fun u m => h u (List.mem_cons_of_mem _ m))
theorem entry_txt {e : Int × Value} (h : ∃ k, (PySem.strKind P w).is k e.2 = true) : (∃ x t, e.2 = Value.str x t) ∧ (PySem.strKind P w).is (txt e.2) e.2 = true := by
  obtain ⟨k, i⟩ := h
  obtain ⟨t, q⟩ := Value.isStrOf_shape (x := k) i
  refine ⟨⟨k, t, q⟩, ?_⟩
  rw [q]
  exact strKind_is P w k t
/-- the texts of a set's entries -/
theorem Laid.txts {S : Str → Bool} {es : Array (Int × Value)} {t : SetTable} (L : Laid (PySem.strKind P w) S es t) :
    (∀ v ∈ es.toList.map (·.2), ∃ x t, v = Value.str x t) ∧ (es.toList.map fun e => txt e.2).Nodup ∧ ∀ k, k ∈ (es.toList.map fun e => txt e.2) ↔ S k = true := by
  have ok : ∀ e ∈ es.toList, (∃ x t, e.2 = Value.str x t) ∧ (PySem.strKind P w).is (txt e.2) e.2 = true := fun e m => by
    obtain ⟨⟨k, i, _⟩, _⟩ := L.el e m
    exact entry_txt ⟨k, i⟩
  refine ⟨fun v m => ?_, ?_, fun k => ?_⟩
  · obtain ⟨e, me, rfl⟩ := List.mem_map.mp m
    exact (ok e me).1
  · refine List.pairwise_map.mpr (List.Pairwise.imp_of_mem (fun {e f} me mf h c => ?_) L.one)
    refine h _ (ok e me).2 ?_
    rw [c]
    exact (ok f mf).2
  · rw [L.mem k, List.mem_map]
    constructor
    · rintro ⟨e, m, rfl⟩
      exact ⟨e, m, (ok e m).2⟩
    · rintro ⟨e, m, i⟩
      exact ⟨e, m, (PySem.strKind P w).inj e.2 _ _ (ok e m).2 i⟩
/-- sorted(a set of texts) -/
theorem sorted_txts {a : Addr} {S : Str → Bool} {n : Nat} {Q : Value → Shared → Prop} (R : Stands (PySem.strKind P w) s.heap a S n) (calm : A.handled = none) (few : n < 64)
    (q : ∀ s' p (out : Array Value) (c : Nat) (ys : List Str), (∀ b o, s.heap.get? b = some o → s'.heap.get? b = some o) → s'.gens = s.gens → s'.os = s.os → s.heap.objs.size ≤ p →
      s'.heap.get? p = some (seqObj "list" out c) → StrsAre out.toList ys → sortedS ys = true → ys.Nodup → (∀ k, k ∈ ys ↔ S k = true) → ys.length = n → Q (.ref p) s') :
    wpAny (model P w) A (call (.builtin "sorted") [.ref a]) Q E s := by
  obtain ⟨o, es, ep, t, ho, hex, hd, rfl, L⟩ := R
  obtain ⟨x1, x2, x3⟩ := L.txts
  apply Calls.call_function_entry kind_sorted plain_sorted entry_sorted (args_sorted1 _)
  unfold Builtin.«sorted»
  apply wpAny_bind (m := checkCount "sorted" 1 1 _)
  apply wpAny_pure
  apply wpAny_bind
  refine collect_set (A := A.in1) calm ⟨o, ho, hex.1, hd⟩ L.fit L.few L.ris L.led fun s1 vs kept grown same1 same2 pm => ?_
  have len : vs.length = es.size := by simpa using pm.length_eq
  have are : StrsAre vs (vs.map txt) := txts_are fun v m => x1 v (pm.mem_iff.mp m)
  have perm : (vs.map txt).Perm (es.toList.map fun e => txt e.2) := by
    have z := pm.map txt
    rwa [List.map_map] at z
  apply wpAny_bind
  refine wpAny_newList ?_ (by rw [len, sizeLine_eq]; omega)
  have here : (s1.heap.push (seqObj "list" vs.toArray 0)).get? s1.heap.objs.size = some (seqObj "list" vs.toArray 0) := Heap.get?_push_size _ rfl
  apply wpAny_bind
  apply wpAny_holding
  refine wpAny_call_entry slot_list_sort ⟨_, here, rfl⟩ entry_list_sort ?_ (args_list_sort _)
  refine list_sort_treeK strKind_oneLt here are.keysOf (fun v₁ v₂ rest e => keyKind_strs (by rw [← e]; exact are)) (by rw [len]; exact few) fun st a1 a2 => ⟨_, rfl, ?_⟩
  obtain ⟨ys, y1, y2, y3⟩ := sorted_out_str are a1 a2
  obtain ⟨c, at'⟩ := sortedHeap_at (vs := vs) (out := (arrOf st).map (·.2)) here
  have all := y2.trans perm
  refine wpAny_pure ⟨_, rfl, q _ s1.heap.objs.size _ c ys (fun b u e => ?_) same1 same2 grown at' y1 y3 (all.nodup_iff.mpr x2) (fun k => all.mem_iff.trans (x3 k)) ?_⟩
  · have z := kept b u e
    have lt := Heap.lt_size z
    show (sortedHeap (s1.heap.push (seqObj "list" vs.toArray 0)) s1.heap.objs.size vs _).get? b = some u
    rw [sortedHeap_old (Nat.ne_of_lt lt) (by rw [size_push']; exact Nat.lt_succ_of_lt lt)]
    exact Heap.get?_push_of_some _ z
  · simpa using all.length_eq
end
/-- the set of texts at a, as a thing of the abstract heap -/
def TxtSet (P : Program) (w : World) (a : Addr) (S : Str → Bool) (n : Nat) : HO := .ext fun h => Stands (PySem.strKind P w) h a S n
theorem txtSet_ok {P : Program} {w : World} {H : Hp} {h : Heap} {a : Addr} {S : Str → Bool} {n : Nat} (R : Stands (PySem.strKind P w) h a S n) : ObjOk P w H h a (TxtSet P w a S n) := by
  obtain ⟨o, _, _, _, ho, _⟩ := id R
  exact ⟨R, ⟨o, ho⟩, fun h1 h2 r k => r.kept k⟩
/-- set(zs), zs a list of fewer than 64 texts -/
def rTxtSet (K : PySem.W.Frag) (P : Program) (w : World) : List V → Hp → VK → Prop := fun vs H Q =>
  ∃ (l : Addr) (zs : List Str), vs = [V.ref l] ∧ SqL K H l (zs.map V.str) ∧ zs.length < 64 ∧ ∀ p m, H p = none → m ≤ zs.length → Q (.ref p) (upd H p (TxtSet P w p (fun k => decide (k ∈ zs)) m))
/-- sorted(S), S such a set -/
def rTxtSorted (P : Program) (w : World) : List V → Hp → VK → Prop := fun vs H Q =>
  ∃ (a : Addr) (S : Str → Bool) (n : Nat), vs = [V.ref a] ∧ H a = some (TxtSet P w a S n) ∧ n < 64 ∧
    ∀ (ys : List Str) (p : Addr), sortedS ys = true → ys.Nodup → (∀ k, k ∈ ys ↔ S k = true) → ys.length = n → H p = none → Q (.ref p) (upd H p (.lst (ys.map V.str)))
section
variable {X : Cx}
theorem cr_txtSet (calm : X.calm = true) : CallR X (.type "set") (rTxtSet X.K X.prog X.w) := by
  intro pins s σ H vs us Q I r h
  obtain ⟨l, zs, rfl, hl, few, q⟩ := h
  rw [Vals.ref1 r]
  obtain ⟨its, rel, pl, _⟩ := I.list hl
  have len : zs.length = its.length := by
    have z := rel.length
    rwa [List.length_map] at z
  refine set_list (knd := PySem.strKind X.prog X.w) (xs := zs) (I.ok.hd calm) pl.isList len (by unfold scanBound; omega) (fun i v e => ?_) fun s' F => ?_
  · have lt : i < zs.length := by
      rw [len]
      exact (List.getElem?_eq_some_iff.mp e).1
    obtain ⟨u, hu, t, rfl⟩ := rel.get (i := i) (x := .str zs[i]) (by simp [lt])
    cases Option.some.inj (e.symm.trans hu)
    exact ⟨zs[i], List.getElem?_eq_getElem lt, strKind_is _ _ _ _, rfl⟩
  · obtain ⟨h', tk, m, rfl, hm, R, kept⟩ := F
    exact ⟨.ref _, _, I.laid (t' := tk) kept (Nat.le_refl _) (txtSet_ok R), rfl, q _ m (I.hok.fresh (Nat.le_refl _)) hm⟩
theorem cr_txtSorted (calm : X.calm = true) : CallR X (.builtin "sorted") (rTxtSorted X.prog X.w) := by
  intro pins s σ H vs us Q I r h
  obtain ⟨a, S, n, rfl, ha, few, q⟩ := h
  have R : Stands (PySem.strKind X.prog X.w) s.heap a S n := (I.hok a _ ha).1
  rw [Vals.ref1 r]
  refine sorted_txts R (I.ok.hd calm) few fun s' p out c ys kept e1 e2 hp here are srt nd mem len => ?_
  have fits : (ys.map V.str).length ≤ sizeLine := by
    rw [List.length_map, len]
    exact small64 few
  have free : H p = none := I.hok.fresh hp
  have J : Inv X pins σ (upd H p (.lst (ys.map V.str))) { s with heap := s'.heap, gens := s'.gens, drawn := s'.drawn, toks := s'.toks } :=
    I.call (ch := []) (Un.laid kept hp free) (I.hok.laid kept hp ⟨fits, out.toList, c, vals_of_strs are, here⟩) (by rw [e1]; exact I.bare) fun _ z => nomatch z
  have same : s' = { s with heap := s'.heap, gens := s'.gens, drawn := s'.drawn, toks := s'.toks } := by
    rcases s' with ⟨h', g', d', t', o'⟩
    cases e2
    rfl
  rw [same]
  exact ⟨.ref p, _, J, rfl, q ys p srt nd mem len free⟩
end
end Moot
namespace Moot
open PySem PySem.Spec PyProof.Rows L2
section
variable {P : Program} {w : World} {T : Type} [DecidableEq T] {knd : KeyKind P w T} {A : Around} {E : Value → Shared → Prop} {s : Shared}
/-- set.__init__ of the new set, over a tuple -/
theorem init_tuple {l : Addr} {vs : List Value} {xs : List T} (calm : A.handled = none) (hl : s.heap.IsTuple l vs.toArray) (len : xs.length = vs.length) (few : vs.length + 1 < scanBound)
    (val : ∀ (i : Nat) v, vs[i]? = some v → ∃ k, xs[i]? = some k ∧ knd.is k v = true ∧ v.scannable = true) :
    codeAny (model P w) A (.call (.builtin "set.__init__") ⟨[.ref s.heap.objs.size, .ref l], []⟩) (wants (fun r s' => r = .none ∧ Filled knd xs s s') E) { s with heap := s.heap.push (setNew w) } := by
  have at0 : (s.heap.push (setNew w)).get? s.heap.objs.size = some (setNew w) := Heap.get?_push_size _ rfl
  have ty : Shared.TypeIs { s with heap := s.heap.push (setNew w) } (.ref s.heap.objs.size) "set" := ⟨_, at0, rfl⟩
  refine codeAny_call_builtin PySem.F.called_set.init.plain PySem.F.entry_set_init (check_set_init_1 ty ?_)
  have hl1 : (s.heap.push (setNew w)).IsTuple l vs.toArray := hl.push _
  have hlo := hl1
  obtain ⟨⟨oc, od, oda, osl⟩, ol, hc, nl, hda⟩ := hlo
  dsimp only at hc hda
  subst hc hda
  have n1 := PySem.F.sub_tuple_set
  have n2 := PySem.F.sub_tuple_frozenset
  have n3 : (Value.type "tuple" == Value.type "dict") = false := by decide
  unfold Builtin.«set.__init__» noKeywords Builtin.Frozenset.updateFrom
  generalize it : pyIter = iter
  wp_walk
  subst it
  apply wpAny_pyIter_tuple hl1
  apply wpAny_bind
  apply wpAny_runValue
  have size1 : (s.heap.push (setNew w)).objs.size = s.heap.objs.size + 1 := size_push' _ _
  have low : l < s.heap.objs.size := by
    obtain ⟨o, ho, _⟩ := hl
    exact Heap.lt_size ho
  have calm2 : A.in1.in1.handled = none := calm
  have ne : l ≠ (s.heap.push (setNew w)).objs.size := by
    rw [size1]
    exact Nat.ne_of_lt (Nat.lt_succ_of_lt low)
  have out : s.heap.objs.size ∉ [(s.heap.push (setNew w)).objs.size, l] := by
    rw [size1]
    intro m
    rcases List.mem_cons.mp m with c | c
    · exact Nat.ne_of_lt (Nat.lt_succ_self _) c
    · exact Nat.ne_of_gt low (List.mem_singleton.mp c)
  have walk := (Walks.tuple (prog := P) (w := w) calm2 _ l ne vs.toArray).toS
  refine fill (knd := knd) (xs := xs) walk out (by rw [len]; simp) (by simpa using few) (fun i v h => ?_) vs.toArray.size 0 0 _ (by simp) (Nat.le_refl _) ?_ ?_ fun s' m mv hm X => ?_
  · exact val i v (by simpa using h)
  · exact ⟨⟨_, Heap.get?_push_size _ rfl, rfl, rfl⟩, hl1.push _⟩
  · exact ((setNew_stands s.heap).kept fun o => Heap.get?_push_of_some _).says (fun k => by simp) rfl
  · apply wpAny_pure
    refine wpAny_pure ⟨rfl, s'.heap, s'.toks, m, ?_, by rw [len]; simpa using hm, X, fun b o e => ?_⟩
    · rcases s' with ⟨h', g', d', t', o'⟩
      obtain rfl : g' = s.gens := mv.gens
      obtain rfl : d' = s.drawn := mv.drawn
      obtain rfl : o' = s.os := mv.os
      rfl
    · have lt := Heap.lt_size e
      refine mv.heap b o (fun c => ?_) (Heap.get?_push_of_some _ (Heap.get?_push_of_some _ e))
      rcases List.mem_cons.mp c with c | c
      · exact Nat.ne_of_lt lt c
      · refine Nat.ne_of_lt (Nat.lt_succ_of_lt lt) (Eq.trans (List.mem_singleton.mp c) size1)
/-- set(xs) of a tuple -/
theorem set_tuple {l : Addr} {vs : List Value} {xs : List T} (calm : A.handled = none) (hl : s.heap.IsTuple l vs.toArray) (len : xs.length = vs.length) (few : vs.length + 1 < scanBound)
    (val : ∀ (i : Nat) v, vs[i]? = some v → ∃ k, xs[i]? = some k ∧ knd.is k v = true ∧ v.scannable = true) {Q : Value → Shared → Prop} (q : ∀ s', Filled knd xs s s' → Q (.ref s.heap.objs.size) s') :
    wpAny (model P w) A (call (.type "set") [.ref l]) Q E s := by
  obtain ⟨c, tl, mro⟩ := PySem.F.called_set.mro
  have made := PySem.F.called_set.made
  have sub := PySem.F.called_set.sub
  have f1 := PySem.F.called_set.notType
  have f2 := PySem.F.called_set.canCreate
  have f3 := PySem.F.typeCall_set_1 (.ref l)
  apply wpAny_call
  apply codeAny_of_tree
  show wpAny _ _ (callAny (.type "set") _) _ _ _
  refine wpAny_pure ⟨Code.quiet_builtin _ (by decide +kernel), ?_⟩
  apply codeAny_builtin PySem.F.entry_type_call
  rw [Around.under_plain (weight_type_call_type "set" [.ref l] []) rfl]
  repeat (any_goals (first | assumption | wp_step))
  refine codeAny_mono (new_of (.ref l) (E := E) (Q := fun x s₁ => x = .ref s.heap.objs.size ∧ s₁ = { s with heap := s.heap.push (setNew w) }) ⟨rfl, rfl⟩) ?_
  rintro (e | f) s₁ h
  · exact h
  · cases f with
    | ret x =>
      obtain ⟨rfl, rfl⟩ := h
      have ty : Shared.TypeIs { s with heap := s.heap.push (setNew w) } (.ref s.heap.objs.size) "set" := ⟨_, Heap.get?_push_size _ rfl, rfl⟩
      have g1 := PySem.F.called_set.init.lookup
      have g2 := PySem.F.called_set.init.bind (.ref s.heap.objs.size)
      repeat (any_goals (first | assumption | wp_step))
      refine codeAny_mono (init_tuple (A := A.in1) (E := E) (knd := knd) calm hl len few val) ?_
      rintro (e | f) s₂ h
      · exact h
      · cases f with
        | ret r =>
          obtain ⟨rfl, F⟩ := h
          exact wpAny_pure (wpAny_pure (q s₂ F))
        | _ => exact h.elim
    | _ => exact h.elim
end
/-- a set holds as many as there are -/
theorem Stands.least {P : Program} {w : World} {T : Type} [DecidableEq T] {knd : KeyKind P w T} {h : Heap} {a : Addr} {S : T → Bool} {n : Nat} (R : Stands knd h a S n) {xs : List T} (nd : xs.Nodup) (all : ∀ k ∈ xs, S k = true) : xs.length ≤ n := by
  obtain ⟨o, es, ep, t, _, _, _, rfl, L⟩ := R
  have pig : ∀ (l : List T) (D : List (Int × Value)), l.Nodup → (∀ k ∈ l, ∃ e ∈ D, knd.is k e.2 = true) → l.length ≤ D.length := by
    intro l
    induction l with
    | nil => intros; exact Nat.zero_le _
    | cons k l ih =>
      intro D nd hD
      obtain ⟨n1, n2⟩ := List.nodup_cons.mp nd
      obtain ⟨e, me, ie⟩ := hD k List.mem_cons_self
      obtain ⟨D1, D2, rfl⟩ := List.append_of_mem me
      have := ih (D1 ++ D2) n2 fun k' mk' => by
        obtain ⟨e', me', ie'⟩ := hD k' (List.mem_cons_of_mem _ mk')
        rcases List.mem_append.mp me' with z | z
        · exact ⟨e', List.mem_append_left _ z, ie'⟩
        · rcases List.mem_cons.mp z with rfl | z
          · exact absurd (knd.inj _ _ _ ie' ie ▸ mk') n1
          · exact ⟨e', List.mem_append_right _ z, ie'⟩
      rw [List.length_append] at this
      rw [List.length_cons, List.length_append, List.length_cons]
      omega
  have := pig xs es.toList nd fun k mk => (L.mem k).mp (all k mk)
  simpa using this
/-- set(zs), zs a list or a tuple of fewer than 64 texts -/
def rTxtSetA (K : PySem.W.Frag) (P : Program) (w : World) : List V → Hp → VK → Prop := fun vs H Q =>
  ∃ (l : Addr) (zs : List Str), vs = [V.ref l] ∧ (SqL K H l (zs.map V.str) ∨ SqT K H l (zs.map V.str)) ∧ zs.length < 64 ∧ ∀ p m, H p = none → m ≤ zs.length → Q (.ref p) (upd H p (TxtSet P w p (fun k => decide (k ∈ zs)) m))
/-- len(S), S such a set -/
def rTxtLen (P : Program) (w : World) : List V → Hp → VK → Prop := fun vs H Q =>
  ∃ (a : Addr) (S : Str → Bool) (n : Nat), vs = [V.ref a] ∧ H a = some (TxtSet P w a S n) ∧ n < 1000 ∧ ((∀ xs : List Str, xs.Nodup → (∀ k ∈ xs, S k = true) → xs.length ≤ n) → Q (.int (n : Int)) H)
section
variable {X : Cx}
theorem cr_txtSetA (calm : X.calm = true) : CallR X (.type "set") (rTxtSetA X.K X.prog X.w) := by
  intro pins s σ H vs us Q I r h
  obtain ⟨l, zs, rfl, hl, few, q⟩ := h
  rcases hl with hl | hl
  · exact cr_txtSet calm pins s σ H _ us Q I r ⟨l, zs, rfl, hl, few, q⟩
  · rw [Vals.ref1 r]
    obtain ⟨its, rel, pl, _⟩ := I.tuple hl
    have len : zs.length = its.length := by
      have z := rel.length
      rwa [List.length_map] at z
    refine set_tuple (knd := PySem.strKind X.prog X.w) (xs := zs) (I.ok.hd calm) pl len (by unfold scanBound; omega) (fun i v e => ?_) fun s' F => ?_
    · have lt : i < zs.length := by
        rw [len]
        exact (List.getElem?_eq_some_iff.mp e).1
      obtain ⟨u, hu, t, rfl⟩ := rel.get (i := i) (x := .str zs[i]) (by simp [lt])
      cases Option.some.inj (e.symm.trans hu)
      exact ⟨zs[i], List.getElem?_eq_getElem lt, strKind_is _ _ _ _, rfl⟩
    · obtain ⟨h', tk, m, rfl, hm, R, kept⟩ := F
      exact ⟨.ref _, _, I.laid (t' := tk) kept (Nat.le_refl _) (txtSet_ok R), rfl, q _ m (I.hok.fresh (Nat.le_refl _)) hm⟩
theorem cr_txtLen : CallR X (.builtin "len") (rTxtLen X.prog X.w) := by
  intro pins s σ H vs us Q I r h
  obtain ⟨a, S, n, rfl, ha, few, q⟩ := h
  have R : Stands (PySem.strKind X.prog X.w) s.heap a S n := (I.hok a _ ha).1
  have le := fun xs nd all => R.least (xs := xs) nd all
  rw [Vals.ref1 r]
  obtain ⟨o, es, ep, t, ho, hex, hd, rfl, L⟩ := R
  exact call_len_set ho hex hd L.fit (by omega) ⟨.int _, H, I.tok _, ⟨_, rfl⟩, q le⟩
end
end Moot
namespace Moot
open PySem PySem.Spec PyProof.Rows L2
def top (i : Nat) : Stmt := PySem.Challenge.pw_oathmoot_k35_majority_networks_tolerate.main.body.getD i (.Pass ⟨0, 0, 0, 0⟩)
/-! the box of drawn numbers -/
structure Box (H : Hp) (b g m : Addr) (n : Nat) : Prop where
  ex : ∃ (x k : Int) (gs ms : List Int), H b = some (.lst [.ref g, .int x, .ref m, .int k]) ∧ H g = some (.lst (gs.map V.int)) ∧ H m = some (.lst (ms.map V.int)) ∧ 0 ≤ k ∧ k ≤ n ∧ gs.length ≤ 63 ∧ ms.length ≤ 63
  bg : b ≠ g
  bm : b ≠ m
  gm : g ≠ m
/-- all but the box's own cells stays -/
def Keep (b g : Addr) (H H' : Hp) : Prop := ∀ c o, H c = some o → c ≠ b → c ≠ g → H' c = some o
theorem same_new {H : Hp} {p : Addr} {o : HO} (h : H p = none) : Same H (upd H p o) := fun b x e => by
  rw [upd_ne (ne_of_none e h)]
  exact e
theorem Keep.refl (b g : Addr) (H : Hp) : Keep b g H H := fun _ _ e _ _ => e
theorem Keep.trans {b g : Addr} {H H1 H2 : Hp} (k : Keep b g H H1) (l : Keep b g H1 H2) : Keep b g H H2 := fun c o e n1 n2 => l c o (k c o e n1 n2) n1 n2
theorem Same.keep {b g : Addr} {H H' : Hp} (s : Same H H') : Keep b g H H' := fun c o e _ _ => s c o e
theorem Box.same {H H' : Hp} {b g m : Addr} {n : Nat} (B : Box H b g m n) (s : Same H H') : Box H' b g m n := by
  obtain ⟨⟨x, k, gs, ms, h1, h2, h3, r⟩, n1, n2, n3⟩ := B
  exact ⟨⟨x, k, gs, ms, s _ _ h1, s _ _ h2, s _ _ h3, r⟩, n1, n2, n3⟩
theorem Box.more {H : Hp} {b g m : Addr} {n n' : Nat} (B : Box H b g m n) (h : n ≤ n') : Box H b g m n' := by
  obtain ⟨⟨x, k, gs, ms, h1, h2, h3, h4, h5, r⟩, n1, n2, n3⟩ := B
  exact ⟨⟨x, k, gs, ms, h1, h2, h3, h4, by omega, r⟩, n1, n2, n3⟩
/-- a store elsewhere -/
theorem Box.store {H : Hp} {b g m p : Addr} {n : Nat} {o : HO} (B : Box H b g m n) (p1 : p ≠ b) (p2 : p ≠ g) (p3 : p ≠ m) : Box (upd H p o) b g m n := by
  obtain ⟨⟨x, k, gs, ms, h1, h2, h3, r⟩, n1, n2, n3⟩ := B
  exact ⟨⟨x, k, gs, ms, by rw [upd_ne p1.symm]; exact h1, by rw [upd_ne p2.symm]; exact h2, by rw [upd_ne p3.symm]; exact h3, r⟩, n1, n2, n3⟩
theorem Box.b_in {H : Hp} {b g m : Addr} {n : Nat} (B : Box H b g m n) : ∃ o, H b = some o := let ⟨_, _, _, _, h, _⟩ := B.ex; ⟨_, h⟩
theorem Box.g_in {H : Hp} {b g m : Addr} {n : Nat} (B : Box H b g m n) : ∃ o, H g = some o := let ⟨_, _, _, _, _, h, _⟩ := B.ex; ⟨_, h⟩
theorem Box.m_in {H : Hp} {b g m : Addr} {n : Nat} (B : Box H b g m n) : ∃ o, H m = some o := let ⟨_, _, _, _, _, _, h, _⟩ := B.ex; ⟨_, h⟩
/-- an int at a place in bounds -/
theorem int_at (l : List Int) {i : Int} (h0 : 0 ≤ i) (h1 : i < l.length) : ∃ z : Int, atI (l.map V.int) i = some (.int z) := by
  obtain ⟨j, rfl⟩ := Int.eq_ofNat_of_zero_le h0
  have lt : j < l.length := by omega
  exact ⟨l[j], atI_nat (by rw [List.getElem?_map, List.getElem?_eq_getElem lt]; rfl)⟩
section
variable {P : Program} {w : World} {K : PySem.W.Frag} {mg : Str → Option Value} {base : Heap}
/-! _law_box -/
abbrev sBox : Stmt := top 56
abbrev nBox : List Str := ["_law_script", "_law_great", "_law_cell"]
theorem scBox : FnScope nBox ["_law_script"] (defScope sBox) := ⟨rfl, rfl, rfl, by decide +kernel, rfl, by decide +kernel, by decide +kernel⟩
def spBox (K : PySem.W.Frag) : Sp := fun vs H Q _ => ∃ (a : Addr) (ns : List Int), vs = [.ref a] ∧ SqL K H a (ns.map V.int) ∧ ns.length ≤ 63 ∧
  ∀ H' b g m, Same H H' → Box H' b g m 0 → Q (.ref b) H'
/-- some ints, no more than there were -/
def Ints (H : Hp) (p : Addr) (n : Nat) : Prop := ∃ ns : List Int, H p = some (.lst (ns.map V.int)) ∧ ns.length ≤ n
theorem ok_box {f : Addr} {fd : FuncData} {k : Nat} (F : Fun K "_law_box" "_law_box" sBox f fd) : FnOk P w K mg base CX0 (k + 1) f fd ["_law_script"] (spBox K) := by
  refine F.ok scBox (fun vs H Q E h => ?_) (fun cdv A outer s H vs Q E hr h => ?_)
  · obtain ⟨a, ns, rfl, _⟩ := h
    rfl
  · obtain ⟨a, ns, rfl, hS, len, q⟩ := h
    refine ⟨_, pss_cons (ps_setLc (i := 1) (own := [("_law_cell", 2)]) (g := gName 2) (by rfl) scBox.nd rfl rfl (sw_true rfl rfl rfl (by decide +kernel)) (pi_list (pv 0)) (blkOk_by (N := nBox) (sc := defScope sBox) (by decide +kernel))
        (fun _ _ _ _ _ => pg_name (i := 2) scBox.nd rfl (Or.inl rfl)) (fun _ _ _ _ _ => pts_one (pt_cmpR op_ge (pv 2) (pe_op op_pow pe_int pe_int) (nomark _))) (fun _ _ _ _ _ => pv 2))
      (pss_one (ps_ret (pe_lst (pa_cons (pv 1) (pa_cons pe_int (pa_cons
        (pe_lc (own := [("_law_cell", 2)]) (g := gName 2) (by rfl) scBox.nd (pi_list (pv 0)) (blkOk_by (N := nBox) (sc := defScope sBox) (by decide +kernel))
          (fun _ _ _ _ _ => pg_name (i := 2) scBox.nd rfl (Or.inl rfl)) (fun _ _ _ _ _ => pts_one (pt_cmpR op_lt (pv 2) (pe_op op_pow pe_int pe_int) (nomark _))) (fun _ _ _ _ _ => pv 2))
        (pa_cons pe_int pa_nil))))))), ?_⟩
    have item : ∀ (i : Nat) (x : V), (ns.map V.int)[i]? = some x → ∃ z, x = V.int z := fun i x e => by
      rw [List.getElem?_map] at e
      obtain ⟨z, _, rfl⟩ := Option.map_eq_some_iff.mp e
      exact ⟨z, rfl⟩
    have pow : CPow 10 18 := ⟨by decide, by decide, by decide⟩
    have small : ∀ {l : List Int} {i : Nat}, l.length ≤ i → i < ns.length → (l.map V.int).length < sizeLine := fun h1 h2 => by
      rw [List.length_map]
      exact small1000 (by omega)
    refine ⟨.ref a, rfl, a, rfl, ⟨_, hS⟩, fun D nD => lc_list (K := K) (a := a) (xs := ns.map V.int) (fun i H1 => Same H H1 ∧ ∃ gs : List Int, H1 D = some (.lst (gs.map V.int)) ∧ gs.length ≤ i) ?_ (fun i H1 _ h => Same.seq h.1 hS) ?_ ?_⟩
    · exact ⟨same_new nD, [], upd_same, Nat.le_refl _⟩
    · rintro i x H1 hx ⟨s1, gs, hD, hl⟩
      have hi : i < ns.length := by
        have := (List.getElem?_eq_some_iff.mp hx).1
        rwa [List.length_map] at this
      obtain ⟨z, rfl⟩ := item i x hx
      refine ⟨rfl, .int z, rfl, 10, 18, rfl, rfl, pow, _, _, rfl, rfl, _, rfl, ite2 (fun _ => ?_) (fun _ => ?_)⟩
      · refine ⟨.int z, rfl, _, hD, small hl hi, fun c o e => ?_, gs ++ [z], ?_, ?_⟩
        · rw [upd_ne (ne_of_none e nD)]
          exact s1 c o e
        · rw [upd_same, List.map_append]
          rfl
        · rw [List.length_append]
          exact Nat.succ_le_succ hl
      · exact ⟨s1, gs, hD, Nat.le_succ_of_le hl⟩
    · rintro H1 ⟨s1, gs, hD, hl⟩
      rw [List.length_map] at hl
      have hS1 : SqL K H1 a (ns.map V.int) := Same.seq s1 hS
      refine ⟨.ref D, rfl, .ref a, rfl, a, rfl, ⟨_, hS1⟩, fun D2 nD2 => lc_list (K := K) (a := a) (xs := ns.map V.int) (fun i H2 => Same H1 H2 ∧ ∃ ms : List Int, H2 D2 = some (.lst (ms.map V.int)) ∧ ms.length ≤ i) ?_ (fun i H2 _ h => Same.seq h.1 hS1) ?_ ?_⟩
      · exact ⟨same_new nD2, [], upd_same, Nat.le_refl _⟩
      · rintro i x H2 hx ⟨s2, ms, hD2, hl2⟩
        have hi : i < ns.length := by
          have := (List.getElem?_eq_some_iff.mp hx).1
          rwa [List.length_map] at this
        obtain ⟨z, rfl⟩ := item i x hx
        refine ⟨rfl, .int z, rfl, 10, 18, rfl, rfl, pow, _, _, rfl, rfl, _, rfl, ite2 (fun _ => ?_) (fun _ => ?_)⟩
        · refine ⟨.int z, rfl, _, hD2, small hl2 hi, fun c o e => ?_, ms ++ [z], ?_, ?_⟩
          · rw [upd_ne (ne_of_none e nD2)]
            exact s2 c o e
          · rw [upd_same, List.map_append]
            rfl
          · rw [List.length_append]
            exact Nat.succ_le_succ hl2
        · exact ⟨s2, ms, hD2, Nat.le_succ_of_le hl2⟩
      · rintro H2 ⟨s2, ms, hD2, hl2⟩
        rw [List.length_map] at hl2
        refine ⟨by show 4 ≤ sizeLine; decide, fun b nb => ?_⟩
        have nD' : H2 D = some (.lst (gs.map V.int)) := s2 _ _ hD
        have ne : D ≠ D2 := ne_of_none hD nD2
        have e1 : D ≠ b := ne_of_none nD' nb
        have e2 : D2 ≠ b := ne_of_none hD2 nb
        refine q _ b D D2 ((s1.trans s2).trans (same_new nb)) ⟨⟨0, 0, gs, ms, upd_same, ?_, ?_, Int.le_refl _, Int.le_refl _, by omega, by omega⟩, e1.symm, e2.symm, ne⟩
        · rw [upd_ne e1]
          exact nD'
        · rw [upd_ne e2]
          exact hD2
/-! _law_mixed -/
abbrev sMixed : Stmt := top 57
abbrev nMixed : List Str := ["_law_cell", "_law_k", "_law_whole"]
theorem scMixed : FnScope nMixed ["_law_cell", "_law_k"] (defScope sMixed) := ⟨rfl, rfl, rfl, by decide +kernel, rfl, by decide +kernel, by decide +kernel⟩
def spMixed : Sp := fun vs H Q _ => ∃ c k : Int, vs = [.int c, .int k] ∧ 0 ≤ k ∧ k ≤ 10000000 ∧ ∀ v : Int, Q (.int v) H
theorem ok_mixed {f : Addr} {fd : FuncData} {k : Nat} (F : Fun K "_law_mixed" "_law_mixed" sMixed f fd) : FnOk P w K mg base CX0 (k + 1) f fd ["_law_cell", "_law_k"] spMixed := by
  refine F.ok scMixed (fun vs H Q E h => ?_) (fun cdv A outer s H vs Q E hr h => ?_)
  · obtain ⟨c, k, rfl, _⟩ := h
    rfl
  · obtain ⟨c, k, rfl, k0, k1, q⟩ := h
    refine ⟨_, pss_cons (ps_set (i := 2) scMixed.nd rfl (Or.inl rfl) (pe_op op_mod (pe_op op_pow
        (pe_op op_add (pe_op op_add (pe_op op_add (pe_op op_mod (pv 0) pe_int) (pe_op op_mul (pe_op op_mul pe_int (pv 1)) (pv 1))) (pe_op op_mul pe_int (pv 1))) pe_int) pe_int) pe_int))
      (pss_one (ps_ret (pe_op op_mod (pe_op op_add (pe_op op_mul (pv 2) pe_int) (pe_op op_mul pe_int (pv 1))) pe_int))), ?_⟩
    have m0 : 0 ≤ c % 2147483647 := Int.emod_nonneg _ (by decide)
    have m1 : c % 2147483647 < 2147483647 := Int.emod_lt_of_pos _ (by decide)
    have sq : 0 ≤ k * k ∧ k * k ≤ 10000000 * 10000000 := ⟨Int.mul_nonneg k0 k0, Int.mul_le_mul k1 k1 k0 (by decide)⟩
    have e : 1009 * k * k = 1009 * (k * k) := Int.mul_assoc _ _ _
    have big : (c % 2147483647 + 1009 * k * k + 48611 * k + 17).natAbs < 2 ^ 64 := by
      rw [e]
      omega
    refine ⟨_, rfl, _, _, rfl, rfl, (by show (0 : Int) < 2147483647; decide), _, rfl, _, _, rfl, rfl, .inl ⟨by decide, by decide⟩, _, rfl, _, _, rfl, rfl, .inr ⟨by omega, by omega⟩, _, _, rfl, rfl, _, rfl, _, _, rfl, rfl, .inl ⟨by decide, by decide⟩, _, _, rfl, rfl, _, _, rfl, rfl,
      _, _, rfl, rfl, ⟨by decide, by decide, big⟩, _, _, rfl, rfl, (by show (0 : Int) < 2147483647; decide), ?_⟩
    refine ⟨_, rfl, _, _, rfl, rfl, .inr ⟨by decide, by decide⟩, _, rfl, _, _, rfl, rfl, .inl ⟨by decide, by decide⟩, _, _, rfl, rfl, _, _, rfl, rfl, (by show (0 : Int) < 1000000007; decide), ?_⟩
    exact q _
/-! _law_take -/
abbrev sTake : Stmt := top 58
abbrev nTake : List Str := ["_law_box_here", "_law_size", "_law_found", "_law_cell", "_law_reach"]
theorem scTake : FnScope nTake ["_law_box_here", "_law_size"] (defScope sTake) := ⟨rfl, rfl, rfl, by decide +kernel, rfl, by decide +kernel, by decide +kernel⟩
/-- a drawn number below size; the box is a box again -/
def spTake : Sp := fun vs H Q _ => ∃ (b g m : Addr) (n : Nat) (size : Int), vs = [.ref b, .int size] ∧ Box H b g m n ∧ n ≤ 1000000 ∧ 1 ≤ size ∧ size ≤ 1000 ∧
  ∀ (v : Int) (H' : Hp), 0 ≤ v → v < size → Box H' b g m (n + 1) → Keep b g H H' → Q (.int v) H'
theorem ok_take {f fM : Addr} {fd fdM : FuncData} {k : Nat} (F : Fun K "_law_take" "_law_take" sTake f fd) (FM : Fun K "_law_mixed" "_law_mixed" sMixed fM fdM) (bM : Binds K fdM ["_law_cell", "_law_k"] []) (gM : mg "_law_mixed" = some (.ref fM))
    (ml : mg "len" = none) (mx : mg "max" = none) : FnOk P w K mg base CX0 (k + 2) f fd ["_law_box_here", "_law_size"] spTake := by
  have GM : FnOk P w K mg base CX0 (k + 1) fM fdM ["_law_cell", "_law_k"] spMixed := ok_mixed FM
  refine F.ok scTake (fun vs H Q E h => ?_) (fun cdv A outer s H vs Q E hr h => ?_)
  · obtain ⟨b, g, m, n, size, rfl, _⟩ := h
    rfl
  · obtain ⟨b, g, m, n, size, rfl, B, hn, s1, s2, q⟩ := h
    refine ⟨_, pss_cons (ps_asg (pe_op op_add (pe_ix ix_list (pv 0) pe_int (fun _ _ => rfl)) pe_int) (pg_sub (pv 0) pe_int L2.set_list))
      (C8.pss_cut (ps_if (PW.pt (pw_and (pt_cmpR op_eq (pe_ix ix_list (pv 0) pe_int (fun _ _ => rfl)) pe_int (nomark _))
          (pw_and1 (pt_cmpR op_gt (pe_callB call_len_seq (by rfl) ml PySem.boot_len (pa_cons (pe_ix ix_list (pv 0) pe_int (fun _ _ => rfl)) pa_nil)) pe_int (nomark _)))))
        (pss_one (ps_asg (pe_bm PySem.F.plainAttrs_list PySem.F.slot_list_pop PySem.F.type_list_pop mt_popAt (pe_ix ix_list (pv 0) pe_int (fun _ _ => rfl)) (pa_cons pe_int pa_nil)) (pg_sub (pv 0) pe_int L2.set_list))) pss_nil)
      (pss_cons (ps_if (pt_cmpR op_gt (pe_ix ix_list (pv 0) pe_int (fun _ _ => rfl)) pe_int (nomark _))
        (pss_cons (ps_set (i := 2) scTake.nd rfl (Or.inl rfl) (pe_op op_mod (pe_ix ix_list (pv 0) pe_int (fun _ _ => rfl)) (pv 1)))
        (pss_cons (ps_asg (pe_op op_fdiv (pe_ix ix_list (pv 0) pe_int (fun _ _ => rfl)) (pv 1)) (pg_sub (pv 0) pe_int L2.set_list))
        (pss_one (ps_ret (pv 2))))) pss_nil)
      (pss_cons (ps_set (i := 3) scTake.nd rfl (Or.inl rfl) (pe_ix ix_list (pe_op op_cat (pe_ix ix_list (pv 0) pe_int (fun _ _ => rfl)) (pe_lst (pa_cons (pe_op op_mul pe_int (pe_ix ix_list (pv 0) pe_int (fun _ _ => rfl))) pa_nil)))
          (pe_op op_mod (pe_ix ix_list (pv 0) pe_int (fun _ _ => rfl)) (pe_callB (call_max2 rfl) (by rfl) mx (by decide +kernel) (pa_cons pe_int (pa_cons (pe_callB call_len_seq (by rfl) ml PySem.boot_len (pa_cons (pe_ix ix_list (pv 0) pe_int (fun _ _ => rfl)) pa_nil)) pa_nil)))) (fun _ _ => rfl)))
      (pss_cons (ps_set (i := 2) scTake.nd rfl (Or.inl rfl) pe_int)
      (pss_cons (ps_set (i := 4) scTake.nd rfl (Or.inl rfl) pe_int)
      (pss_cons (ps_while PassesOwn.never (pt_cmpR op_lt (pv 4) (pv 1) (nomark _))
        (pss_cons (ps_set (i := 2) scTake.nd rfl (Or.inl rfl) (pe_op op_add (pe_op op_mul (pv 2) pe_int) (pe_call GM hr (by rfl) gM FM.kp bM .nil pass0 (pa_cons (pv 3) (pa_cons (pe_op op_add (pe_ix ix_list (pv 0) pe_int (fun _ _ => rfl)) (pe_op op_mul pe_int (pe_op op_mod (pv 2) pe_int))) pa_nil)))))
        (pss_one (ps_set (i := 4) scTake.nd rfl (Or.inl rfl) (pe_op op_mul (pv 4) pe_int)))))
      (pss_one (ps_ret (pe_op op_mod (pv 2) (pv 1)))))))))), ?_⟩
    obtain ⟨⟨x, c, gs, ms, hb, hg, hm, c0, c1, gl, mlen⟩, bg, bm, gm⟩ := id B
    -- box[3] = box[3] + 1
    refine ⟨.ref b, rfl, b, _, 3, .int c, rfl, rfl, SqL.of hb, rfl, _, _, rfl, rfl, .ref b, rfl, b, _, 3, 3, rfl, rfl, hb, rfl, ?_⟩
    -- the word between
    refine ⟨fun σ H1 => σ = [some (.ref b), some (.int size), none, none, none] ∧ ∃ (x1 : Int) (gs1 : List Int), H1 b = some (.lst [.ref g, .int x1, .ref m, .int (c + 1)]) ∧ H1 g = some (.lst (gs1.map V.int)) ∧ gs1.length ≤ 63 ∧ Keep b g H H1, ?_, ?_⟩
    · have hb1 : (upd H b (.lst [.ref g, .int x, .ref m, .int (c + 1)])) b = some (.lst [.ref g, .int x, .ref m, .int (c + 1)]) := upd_same
      have hg1 : (upd H b (.lst [.ref g, .int x, .ref m, .int (c + 1)])) g = some (.lst (gs.map V.int)) := by rw [upd_ne bg.symm]; exact hg
      have kp1 : Keep b g H (upd H b (.lst [.ref g, .int x, .ref m, .int (c + 1)])) := fun d o e n1 _ => by rw [upd_ne n1]; exact e
      refine ⟨.ref b, rfl, b, _, 1, .int x, rfl, rfl, SqL.of hb1, rfl, rfl, _, rfl, ?_⟩
      refine ite2 (fun _ => ?_) (fun _ => ?_)
      · refine ⟨.ref b, rfl, b, _, 0, .ref g, rfl, rfl, SqL.of hb1, rfl, g, _, rfl, .inl (SqL.of hg1), _, _, rfl, rfl, _, rfl, ite2 (fun e => ?_) (fun _ => ?_)⟩
        · have pos := of_decide_eq_true e
          rw [List.length_map] at pos
          obtain ⟨z, r, rfl⟩ : ∃ z r, gs = z :: r := by
            cases gs with
            | nil => simp at pos
            | cons z r => exact ⟨z, r, rfl⟩
          refine ⟨.ref b, rfl, b, _, 0, .ref g, rfl, rfl, SqL.of hb1, rfl, .inl ⟨rfl, _, SqL.of hg1⟩, g, _, 0, 0, .int z, rfl, rfl, hg1, by decide, by decide, ?_, rfl, ?_⟩
          · simp [seqIndex?]
          · refine ⟨.ref b, rfl, b, [.ref g, .int x, .ref m, .int (c + 1)], 1, 1, rfl, rfl, by rw [upd_ne bg]; exact hb1, rfl, rfl, z, r, upd_same, ?_, ?_, ?_⟩
            · rw [upd_ne bg.symm, upd_same]
              rfl
            · simp at gl
              omega
            · intro d o e n1 n2
              rw [upd_ne n1, upd_ne n2]
              exact kp1 d o e n1 n2
        · exact ⟨rfl, x, gs, hb1, hg1, gl, kp1⟩
      · exact ⟨rfl, x, gs, hb1, hg1, gl, kp1⟩
    · rintro σ H1 ⟨rfl, x1, gs1, hb1, hg1, gl1, kp1⟩
      have hm1 : H1 m = some (.lst (ms.map V.int)) := kp1 _ _ hm bm.symm gm.symm
      -- if box[1] > 0
      refine ⟨.ref b, rfl, b, _, 1, .int x1, rfl, rfl, SqL.of hb1, rfl, _, _, rfl, rfl, _, rfl, ite2 (fun _ => ?_) (fun _ => ?_)⟩
      · refine ⟨.ref b, rfl, b, _, 1, .int x1, rfl, rfl, SqL.of hb1, rfl, .int size, rfl, _, _, rfl, rfl, (by show 0 < size; omega), ?_⟩
        refine ⟨.ref b, rfl, b, _, 1, .int x1, rfl, rfl, SqL.of hb1, rfl, .int size, rfl, _, _, rfl, rfl, ⟨by omega, by omega⟩, .ref b, rfl, b, _, 1, 1, rfl, rfl, hb1, rfl, ?_⟩
        refine ⟨.int (x1 % size), rfl, q _ _ (Int.emod_nonneg _ (by omega)) (Int.emod_lt_of_pos _ (by omega)) ⟨⟨x1 / size, c + 1, gs1, ms, upd_same, ?_, ?_, by omega, by omega, gl1, mlen⟩, bg, bm, gm⟩ ?_⟩
        · rw [upd_ne bg.symm]
          exact hg1
        · rw [upd_ne bm.symm]
          exact hm1
        · intro d o e n1 n2
          rw [upd_ne n1]
          exact kp1 d o e n1 n2
      · -- the cell
        have mx0 : (0 : Int) < (if ((ms.map V.int).length : Int) > 1 then ((ms.map V.int).length : Int) else 1) := by
          split <;> omega
        refine ⟨.ref b, rfl, b, _, 2, .ref m, rfl, rfl, SqL.of hb1, rfl, .ref b, rfl, b, _, 3, .int (c + 1), rfl, rfl, SqL.of hb1, rfl, _, _, rfl, rfl, .inl ⟨by decide, by decide⟩, by show 1 ≤ sizeLine; decide, fun l1 nl1 => ?_⟩
        have ne1 : m ≠ l1 := ne_of_none hm1 nl1
        refine ⟨m, l1, ms.map V.int, [.int (7 * (c + 1))], rfl, rfl, by rw [upd_ne ne1]; exact hm1, upd_same, ?_, fun l2 nl2 => ?_⟩
        · rw [List.length_map]
          have : (63 : Nat) + 1 ≤ sizeLine := by decide
          show ms.length + 1 ≤ sizeLine
          omega
        have hb2 : upd (upd H1 l1 (.lst [.int (7 * (c + 1))])) l2 (.lst (ms.map V.int ++ [.int (7 * (c + 1))])) b = some (.lst [.ref g, .int x1, .ref m, .int (c + 1)]) := by
          rw [upd_ne (ne_of_none (by rw [upd_ne (ne_of_none hb1 nl1)]; exact hb1) nl2), upd_ne (ne_of_none hb1 nl1)]
          exact hb1
        have s2' : Same H1 (upd (upd H1 l1 (.lst [.int (7 * (c + 1))])) l2 (.lst (ms.map V.int ++ [.int (7 * (c + 1))]))) := (same_new nl1).trans (same_new nl2)
        have at2 : upd (upd H1 l1 (.lst [.int (7 * (c + 1))])) l2 (.lst (ms.map V.int ++ [.int (7 * (c + 1))])) l2 = some (.lst (ms.map V.int ++ [.int (7 * (c + 1))])) := upd_same
        generalize upd (upd H1 l1 (.lst [.int (7 * (c + 1))])) l2 (.lst (ms.map V.int ++ [.int (7 * (c + 1))])) = H2 at hb2 s2' at2
        have hm2 := s2' _ _ hm1
        have idx : ∃ z : Int, atI (ms.map V.int ++ [V.int (7 * (c + 1))]) ((c + 1) % (if ((ms.map V.int).length : Int) > 1 then ((ms.map V.int).length : Int) else 1)) = some (.int z) := by
          have e : ms.map V.int ++ [V.int (7 * (c + 1))] = (ms ++ [7 * (c + 1)]).map V.int := by rw [List.map_append]; rfl
          rw [e]
          refine int_at _ (Int.emod_nonneg _ (by omega)) ?_
          refine Int.lt_of_lt_of_le (Int.emod_lt_of_pos (c + 1) mx0) ?_
          rw [List.length_map, List.length_append, List.length_singleton]
          split <;> omega
        obtain ⟨z, idx⟩ := idx
        refine ⟨.ref b, rfl, b, _, 3, .int (c + 1), rfl, rfl, SqL.of hb2, rfl, .ref b, rfl, b, _, 2, .ref m, rfl, rfl, SqL.of hb2, rfl, m, _, rfl, .inl (SqL.of hm2), _, _, rfl, _, _, rfl, rfl, mx0, l2, _, _, .int z, rfl, rfl, SqL.of at2, idx, ?_⟩
        -- the loop
        refine while_by (fun σ H3 => H3 = H2 ∧ ∃ fo re : Int, σ = [some (.ref b), some (.int size), some (.int fo), some (.int z), some (.int re)] ∧ (re = 1 ∧ fo = 0 ∨ re = 1000000007))
          (fun (σ : L2.St) _ => match σ[4]? with | some (some (V.int r)) => if r = 1 then 1 else 0 | _ => 0) ⟨rfl, 0, 1, rfl, .inl ⟨rfl, rfl⟩⟩ ?_
          (fun σ H Q Q' hq ⟨v, e, v', e', i, j, e1, e2, b, eb, h⟩ => ⟨v, e, v', e', i, j, e1, e2, b, eb, hq _ _ h⟩)
        rintro σ H3 ⟨rfl, fo, re, rfl, hre⟩
        refine ⟨.int re, rfl, .int size, rfl, _, _, rfl, rfl, _, rfl, ite2 (fun e => ?_) (fun _ => ?_)⟩
        · have lt : re < size := of_decide_eq_true e
          obtain ⟨rfl, rfl⟩ : re = 1 ∧ fo = 0 := by
            rcases hre with h | h
            · exact h
            · omega
          refine ⟨.int 0, rfl, _, _, rfl, rfl, .inl ⟨by decide, by decide⟩, .int z, rfl, .ref b, rfl, b, _, 3, .int (c + 1), rfl, rfl, SqL.of hb2, rfl, .int 0, rfl, _, _, rfl, rfl, (by show (0 : Int) < 89; decide), _, _, rfl, rfl, .inl ⟨by decide, by decide⟩, _, _, rfl, rfl, z, _, rfl, ?_, ?_, fun v => ?_⟩
          · show 0 ≤ c + 1 + 1000 * (0 % 89)
            omega
          · show c + 1 + 1000 * (0 % 89) ≤ 10000000
            omega
          · refine ⟨_, _, rfl, rfl, .int 1, rfl, _, _, rfl, rfl, .inl ⟨by decide, by decide⟩, ⟨rfl, _, 1 * 1000000007, rfl, .inr rfl⟩, ?_⟩
            show (if (1 * 1000000007 : Int) = 1 then 1 else 0) < (if (1 : Int) = 1 then 1 else 0)
            decide
        · refine ⟨.int fo, rfl, .int size, rfl, _, _, rfl, rfl, (by show 0 < size; omega), q _ _ (Int.emod_nonneg _ (by omega)) (Int.emod_lt_of_pos _ (by omega)) ⟨⟨x1, c + 1, gs1, ms, hb2, s2' _ _ hg1, hm2, by omega, by omega, gl1, mlen⟩, bg, bm, gm⟩ ?_⟩
          exact kp1.trans (Same.keep s2')
end
end Moot
namespace Moot
open PySem PySem.Spec PyProof.Rows L2
/-! texts of one sign -/
def sg (c : Nat) : Str := ⟨#[c]⟩
theorem sg_inj {c d : Nat} (h : sg c = sg d) : c = d := by
  have := congrArg (fun s : Str => s.cps.toList) h
  simpa [sg] using this
theorem glue_one : ∀ (cs : List Nat) (acc : Array Nat), (cs.map sg).foldl (fun a p => a ++ Str.empty.cps ++ p.cps) acc = acc ++ cs.toArray
  | [], acc => by simp
  | c :: cs, acc => by
    rw [List.map_cons, List.foldl_cons, glue_one cs]
    simp [Str.empty, sg]
theorem join_signs (cs : List Nat) : Txt.join Str.empty (cs.map sg) = ⟨cs.toArray⟩ := by
  unfold Txt.join Builtin.Str.glued
  cases cs with
  | nil => rfl
  | cons c cs =>
    show (⟨(cs.map sg).foldl _ (sg c).cps⟩ : Str) = _
    rw [glue_one]
    simp [sg]
/-- a name: one to eight letters -/
structure Nm (x : Str) : Prop where
  lo : 1 ≤ x.cps.size
  hi : x.cps.size ≤ 8
  low : ∀ c ∈ x.cps.toList, 97 ≤ c ∧ c ≤ 122
theorem Nm.ok {x : Str} (h : Nm x) : PyData.strOk x = true := by
  unfold PyData.strOk
  rw [Array.all_eq_true]
  intro i hi
  have := h.low x.cps[i] (by simp)
  simp
  omega
abbrev abc : Str := "abcdefghijklmnopqrstuvwxyz"
theorem abc_list : abc.cps.toList = (List.range 26).map (· + 97) := by decide +kernel
theorem abc_size : abc.cps.size = 26 := by decide +kernel
theorem abc_at {i : Nat} (h : i < 26) : abc.cps.toList[i]? = some (i + 97) := by
  rw [abc_list, List.getElem?_map, List.getElem?_range h]
  rfl
theorem sg_nm {c : Nat} (h : c < 26) : Nm (sg (c + 97)) := ⟨by simp [sg], by simp [sg], fun d m => by
  have : d = c + 97 := by simpa [sg] using m
  omega⟩
theorem nm_of {cs : List Nat} (h1 : 1 ≤ cs.length) (h2 : cs.length ≤ 8) (h : ∀ c ∈ cs, 97 ≤ c ∧ c ≤ 122) : Nm ⟨cs.toArray⟩ := ⟨by simpa using h1, by simpa using h2, fun c m => h c (by simpa using m)⟩
theorem inV_str (z : Str) (xs : List Str) : inV (.str z) (xs.map V.str) = decide (z ∈ xs) := by
  unfold inV
  rw [List.any_map]
  rw [Bool.eq_iff_iff, List.any_eq_true, decide_eq_true_eq]
  constructor
  · rintro ⟨y, m, e⟩
    have : y = z := by simpa [eqV] using e
    exact this ▸ m
  · intro m
    exact ⟨z, m, by simp [eqV]⟩
theorem flats (xs : List Str) : (xs.map V.str).all flatV = true := by
  rw [List.all_map]
  exact List.all_eq_true.mpr fun _ _ => rfl
/-- some letter is not among fewer than 26 names -/
theorem letter_left (xs : List Str) (h : xs.length < 26) : ∃ c, c < 26 ∧ sg (c + 97) ∉ xs := by
  rcases Classical.em (∃ c, c < 26 ∧ sg (c + 97) ∉ xs) with h' | h'
  · exact h'
  · exfalso
    have all : ∀ y ∈ (List.range 26).map (fun c => sg (c + 97)), y ∈ xs := fun y m => by
      obtain ⟨c, hc, rfl⟩ := List.mem_map.mp m
      rcases Classical.em (sg (c + 97) ∈ xs) with k | k
      · exact k
      · exact absurd ⟨c, List.mem_range.mp hc, k⟩ h'
    have nd : ((List.range 26).map (fun c => sg (c + 97))).Nodup := by
      refine List.Pairwise.map _ (fun a b n e => n ?_) (List.nodup_range (n := 26))
      have := sg_inj e
      omega
    have : ∀ (l D : List Str), l.Nodup → (∀ y ∈ l, y ∈ D) → l.length ≤ D.length := by
      intro l
      induction l with
      | nil => intros; exact Nat.zero_le _
      | cons y l ih =>
        intro D n s
        obtain ⟨n1, n2⟩ := List.nodup_cons.mp n
        have my := s y List.mem_cons_self
        have := ih (D.erase y) n2 fun z mz => (List.mem_erase_of_ne fun (e : z = y) => n1 (e ▸ mz)).mpr (s z (List.mem_cons_of_mem _ mz))
        have e := List.length_erase_of_mem my
        have := List.length_pos_of_mem my
        rw [List.length_cons]
        omega
    have := this _ xs nd all
    rw [List.length_map, List.length_range] at this
    omega
theorem Box.ne {H : Hp} {b g m p : Addr} {n : Nat} (B : Box H b g m n) (h : H p = none) : p ≠ b ∧ p ≠ g ∧ p ≠ m := by
  obtain ⟨o1, h1⟩ := B.b_in
  obtain ⟨o2, h2⟩ := B.g_in
  obtain ⟨o3, h3⟩ := B.m_in
  exact ⟨(ne_of_none h1 h).symm, (ne_of_none h2 h).symm, (ne_of_none h3 h).symm⟩
theorem Keep.free {b g p : Addr} {H H' : Hp} (k : Keep b g H H') (p1 : p ≠ b) (p2 : p ≠ g) (h : H' p = none) : H p = none := by
  cases e : H p with
  | none => rfl
  | some o =>
    rw [k p o e p1 p2] at h
    cases h
theorem one_two_eight {v : Int} (h0 : 0 ≤ v) (h1 : v < 3) : ∃ s : Int, atI [V.int 1, V.int 2, V.int 8] v = some (.int s) ∧ 1 ≤ s ∧ s ≤ 8 := by
  have c : v = 0 ∨ v = 1 ∨ v = 2 := by omega
  rcases c with rfl | rfl | rfl
  · exact ⟨1, rfl, by decide, by decide⟩
  · exact ⟨2, rfl, by decide, by decide⟩
  · exact ⟨8, rfl, by decide, by decide⟩
theorem erase_map {α β : Type} (f : α → β) : ∀ (l : List α) (k : Nat), (l.map f).eraseIdx k = (l.eraseIdx k).map f
  | [], _ => rfl
  | _ :: _, 0 => rfl
  | x :: l, k + 1 => by
    show f x :: (l.map f).eraseIdx k = f x :: (l.eraseIdx k).map f
    rw [erase_map f l k]
theorem seq_at {n : Nat} {v : Int} (h0 : 0 ≤ v) (h1 : v < n) : seqIndex? v n = some v.toNat := by
  have e : ixN n v = some v.toNat := by
    unfold ixN
    rw [if_pos h0, if_pos (by omega)]
  exact (ixN_seq e).1
section
variable {P : Program} {w : World} {K : PySem.W.Frag} {mg : Str → Option Value} {base : Heap}
/-! _law_names -/
abbrev sNames : Stmt := top 59
abbrev nNames : List Str := ["_law_box_here", "_law_many", "_law_letters", "_law_found", "_law_k", "_law_size", "_law_name", "_law_j", "_law_one"]
theorem scNames : FnScope nNames ["_law_box_here", "_law_many"] (defScope sNames) := ⟨rfl, rfl, rfl, by decide +kernel, rfl, by decide +kernel, by decide +kernel⟩
/-- that many names, none twice -/
def spNames : Sp := fun vs H Q _ => ∃ (b g m : Addr) (n : Nat) (many : Nat), vs = [.ref b, .int many] ∧ Box H b g m n ∧ n ≤ 900000 ∧ many ≤ 8 ∧
  ∀ (p : Addr) (xs : List Str) (H' : Hp), H p = none → H' p = some (.lst (xs.map V.str)) → xs.length = many → xs.Nodup → (∀ x ∈ xs, Nm x) → Box H' b g m (n + 100) → Keep b g H H' → Q (.ref p) H'
theorem ok_names {f fT : Addr} {fd fdT : FuncData} {k : Nat} (F : Fun K "_law_names" "_law_names" sNames f fd) (FT : Fun K "_law_take" "_law_take" sTake fT fdT) (bT : Binds K fdT ["_law_box_here", "_law_size"] []) (gT : mg "_law_take" = some (.ref fT))
    (GT : FnOk P w K mg base CX0 k fT fdT ["_law_box_here", "_law_size"] spTake) (mr : mg "range" = none) : FnOk P w K mg base CX0 (k + 1) f fd ["_law_box_here", "_law_many"] spNames := by
  refine F.ok scNames (fun vs H Q E h => ?_) (fun cdv A outer s H vs Q E hr h => ?_)
  · obtain ⟨b, g, m, n, many, rfl, _⟩ := h
    rfl
  · obtain ⟨b, g, m, n, many, rfl, B, hn, hmany, q⟩ := h
    refine ⟨_, pss_cons (ps_set (i := 2) scNames.nd rfl (Or.inr rfl) pe_str)
      (pss_cons (ps_set (i := 3) scNames.nd rfl (Or.inr rfl) (pe_lst pa_nil))
      (pss_cons (ps_for PassesOwn.never rfl (pi_range1 rfl mr (pa_cons (pv 1) pa_nil)) (pg_name (i := 4) scNames.nd rfl (Or.inl rfl))
        (pss_cons (ps_set (i := 5) scNames.nd rfl (Or.inl rfl) (pe_op op_add pe_int (pe_call GT hr (by rfl) gT FT.kp bT .nil pass0 (pa_cons (pv 0) (pa_cons (pe_ix ix_list (pe_lst (pa_cons pe_int (pa_cons pe_int (pa_cons pe_int pa_nil)))) (pe_call GT hr (by rfl) gT FT.kp bT .nil pass0 (pa_cons (pv 0) (pa_cons pe_int pa_nil))) (fun _ _ => rfl)) pa_nil)))))
        (pss_cons (ps_set (i := 6) scNames.nd rfl (Or.inl rfl) (pe_join pe_str (pe_lc (own := [("_law_j", 7)]) (g := gName 7) (tt := tYes) (by rfl) scNames.nd (pi_range1 rfl mr (pa_cons (pv 5) pa_nil)) (blkOk_by (N := nNames) (sc := defScope sNames) (by decide +kernel))
            (fun _ _ _ _ _ => pg_name (i := 7) scNames.nd rfl (Or.inl rfl)) (fun _ _ _ _ _ => pts_nil) (fun _ _ _ _ _ => pe_ix ix_str (pv 2) (pe_call GT hr (by rfl) gT FT.kp bT .nil pass0 (pa_cons (pv 0) (pa_cons pe_int pa_nil))) (fun _ _ => rfl)))))
        (pss_one (ps_expr (pe_bm PySem.F.plainAttrs_list PySem.F.slot_list_append PySem.F.type_list_append mt_append (pv 3) (pa_cons (pe_ifExp (pt_cmpR op_notIn_seq (pv 6) (pv 3) (by rfl)) (pv 6)
            (pe_ix ix_list (pe_lc (own := [("_law_one", 8)]) (g := gName 8) (by rfl) scNames.nd (pi_str (pv 2)) (blkOk_by (N := nNames) (sc := defScope sNames) (by decide +kernel))
              (fun _ _ _ _ _ => pg_name (i := 8) scNames.nd rfl (Or.inl rfl)) (fun _ _ _ _ _ => pts_one (pt_cmpR (show OpR _ (compareOp .NotIn) (rIn K true) from op_notIn_seq) (pv 8) (pv 3) (by rfl))) (fun _ _ _ _ _ => pv 8)) pe_int (fun _ _ => rfl))) pa_nil)))))))
      (pss_one (ps_ret (pv 3))))), ?_⟩
    -- letters, found
    refine ⟨Nat.zero_le _, fun p np => ?_⟩
    obtain ⟨pb, pg, pm⟩ := B.ne np
    refine ⟨.int many, rfl, many, rfl, by omega, by omega, for_range (lo := 0) (n := (many : Int).toNat) (fun i σ H1 => ∃ (xs : List Str) (y4 y5 y6 y7 y8 : Option V), σ = [some (.ref b), some (.int many), some (.str abc), some (.ref p), y4, y5, y6, y7, y8] ∧
      Box H1 b g m (n + 12 * i) ∧ Keep b g H H1 ∧ H1 p = some (.lst (xs.map V.str)) ∧ xs.length = i ∧ xs.Nodup ∧ ∀ x ∈ xs, Nm x) ?_ ?_ ?_⟩
    · exact ⟨[], none, none, none, none, none, rfl, B.store pb pg pm, Same.keep (same_new np), upd_same, rfl, List.nodup_nil, fun x m => by simp at m⟩
    · rintro i σ H1 hi ⟨xs, y4, y5, y6, y7, y8, rfl, B1, K1, h1, len, nd, nm⟩
      have hi8 : i < 8 := by omega
      -- the size
      refine ⟨.ref b, rfl, by show 3 ≤ sizeLine; decide, fun l1 nl1 => ?_⟩
      have B1' := B1.same (same_new (o := .lst [.int 1, .int 2, .int 8]) nl1)
      obtain ⟨lb, lg, lm⟩ := B1.ne nl1
      refine ⟨.ref b, rfl, b, g, m, _, 3, rfl, B1', by omega, by decide, by decide, fun v1 H2 v0 v3 B2 K2 => ?_⟩
      have hl2 : H2 l1 = some (.lst [.int 1, .int 2, .int 8]) := K2 _ _ upd_same lb lg
      obtain ⟨sz, at1, sz1, sz8⟩ := one_two_eight v0 v3
      refine ⟨l1, _, v1, .int sz, rfl, rfl, SqL.of hl2, at1, b, g, m, _, sz, rfl, B2, by omega, sz1, by omega, fun v2 H3 v20 v2s B3 K3 => ?_⟩
      have K13 : Keep b g H1 H3 := ((Same.keep (same_new nl1)).trans K2).trans K3
      refine ⟨_, _, rfl, rfl, ?_⟩
      -- the name
      refine ⟨⟨_, rfl⟩, .int (1 + v2), rfl, 1 + v2, rfl, by omega, by omega, fun D nD => ?_⟩
      obtain ⟨Db, Dg, Dm⟩ := B3.ne nD
      have abcAt : ∀ v : Int, 0 ≤ v → v < 26 → atI abc.cps.toList v = some (v.toNat + 97) := fun v a0 a1 => by
        obtain ⟨j, rfl⟩ := Int.eq_ofNat_of_zero_le a0
        exact atI_nat (abc_at (by omega))
      refine lc_range (lo := 0) (n := (1 + v2).toNat) (fun j H4 => Box H4 b g m (n + 12 * i + 2 + j) ∧ Keep b g H3 H4 ∧ ∃ cs : List Nat, H4 D = some (.lst ((cs.map sg).map V.str)) ∧ cs.length = j ∧ ∀ c ∈ cs, 97 ≤ c ∧ c ≤ 122) ?_ ?_ ?_
      · exact ⟨B3.store Db Dg Dm, Same.keep (same_new nD), [], upd_same, rfl, fun c m => by simp at m⟩
      · rintro j H4 hj ⟨B4, K4, cs, hD, lcs, low⟩
        refine ⟨rfl, .str abc, rfl, .ref b, rfl, b, g, m, _, 26, rfl, B4, by omega, by decide, by decide, fun v H5 a0 a1 B5 K5 => ?_⟩
        refine ⟨abc, v, v.toNat + 97, rfl, rfl, by show abc.cps.size ≤ sizeLine; rw [abc_size]; decide, abcAt v a0 a1, _, K5 _ _ hD Db Dg, ?_, ?_⟩
        · rw [List.length_map, List.length_map]
          exact small1000 (by omega)
        · refine ⟨(B5.store Db Dg Dm).more (by omega), fun d o e n1 n2 => ?_, cs ++ [v.toNat + 97], ?_, ?_, ?_⟩
          · rw [upd_ne (ne_of_none e nD)]
            exact K5 _ _ (K4 _ _ e n1 n2) n1 n2
          · rw [upd_same, List.map_append, List.map_append]
            rfl
          · rw [List.length_append, lcs]
            rfl
          · intro c mc
            rcases List.mem_append.mp mc with mc | mc
            · exact low c mc
            · have := List.mem_singleton.mp mc
              omega
      · rintro H4 ⟨B4, K4, cs, hD, lcs, low⟩
        have K14 : Keep b g H1 H4 := K13.trans K4
        have hp4 : H4 p = some (.lst (xs.map V.str)) := K14 _ _ h1 pb pg
        have lc8 : cs.length ≤ 8 := by omega
        have lc1 : 1 ≤ cs.length := by omega
        refine ⟨Str.empty, D, cs.map sg, rfl, rfl, .inl (SqL.of hD), ?_, ?_⟩
        · have : ((cs.map sg).map (·.length)).sum = cs.length := by
            clear lcs low hD lc8 lc1
            induction cs with
            | nil => rfl
            | cons c cs ih =>
              rw [List.map_cons, List.map_cons, List.sum_cons, ih, List.length_cons]
              show 1 + cs.length = _
              omega
          rw [this]
          show cs.length + _ * 0 ≤ _
          omega
        rw [join_signs]
        have nmN : Nm ⟨cs.toArray⟩ := nm_of lc1 lc8 low
        generalize (⟨cs.toArray⟩ : Str) = name at nmN ⊢
        refine ⟨.ref p, rfl, .inl ⟨rfl, _, SqL.of hp4⟩, .str name, rfl, .ref p, rfl, p, _, rfl, .inl (SqL.of hp4), rfl, flats xs, _, rfl, ?_⟩
        have put : ∀ (z : Str) (H5 : Hp), Nm z → z ∉ xs → Same H4 H5 → Box (upd H5 p (.lst (xs.map V.str ++ [.str z]))) b g m (n + 12 * (i + 1)) ∧ Keep b g H (upd H5 p (.lst (xs.map V.str ++ [.str z]))) ∧
            upd H5 p (.lst (xs.map V.str ++ [.str z])) p = some (.lst ((xs ++ [z]).map V.str)) ∧ (xs ++ [z]).length = i + 1 ∧ (xs ++ [z]).Nodup ∧ ∀ x ∈ xs ++ [z], Nm x := fun z H5 nz out s5 => by
          refine ⟨((B4.same s5).store pb pg pm).more (by omega), ?_, ?_, ?_, ?_, ?_⟩
          · intro d o e n1 n2
            rw [upd_ne (ne_of_none e np)]
            exact s5 _ _ (K14 _ _ (K1 _ _ e n1 n2) n1 n2)
          · rw [upd_same, List.map_append]
            rfl
          · rw [List.length_append, len]
            rfl
          · exact List.nodup_append.mpr ⟨nd, List.nodup_cons.mpr ⟨by simp, List.nodup_nil⟩, fun a ma c mc e => out (by rw [← List.mem_singleton.mp mc, ← e]; exact ma)⟩
          · intro x mx
            rcases List.mem_append.mp mx with mx | mx
            · exact nm x mx
            · rw [List.mem_singleton.mp mx]
              exact nz
        have room : (xs.map V.str).length < sizeLine := by
          rw [List.length_map, len]
          exact small1000 (by omega)
        rw [inV_str]
        by_cases inn : name ∈ xs
        · rw [decide_eq_true inn]
          refine iteF ?_
          refine ⟨.str abc, rfl, abc, rfl, fun D2 nD2 => ?_⟩
          refine lc_it walk_str (fun j H5 => Same H4 H5 ∧ H5 D2 = some (.lst (((((List.range 26).take j).filter fun c => decide (sg (c + 97) ∉ xs)).map fun c => sg (c + 97)).map V.str))) ?_ (fun _ _ _ _ => trivial) ?_ ?_
          · exact ⟨same_new nD2, upd_same⟩
          · rintro j x H5 H6 hj ⟨s5, hD2⟩ ⟨rfl, c, hc, rfl⟩
            have hj26 : j < 26 := by
              rw [abc_size] at hj
              exact hj
            have ec : c = j + 97 := by
              have := abc_at hj26
              rw [Array.getElem?_toList] at this
              exact Option.some.inj (hc.symm.trans this)
            subst ec
            have hp5 := s5 _ _ hp4
            have tk : (List.range 26).take (j + 1) = (List.range 26).take j ++ [j] := by
              rw [List.take_add_one, List.getElem?_range hj26]
              rfl
            refine ⟨rfl, .str (sg (j + 97)), rfl, .ref p, rfl, p, _, rfl, .inl (SqL.of hp5), rfl, flats xs, _, rfl, ?_⟩
            rw [inV_str]
            by_cases isIn : sg (j + 97) ∈ xs
            · rw [decide_eq_true isIn]
              refine iteF ⟨s5, ?_⟩
              rw [hD2, tk, List.filter_append]
              simp [isIn]
            · rw [decide_eq_false isIn]
              refine iteT ⟨.str (sg (j + 97)), rfl, _, hD2, ?_, fun d o e => ?_, ?_⟩
              · rw [List.length_map, List.length_map]
                refine small1000 (Nat.le_trans (List.length_filter_le _ _) ?_)
                rw [List.length_take]
                omega
              · rw [upd_ne (ne_of_none e nD2)]
                exact s5 d o e
              · rw [upd_same, tk, List.filter_append]
                simp [isIn]
          · rintro H5 ⟨s5, hD2⟩
            obtain ⟨c, hc, out⟩ := letter_left xs (by omega)
            have e26 : (List.range 26).take abc.cps.size = List.range 26 := by
              rw [abc_size]
              rfl
            rw [e26] at hD2
            have mem : c ∈ (List.range 26).filter fun c => decide (sg (c + 97) ∉ xs) := List.mem_filter.mpr ⟨List.mem_range.mpr hc, decide_eq_true out⟩
            obtain ⟨d, r, er⟩ : ∃ d r, ((List.range 26).filter fun c => decide (sg (c + 97) ∉ xs)) = d :: r := by
              cases h : ((List.range 26).filter fun c => decide (sg (c + 97) ∉ xs)) with
              | nil => rw [h] at mem; simp at mem
              | cons d r => exact ⟨d, r, rfl⟩
            have hd : d < 26 ∧ sg (d + 97) ∉ xs := by
              have : d ∈ (List.range 26).filter fun c => decide (sg (c + 97) ∉ xs) := by rw [er]; exact List.mem_cons_self
              obtain ⟨m1, m2⟩ := List.mem_filter.mp this
              exact ⟨List.mem_range.mp m1, of_decide_eq_true m2⟩
            rw [er] at hD2
            exact ⟨D2, _, 0, .str (sg (d + 97)), rfl, rfl, SqL.of hD2, atI_nat (j := 0) rfl, p, _, _, rfl, rfl, s5 _ _ hp4, room, xs ++ [sg (d + 97)], _, _, _, _, _, rfl, put _ H5 (sg_nm hd.1) hd.2 s5⟩
        · rw [decide_eq_false inn]
          refine iteT ?_
          exact ⟨.str name, rfl, p, _, _, rfl, rfl, hp4, room, xs ++ [name], _, _, _, _, _, rfl, put name H4 nmN inn (Same.refl _)⟩
    · rintro σ H1 ⟨xs, y4, y5, y6, y7, y8, rfl, B1, K1, h1, len, nd, nm⟩
      exact ⟨.ref p, rfl, q p xs H1 np h1 (by omega) nd nm (B1.more (by omega)) K1⟩
/-- len by a reading over K alone -/
abbrev rLen (K : PySem.W.Frag) : List V → Hp → VK → Prop := fun xs H Q => ∃ p ys, xs = [.ref p] ∧ (SqL K H p ys ∨ SqT K H p ys) ∧ Q (.int ys.length) H
end
end Moot
namespace Moot
open PySem PySem.Spec PyProof.Rows L2
/-! requirements -/
/-- a part: a name, or a count of names -/
abbrev Part := Str ⊕ (Int × List Str)
def PartAt (H : Hp) (v : V) : Part → Prop
  | .inl x => v = .str x
  | .inr (c, ns) => ∃ q p, v = .ref q ∧ H q = some (.tup [.int c, .ref p]) ∧ H p = some (.tup (ns.map V.str))
inductive Parts (H : Hp) : List V → List Part → Prop
  | nil : Parts H [] []
  | cons {v : V} {vs : List V} {p : Part} {ps : List Part} : PartAt H v p → Parts H vs ps → Parts H (v :: vs) (p :: ps)
def ReqAt (H : Hp) (r : Addr) (c : Int) (ps : List Part) : Prop := ∃ p vs, H r = some (.tup [.int c, .ref p]) ∧ H p = some (.tup vs) ∧ Parts H vs ps
/-- tuples stay -/
def Tups (H H' : Hp) : Prop := ∀ a xs, H a = some (.tup xs) → H' a = some (.tup xs)
theorem Same.tups {H H' : Hp} (s : Same H H') : Tups H H' := fun a _ h => s a _ h
theorem Tups.refl (H : Hp) : Tups H H := fun _ _ h => h
theorem Tups.trans {H H1 H2 : Hp} (a : Tups H H1) (b : Tups H1 H2) : Tups H H2 := fun c xs h => b c xs (a c xs h)
theorem Keep.tups {H H' : Hp} {b g m : Addr} {n : Nat} (k : Keep b g H H') (B : Box H b g m n) : Tups H H' := fun a xs h => by
  obtain ⟨x, c, gs, ms, hb, hg, _⟩ := B.ex
  refine k a _ h (fun e => ?_) fun e => ?_
  · rw [e, hb] at h
    cases h
  · rw [e, hg] at h
    cases h
theorem tups_store {H : Hp} {p : Addr} {xs ys : List V} (h : H p = some (.lst xs)) : Tups H (upd H p (.lst ys)) := fun a zs e => by
  rw [upd_ne (fun c => by rw [c, h] at e; cases e)]
  exact e
theorem PartAt.tups {H H' : Hp} {v : V} {p : Part} (h : PartAt H v p) (t : Tups H H') : PartAt H' v p := by
  cases p with
  | inl x => exact h
  | inr y =>
    obtain ⟨c, ns⟩ := y
    obtain ⟨q, p, e, h1, h2⟩ := h
    exact ⟨q, p, e, t _ _ h1, t _ _ h2⟩
theorem Parts.tups {H H' : Hp} {vs : List V} {ps : List Part} (h : Parts H vs ps) (t : Tups H H') : Parts H' vs ps := by
  induction h with
  | nil => exact .nil
  | cons a _ ih => exact .cons (a.tups t) ih
theorem ReqAt.tups {H H' : Hp} {r : Addr} {c : Int} {ps : List Part} (h : ReqAt H r c ps) (t : Tups H H') : ReqAt H' r c ps := by
  obtain ⟨p, vs, h1, h2, h3⟩ := h
  exact ⟨p, vs, t _ _ h1, t _ _ h2, h3.tups t⟩
theorem Parts.length {H : Hp} {vs : List V} {ps : List Part} (h : Parts H vs ps) : vs.length = ps.length := by
  induction h with
  | nil => rfl
  | cons _ _ ih => rw [List.length_cons, List.length_cons, ih]
theorem Parts.at {H : Hp} {vs : List V} {ps : List Part} (h : Parts H vs ps) : ∀ {i : Nat} {v : V}, vs[i]? = some v → ∃ p, ps[i]? = some p ∧ PartAt H v p := by
  induction h with
  | nil => intro i v e; simp at e
  | cons a _ ih =>
    intro i v e
    cases i with
    | zero =>
      cases Option.some.inj e
      exact ⟨_, rfl, a⟩
    | succ i => exact ih (i := i) e
theorem Parts.names {H : Hp} : ∀ ns : List Str, Parts H (ns.map V.str) (ns.map Sum.inl)
  | [] => .nil
  | _ :: ns => .cons rfl (Parts.names ns)
/-- an inner requirement is one -/
theorem PartAt.req {H : Hp} {v : V} {c : Int} {ns : List Str} (h : PartAt H v (.inr (c, ns))) : ∃ q, v = .ref q ∧ ReqAt H q c (ns.map Sum.inl) := by
  obtain ⟨q, p, e, h1, h2⟩ := h
  exact ⟨q, e, p, _, h1, h2, Parts.names ns⟩
/-- the names as they are written -/
def namesOf : List Part → List Str
  | [] => []
  | .inl x :: r => x :: namesOf r
  | .inr (_, ns) :: r => ns ++ namesOf r
theorem namesOf_append : ∀ a b : List Part, namesOf (a ++ b) = namesOf a ++ namesOf b
  | [], _ => rfl
  | .inl x :: a, b => by
    show x :: namesOf (a ++ b) = x :: (namesOf a ++ namesOf b)
    rw [namesOf_append a b]
  | .inr (c, ns) :: a, b => by
    show ns ++ namesOf (a ++ b) = (ns ++ namesOf a) ++ namesOf b
    rw [namesOf_append a b, List.append_assoc]
theorem namesOf_names : ∀ ns : List Str, namesOf (ns.map Sum.inl) = ns
  | [] => rfl
  | x :: ns => by
    show x :: namesOf (ns.map Sum.inl) = x :: ns
    rw [namesOf_names ns]
theorem namesOf_take {ps : List Part} {i : Nat} {p : Part} (h : ps[i]? = some p) : namesOf (ps.take (i + 1)) = namesOf (ps.take i) ++ namesOf [p] := by
  rw [List.take_add_one, h, namesOf_append]
  rfl
theorem namesOf_le (ps : List Part) (i : Nat) : (namesOf (ps.take i)).length ≤ (namesOf ps).length := by
  have e := namesOf_append (ps.take i) (ps.drop i)
  rw [List.take_append_drop] at e
  rw [e, List.length_append]
  omega
/-- which sets satisfy -/
def satP (S : List Str) : Part → Bool
  | .inl x => decide (x ∈ S)
  | .inr (c, ns) => decide (c ≤ ((ns.countP fun x => decide (x ∈ S) : Nat) : Int))
def sat (S : List Str) (c : Int) (ps : List Part) : Bool := decide (c ≤ ((ps.countP (satP S) : Nat) : Int))
theorem sat_names (S : List Str) (c : Int) (ns : List Str) : sat S c (ns.map Sum.inl) = satP S (.inr (c, ns)) := by
  unfold sat
  rw [List.countP_map]
  rfl
/-- only the members count -/
theorem satP_same {S S' : List Str} {p : Part} (h : ∀ x ∈ namesOf [p], x ∈ S ↔ x ∈ S') : satP S p = satP S' p := by
  cases p with
  | inl x =>
    have := h x (List.mem_cons_self)
    show decide _ = decide _
    rw [decide_eq_decide]
    exact this
  | inr y =>
    obtain ⟨c, ns⟩ := y
    have e : ns.countP (fun x => decide (x ∈ S)) = ns.countP (fun x => decide (x ∈ S')) := by
      refine List.countP_congr fun x m => ?_
      rw [decide_eq_true_eq, decide_eq_true_eq]
      exact h x (by show x ∈ ns ++ []; rw [List.append_nil]; exact m)
    show decide _ = decide _
    rw [e]
theorem sat_same {S S' : List Str} {c : Int} {ps : List Part} (h : ∀ x ∈ namesOf ps, x ∈ S ↔ x ∈ S') : sat S c ps = sat S' c ps := by
  have e : ps.countP (satP S) = ps.countP (satP S') := by
    refine List.countP_congr fun p m => ?_
    have : satP S p = satP S' p := satP_same fun x mx => h x (by
      obtain ⟨a, b, rfl⟩ := List.append_of_mem m
      rw [namesOf_append, show p :: b = [p] ++ b from rfl, namesOf_append]
      exact List.mem_append_right _ (List.mem_append_left _ mx))
    rw [this]
  unfold sat
  rw [e]
/-- isinstance(part, str) -/
theorem isi_part {K : PySem.W.Frag} {H : Hp} {v : V} {p : Part} (h : PartAt H v p) : ∃ t : Value, TyX K H v t ∧ PySem.W.kitOne K t (.type "str") = some p.isLeft := by
  cases p with
  | inl x =>
    cases h
    exact ⟨.type "str", .base (.str x), kit_ty (r := true) (by decide +kernel)⟩
  | inr y =>
    obtain ⟨c, ns⟩ := y
    obtain ⟨a, p, rfl, h1, h2⟩ := h
    exact ⟨.type "tuple", .base (.tup h1), kit_ty (r := false) (by decide +kernel)⟩
section
variable {P : Program} {w : World} {K : PySem.W.Frag} {mg : Str → Option Value} {base : Heap}
/-! node_set -/
abbrev sNs : Stmt := top 9
theorem scNs : FnScope ["names"] ["names"] (defScope sNs) := ⟨rfl, rfl, rfl, by decide +kernel, rfl, by decide +kernel, by decide +kernel⟩
def spNs (K : PySem.W.Frag) : Sp := fun vs H Q _ => ∃ (l : Addr) (zs : List Str), vs = [.ref l] ∧ SqL K H l (zs.map V.str) ∧ zs.length < 64 ∧
  ∀ (p : Addr) (ys : List Str) (H' : Hp), Same H H' → H p = none → H' p = some (.tup (ys.map V.str)) → sortedS ys = true → ys.Nodup → (∀ x, x ∈ ys ↔ x ∈ zs) → Q (.ref p) H'
theorem ok_ns {f : Addr} {fd : FuncData} {k : Nat} (F : Fun K "node_set" "node_set" sNs f fd) (mt : mg "tuple" = none) (mso : mg "sorted" = none) (mse : mg "set" = none) : FnOk P w K mg base CX0 (k + 1) f fd ["names"] (spNs K) := by
  refine F.ok scNs (fun vs H Q E h => ?_) (fun cdv A outer s H vs Q E hr h => ?_)
  · obtain ⟨l, zs, rfl, _⟩ := h
    rfl
  · obtain ⟨l, zs, rfl, hl, few, q⟩ := h
    refine ⟨_, pss_one (ps_ret (pe_callTy call_tuple_of (by rfl) mt (by decide +kernel) (pa_cons (pe_callB (cr_txtSorted rfl) (by rfl) mso (by decide +kernel)
      (pa_cons (pe_callTy (cr_txtSet rfl) (by rfl) mse (by decide +kernel) (pa_cons (pv 0) pa_nil)) pa_nil)) pa_nil))), ?_⟩
    refine ⟨.ref l, rfl, l, zs, rfl, hl, few, fun a m na hm => ?_⟩
    refine ⟨a, _, m, rfl, upd_same, by omega, fun ys p srt nd mem len np => ?_⟩
    refine ⟨p, _, rfl, .inl ⟨SqL.of upd_same, fun t nt => ?_⟩⟩
    have s1 := same_new (o := TxtSet P w a (fun k => decide (k ∈ zs)) m) na
    have s2 := same_new (o := .lst (ys.map V.str)) np
    have s3 := same_new (o := .tup (ys.map V.str)) nt
    exact q t ys _ ((s1.trans s2).trans s3) ((s1.trans s2).free nt) upd_same srt nd fun x => (mem x).trans (by simp)
end
end Moot
namespace Moot
open PySem PySem.Spec PyProof.Rows L2
/-- a set of names, as a list or a tuple -/
def NodesAt (K : PySem.W.Frag) (H : Hp) (p : Addr) (S : List Str) : Prop := SqL K H p (S.map V.str) ∨ SqT K H p (S.map V.str)
theorem Same.seqT {K : PySem.W.Frag} {H H' : Hp} {a : Addr} {xs : List V} (e : Same H H') (h : SqT K H a xs) : SqT K H' a xs := by
  rcases h with (h | ⟨o, h⟩) | h
  · exact .inl (.inl (e _ _ h))
  · exact .inl (.inr ⟨o, e _ _ h⟩)
  · exact .inr h
theorem NodesAt.same {K : PySem.W.Frag} {H H' : Hp} {p : Addr} {S : List Str} (h : NodesAt K H p S) (s : Same H H') : NodesAt K H' p S := h.imp (Same.seq s) (Same.seqT s)
/-- what the built-in names are -/
structure Blt (mg : Str → Option Value) : Prop where
  isi : mg "isinstance" = none
  str : mg "str" = none
  len : mg "len" = none
  tup : mg "tuple" = none
  lst : mg "list" = none
  srt : mg "sorted" = none
  set : mg "set" = none
  rng : mg "range" = none
  int : mg "int" = none
  bool : mg "bool" = none
  sum : mg "sum" = none
  min : mg "min" = none
  max : mg "max" = none
section
variable {P : Program} {w : World} {K : PySem.W.Frag} {mg : Str → Option Value} {base : Heap}
theorem fn_none {CX : CXT} {f : Addr} {fd : FuncData} {ps : List Str} {sp : Sp} (k : Nat) (h : ∀ vs H Q E, ¬ sp vs H Q E) : FnOk P w K mg base CX k f fd ps sp :=
  ⟨fun vs H Q E y => absurd y (h vs H Q E), fun _ _ _ H _ _ vs Q E _ _ _ _ y => absurd y (h vs H Q E)⟩
/-! names_with_repetition -/
abbrev sNwr : Stmt := top 26
abbrev nNwr : List Str := ["requirement", "names", "part"]
theorem scNwr : FnScope nNwr ["requirement"] (defScope sNwr) := ⟨rfl, rfl, rfl, by decide +kernel, rfl, by decide +kernel, by decide +kernel⟩
def spNwr (D : List Part → Prop) : Sp := fun vs H Q _ => ∃ (r : Addr) (c : Int) (ps : List Part), vs = [.ref r] ∧ ReqAt H r c ps ∧ D ps ∧ (namesOf ps).length ≤ 1000 ∧
  ∀ (p : Addr) (H' : Hp), Same H H' → H p = none → H' p = some (.lst ((namesOf ps).map V.str)) → Q (.ref p) H'
theorem ok_nwr {D0 D : List Part → Prop} {f : Addr} {fd : FuncData} {k : Nat} (F : Fun K "names_with_repetition" "names_with_repetition" sNwr f fd) (bN : Binds K fd ["requirement"] []) (gN : mg "names_with_repetition" = some (.ref f)) (T : Blt mg)
    (G : FnOk P w K mg base CX0 k f fd ["requirement"] (spNwr D0)) (imp : ∀ ps, D ps → ∀ c ns, Sum.inr (c, ns) ∈ ps → D0 (ns.map Sum.inl)) : FnOk P w K mg base CX0 (k + 1) f fd ["requirement"] (spNwr D) := by
  refine F.ok scNwr (fun vs H Q E h => ?_) (fun cdv A outer s H vs Q E hr h => ?_)
  · obtain ⟨r, c, ps, rfl, _⟩ := h
    rfl
  · obtain ⟨r, c, ps, rfl, R, hD, few, q⟩ := h
    refine ⟨_, pss_cons (ps_set (i := 1) scNwr.nd rfl (Or.inl rfl) (pe_lst pa_nil))
      (pss_cons (ps_for PassesOwn.never rfl (pi_tup (pe_ix ix_tup (pv 0) pe_int (fun _ _ => rfl))) (pg_name (i := 2) scNwr.nd rfl (Or.inl rfl))
        (pss_one (ps_if (pt_val (pe_callB call_isi (by rfl) T.isi (by decide +kernel) (pa_cons (pv 2) (pa_cons (pe_bltn (v := .ty "str") (by rfl) T.str (by decide +kernel) rfl) pa_nil))))
          (pss_one (ps_expr (pe_bm PySem.F.plainAttrs_list PySem.F.slot_list_append PySem.F.type_list_append mt_append (pv 1) (pa_cons (pv 2) pa_nil))))
          (pss_one (ps_expr (pe_bm PySem.F.plainAttrs_list PySem.F.slot_list_extend PySem.F.type_list_extend mt_extend (pv 1) (pa_cons (pe_call G hr (by rfl) gN F.kp bN .nil pass0 (pa_cons (pv 2) pa_nil)) pa_nil)))))))
      (pss_one (ps_ret (pv 1)))), ?_⟩
    obtain ⟨pp, vs, hr1, hp1, PS⟩ := R
    refine ⟨Nat.zero_le _, fun l nl => ?_⟩
    have s1 : Same H (upd H l (.lst [])) := same_new nl
    refine ⟨.ref r, rfl, r, _, 1, .ref pp, rfl, rfl, SqT.of (s1 _ _ hr1), atI_nat (j := 1) rfl, pp, rfl, ⟨_, SqT.of (s1 _ _ hp1)⟩, for_tup (K := K) (a := pp) (xs := vs) (fun i σ H1 => ∃ y2 : Option V, σ = [some (.ref r), some (.ref l), y2] ∧
      Same H H1 ∧ H1 l = some (.lst ((namesOf (ps.take i)).map V.str))) ⟨none, rfl, s1, upd_same⟩ (fun i σ H1 _ ⟨_, _, s2, _⟩ => SqT.of (s2 _ _ hp1)) ?_ ?_⟩
    · rintro i x σ H1 hx ⟨y2, rfl, s2, h1⟩
      obtain ⟨p, hp, pa⟩ := PS.at hx
      have pa1 := pa.tups (Same.tups s2)
      have e := namesOf_take hp
      have le := namesOf_le ps (i + 1)
      have le0 := namesOf_le ps i
      obtain ⟨ty, ty1, ty2⟩ := isi_part (K := K) pa1
      refine ⟨x, rfl, _, _, ty, .type "str", _, rfl, .ty _, ty1, ty2, _, rfl, ?_⟩
      cases p with
      | inl z =>
        cases pa
        refine iteT ⟨.ref l, rfl, .inl ⟨rfl, _, SqL.of h1⟩, .str z, rfl, l, _, _, rfl, rfl, h1, ?_, _, rfl, fun d o c => ?_, ?_⟩
        · rw [List.length_map]
          exact small1000 (by omega)
        · rw [upd_ne (ne_of_none c nl)]
          exact s2 d o c
        · rw [upd_same, e, List.map_append]
          rfl
      | inr y =>
        obtain ⟨c', ns⟩ := y
        obtain ⟨q', rfl, R'⟩ := pa1.req
        have mem : Sum.inr (c', ns) ∈ ps := List.mem_of_getElem? hp
        have en : namesOf (ns.map Sum.inl) = ns := namesOf_names ns
        have e1 : namesOf [(Sum.inr (c', ns) : Part)] = ns := List.append_nil ns
        rw [e1] at e
        have lens := congrArg List.length e
        rw [List.length_append] at lens
        refine iteF ⟨.ref l, rfl, .inl ⟨rfl, _, SqL.of h1⟩, .ref q', rfl, q', c', ns.map Sum.inl, rfl, R', imp ps hD c' ns mem, by rw [en]; omega, fun p2 H2 s3 np2 h2 => ?_⟩
        rw [en] at h2
        refine ⟨l, p2, _, _, rfl, rfl, s3 _ _ h1, h2, ?_, _, rfl, fun d o c => ?_, ?_⟩
        · rw [List.length_map, List.length_map]
          exact Nat.le_of_lt (small1000 (by omega))
        · rw [upd_ne (ne_of_none c nl)]
          exact s3 _ _ (s2 d o c)
        · rw [upd_same, e, List.map_append]
    · rintro σ H1 ⟨y2, rfl, s2, h1⟩
      rw [PS.length, List.take_length] at h1
      exact ⟨.ref l, rfl, q l H1 s2 nl h1⟩
/-! names_in -/
abbrev sNin : Stmt := top 27
theorem scNin : FnScope ["requirement"] ["requirement"] (defScope sNin) := ⟨rfl, rfl, rfl, by decide +kernel, rfl, by decide +kernel, by decide +kernel⟩
def spNin : Sp := fun vs H Q _ => ∃ (r : Addr) (c : Int) (ps : List Part), vs = [.ref r] ∧ ReqAt H r c ps ∧ (namesOf ps).length < 64 ∧
  ∀ (p : Addr) (ys : List Str) (H' : Hp), Same H H' → H p = none → H' p = some (.tup (ys.map V.str)) → sortedS ys = true → ys.Nodup → (∀ x, x ∈ ys ↔ x ∈ namesOf ps) → Q (.ref p) H'
theorem ok_nin {f fN fW : Addr} {fd fdN fdW : FuncData} {k : Nat} (F : Fun K "names_in" "names_in" sNin f fd) (FN : Fun K "node_set" "node_set" sNs fN fdN) (bN : Binds K fdN ["names"] []) (gN : mg "node_set" = some (.ref fN))
    (FW : Fun K "names_with_repetition" "names_with_repetition" sNwr fW fdW) (bW : Binds K fdW ["requirement"] []) (gW : mg "names_with_repetition" = some (.ref fW)) (GN : FnOk P w K mg base CX0 k fN fdN ["names"] (spNs K)) (GW : FnOk P w K mg base CX0 k fW fdW ["requirement"] (spNwr fun _ => True)) :
    FnOk P w K mg base CX0 (k + 1) f fd ["requirement"] spNin := by
  refine F.ok scNin (fun vs H Q E h => ?_) (fun cdv A outer s H vs Q E hr h => ?_)
  · obtain ⟨r, c, ps, rfl, _⟩ := h
    rfl
  · obtain ⟨r, c, ps, rfl, R, few, q⟩ := h
    refine ⟨_, pss_one (ps_ret (pe_call GN hr (by rfl) gN FN.kp bN .nil pass0 (pa_cons (pe_call GW hr (by rfl) gW FW.kp bW .nil pass0 (pa_cons (pv 0) pa_nil)) pa_nil))), ?_⟩
    refine ⟨.ref r, rfl, r, c, ps, rfl, R, trivial, by omega, fun l H1 s1 nl h1 => ?_⟩
    exact ⟨l, _, rfl, SqL.of h1, few, fun p ys H2 s2 np h2 a1 a2 a3 => q p ys H2 (s1.trans s2) (s1.free np) h2 a1 a2 a3⟩
/-! satisfies_part -/
abbrev sSp : Stmt := top 28
theorem scSp : FnScope ["part", "nodes"] ["part", "nodes"] (defScope sSp) := ⟨rfl, rfl, rfl, by decide +kernel, rfl, by decide +kernel, by decide +kernel⟩
def spSp (K : PySem.W.Frag) (D : Part → Prop) : Sp := fun vs H Q _ => ∃ (v : V) (p : Part) (np : Addr) (S : List Str), vs = [v, .ref np] ∧ PartAt H v p ∧ D p ∧ NodesAt K H np S ∧ ∀ H', Same H H' → Q (.bl (satP S p)) H'
def spSat (K : PySem.W.Frag) (D : List Part → Prop) : Sp := fun vs H Q _ => ∃ (r : Addr) (c : Int) (ps : List Part) (np : Addr) (S : List Str), vs = [.ref r, .ref np] ∧ ReqAt H r c ps ∧ D ps ∧ ps.length ≤ 1000 ∧ NodesAt K H np S ∧ ∀ H', Same H H' → Q (.bl (sat S c ps)) H'
abbrev sSat : Stmt := top 29
theorem ok_sp {D0 : List Part → Prop} {D : Part → Prop} {f fS : Addr} {fd fdS : FuncData} {k : Nat} (F : Fun K "satisfies_part" "satisfies_part" sSp f fd) (FS : Fun K "satisfies" "satisfies" sSat fS fdS) (bS : Binds K fdS ["requirement", "nodes"] []) (gS : mg "satisfies" = some (.ref fS)) (T : Blt mg)
    (G : FnOk P w K mg base CX0 k fS fdS ["requirement", "nodes"] (spSat K D0)) (imp : ∀ c ns, D (.inr (c, ns)) → D0 (ns.map Sum.inl) ∧ ns.length ≤ 1000) : FnOk P w K mg base CX0 (k + 1) f fd ["part", "nodes"] (spSp K D) := by
  refine F.ok scSp (fun vs H Q E h => ?_) (fun cdv A outer s H vs Q E hr h => ?_)
  · obtain ⟨v, p, np, S, rfl, _⟩ := h
    rfl
  · obtain ⟨v, p, np, S, rfl, pa, hD, N, q⟩ := h
    refine ⟨_, pss_cons (ps_if (pt_val (pe_callB call_isi (by rfl) T.isi (by decide +kernel) (pa_cons (pv 0) (pa_cons (pe_bltn (v := .ty "str") (by rfl) T.str (by decide +kernel) rfl) pa_nil))))
        (pss_one (ps_ret (pe_cmpR op_in_seq (pv 0) (pv 1) (by rfl)))) pss_nil)
      (pss_one (ps_ret (pe_call G hr (by rfl) gS FS.kp bS .nil pass0 (pa_cons (pv 0) (pa_cons (pv 1) pa_nil))))), ?_⟩
    obtain ⟨ty, ty1, ty2⟩ := isi_part (K := K) pa
    refine ⟨v, rfl, _, _, ty, .type "str", _, rfl, .ty _, ty1, ty2, _, rfl, ?_⟩
    cases p with
    | inl z =>
      cases pa
      refine iteT ⟨.str z, rfl, .ref np, rfl, np, _, rfl, N, rfl, flats S, ?_⟩
      have e : inV (.str z) (S.map V.str) = satP S (.inl z) := inV_str z S
      rw [if_neg Bool.false_ne_true, e]
      exact q H (Same.refl H)
    | inr y =>
      obtain ⟨c, ns⟩ := y
      obtain ⟨r, rfl, R⟩ := pa.req
      obtain ⟨i1, i2⟩ := imp c ns hD
      refine iteF ⟨.ref r, rfl, .ref np, rfl, r, c, _, np, S, rfl, R, i1, by rw [List.length_map]; exact i2, N, fun H' s' => ?_⟩
      rw [sat_names]
      exact q H' s'
/-! satisfies -/
abbrev nSat : List Str := ["requirement", "nodes", "count", "parts", "satisfied", "part"]
theorem scSat : FnScope nSat ["requirement", "nodes"] (defScope sSat) := ⟨rfl, rfl, rfl, by decide +kernel, rfl, by decide +kernel, by decide +kernel⟩
theorem ok_sat {D0 : Part → Prop} {D : List Part → Prop} {f fP : Addr} {fd fdP : FuncData} {k : Nat} (F : Fun K "satisfies" "satisfies" sSat f fd) (FP : Fun K "satisfies_part" "satisfies_part" sSp fP fdP) (bP : Binds K fdP ["part", "nodes"] []) (gP : mg "satisfies_part" = some (.ref fP)) (T : Blt mg)
    (G : FnOk P w K mg base CX0 k fP fdP ["part", "nodes"] (spSp K D0)) (imp : ∀ ps, D ps → ∀ p ∈ ps, D0 p) : FnOk P w K mg base CX0 (k + 1) f fd ["requirement", "nodes"] (spSat K D) := by
  refine F.ok scSat (fun vs H Q E h => ?_) (fun cdv A outer s H vs Q E hr h => ?_)
  · obtain ⟨r, c, ps, np, S, rfl, _⟩ := h
    rfl
  · obtain ⟨r, c, ps, np, S, rfl, R, hD, few, N, q⟩ := h
    refine ⟨_, pss_cons (ps_asg (pv 0) (pg_tup (by rfl) (pgs_cons (pg_name (i := 2) scSat.nd rfl (Or.inl rfl)) (pgs_cons (pg_name (i := 3) scSat.nd rfl (Or.inl rfl)) pgs_nil))))
      (pss_cons (ps_setLc (i := 4) (own := [("part", 5)]) (g := gName 5) (by rfl) scSat.nd rfl rfl (sw_true rfl rfl rfl (by decide +kernel)) (pi_tup (pv 3)) (blkOk_by (N := nSat) (sc := defScope sSat) (by decide +kernel))
        (fun _ _ _ _ _ => pg_name (i := 5) scSat.nd rfl (Or.inl rfl)) (fun _ _ _ _ _ => pts_one (pt_val (pe_call G hr (by rfl) gP FP.kp bP .nil pass0 (pa_cons (pv 5) (pa_cons (pv 1) pa_nil))))) (fun _ _ _ _ _ => pv 5))
      (pss_one (ps_ret (pe_cmpR op_ge (pe_callB call_len_seq (by rfl) T.len PySem.boot_len (pa_cons (pv 4) pa_nil)) (pv 2) (nomark _))))), ?_⟩
    obtain ⟨pp, vs, hr1, hp1, PS⟩ := R
    refine ⟨.ref r, rfl, r, _, rfl, SqT.of hr1, rfl, _, _, rfl, _, _, rfl, rfl, ?_⟩
    refine ⟨.ref pp, rfl, pp, rfl, ⟨_, SqT.of hp1⟩, fun l nl => lc_tup (K := K) (a := pp) (xs := vs) (fun i H1 => Same H H1 ∧ ∃ us : List V, H1 l = some (.lst us) ∧ us.length = (ps.take i).countP (satP S)) ?_ (fun i H1 _ h => SqT.of (h.1 _ _ hp1)) ?_ ?_⟩
    · exact ⟨same_new nl, [], upd_same, rfl⟩
    · rintro i x H1 hx ⟨s1, us, h1, hl⟩
      obtain ⟨p, hp, pa⟩ := PS.at hx
      have tk : (ps.take (i + 1)).countP (satP S) = (ps.take i).countP (satP S) + (if satP S p = true then 1 else 0) := by
        rw [List.take_add_one, hp, List.countP_append]
        show _ + List.countP (satP S) [p] = _
        rw [List.countP_singleton]
      have le : (ps.take i).countP (satP S) ≤ 1000 := by
        refine Nat.le_trans List.countP_le_length ?_
        rw [List.length_take]
        omega
      refine ⟨rfl, x, rfl, .ref np, rfl, x, p, np, S, rfl, pa.tups (Same.tups s1), imp ps hD p (List.mem_of_getElem? hp), N.same s1, fun H2 s2 => ⟨_, rfl, ?_⟩⟩
      cases c' : satP S p with
      | true =>
        rw [c', if_pos rfl] at tk
        refine iteT ⟨x, rfl, us, s2 _ _ h1, small1000 (by omega), fun d o e => ?_, us ++ [x], upd_same, ?_⟩
        · rw [upd_ne (ne_of_none e nl)]
          exact s2 _ _ (s1 d o e)
        · rw [List.length_append, hl, tk]
          rfl
      | false =>
        rw [c', if_neg Bool.false_ne_true] at tk
        exact iteF ⟨s1.trans s2, us, s2 _ _ h1, by rw [hl, tk]; rfl⟩
    · rintro H1 ⟨s1, us, h1, hl⟩
      rw [PS.length, List.take_length] at hl
      refine ⟨.ref l, rfl, l, us, rfl, .inl (SqL.of h1), .int c, rfl, _, _, rfl, rfl, ?_⟩
      rw [hl]
      exact q H1 s1
end
end Moot
namespace Moot
open PySem PySem.Spec PyProof.Rows L2
/-- the names that are left -/
def outs (S : List Str) (ps : List Part) : List Str := (namesOf ps).filter fun x => decide (x ∉ S)
def blk (S : List Str) (c : Int) (ps : List Part) : Bool := !sat (outs S ps) c ps
theorem sat_outs {S zs : List Str} {c : Int} {ps : List Part} (h : ∀ x, x ∈ zs ↔ x ∈ namesOf ps) : sat (zs.filter fun x => decide (x ∉ S)) c ps = sat (outs S ps) c ps := by
  refine sat_same fun x _ => ?_
  unfold outs
  rw [List.mem_filter, List.mem_filter, h x]
/-- every inner one is short -/
def Short (ps : List Part) : Prop := ∀ c ns, Sum.inr (c, ns) ∈ ps → ns.length ≤ 1000
def ShortP (p : Part) : Prop := ∀ c ns, p = .inr (c, ns) → ns.length ≤ 1000
theorem Short.p {ps : List Part} (h : Short ps) : ∀ p ∈ ps, ShortP p := fun p m c ns e => h c ns (e ▸ m)
def AllNames (ps : List Part) : Prop := ∀ p ∈ ps, p.isLeft = true
theorem allNames (ns : List Str) : AllNames (ns.map Sum.inl) := fun p m => by
  obtain ⟨x, _, rfl⟩ := List.mem_map.mp m
  rfl
theorem nodup_le : ∀ {l D : List Str}, l.Nodup → (∀ y ∈ l, y ∈ D) → l.length ≤ D.length
  | [], _, _, _ => Nat.zero_le _
  | y :: l, D, n, s => by
    obtain ⟨n1, n2⟩ := List.nodup_cons.mp n
    have my := s y List.mem_cons_self
    have := nodup_le (D := D.erase y) n2 fun z mz => (List.mem_erase_of_ne fun (e : z = y) => n1 (e ▸ mz)).mpr (s z (List.mem_cons_of_mem _ mz))
    have e := List.length_erase_of_mem my
    have := List.length_pos_of_mem my
    rw [List.length_cons]
    omega
section
variable {P : Program} {w : World} {K : PySem.W.Frag} {mg : Str → Option Value} {base : Heap}
/-- satisfies, for all requirements -/
theorem ok_sat_all {f fP : Addr} {fd fdP : FuncData} (F : Fun K "satisfies" "satisfies" sSat f fd) (b : Binds K fd ["requirement", "nodes"] []) (g : mg "satisfies" = some (.ref f)) (FP : Fun K "satisfies_part" "satisfies_part" sSp fP fdP) (bP : Binds K fdP ["part", "nodes"] []) (gP : mg "satisfies_part" = some (.ref fP)) (T : Blt mg) :
    FnOk P w K mg base CX0 4 f fd ["requirement", "nodes"] (spSat K Short) := by
  have g0 : FnOk P w K mg base CX0 0 f fd ["requirement", "nodes"] (spSat K fun _ => False) := fn_none 0 fun vs H Q E ⟨r, c, ps, np, S, _, _, h, _⟩ => h
  have g1 : FnOk P w K mg base CX0 1 fP fdP ["part", "nodes"] (spSp K fun p => p.isLeft = true) := ok_sp FP F b g T g0 fun c ns h => by cases h
  have g2 : FnOk P w K mg base CX0 2 f fd ["requirement", "nodes"] (spSat K AllNames) := ok_sat F FP bP gP T g1 fun ps h => h
  have g3 : FnOk P w K mg base CX0 3 fP fdP ["part", "nodes"] (spSp K ShortP) := ok_sp FP F b g T g2 fun c ns h => ⟨allNames ns, h c ns rfl⟩
  exact ok_sat F FP bP gP T g3 fun ps h => h.p
/-- names_with_repetition, for all -/
theorem ok_nwr_all {f : Addr} {fd : FuncData} (F : Fun K "names_with_repetition" "names_with_repetition" sNwr f fd) (b : Binds K fd ["requirement"] []) (g : mg "names_with_repetition" = some (.ref f)) (T : Blt mg) : FnOk P w K mg base CX0 2 f fd ["requirement"] (spNwr fun _ => True) := by
  have g0 : FnOk P w K mg base CX0 0 f fd ["requirement"] (spNwr fun _ => False) := fn_none 0 fun vs H Q E ⟨r, c, ps, _, _, h, _⟩ => h
  have g1 : FnOk P w K mg base CX0 1 f fd ["requirement"] (spNwr AllNames) := ok_nwr F b g T g0 fun ps h c ns m => by
    have := h _ m
    cases this
  exact ok_nwr F b g T g1 fun ps _ c ns m => allNames ns
end
end Moot
namespace Moot
open PySem PySem.Spec PyProof.Rows L2
/-! sets of names, certificates -/
theorem nd_len {α : Type} [DecidableEq α] : ∀ (l D : List α), l.Nodup → (∀ y ∈ l, y ∈ D) → l.length ≤ D.length
  | [], _, _, _ => Nat.zero_le _
  | y :: l, D, n, s => by
    obtain ⟨n1, n2⟩ := List.nodup_cons.mp n
    have my := s y List.mem_cons_self
    have := nd_len l (D.erase y) n2 fun z mz => (List.mem_erase_of_ne fun (e : z = y) => n1 (e ▸ mz)).mpr (s z (List.mem_cons_of_mem _ mz))
    have e := List.length_erase_of_mem my
    have := List.length_pos_of_mem my
    rw [List.length_cons]
    omega
/-! one sorted list of the same names -/
theorem lt_tr {a b c : List Nat} (h1 : ltCps b a = false) (h2 : ltCps c b = false) : ltCps c a = false := by
  rw [ltCps_eq] at h1 h2 ⊢
  have h1' : ¬ b < a := of_decide_eq_false h1
  have h2' : ¬ c < b := of_decide_eq_false h2
  exact decide_eq_false (List.not_lt.mpr (List.le_trans (List.not_lt.mp h1') (List.not_lt.mp h2')))
theorem rising_all : ∀ {r : List Str} {x : Str}, risingS x r = true → (∀ y ∈ r, ltCps y.cps.toList x.cps.toList = false) ∧ r.Pairwise fun a b => ltCps b.cps.toList a.cps.toList = false
  | [], _, _ => ⟨fun y m => by simp at m, List.Pairwise.nil⟩
  | z :: r, x, h => by
    have h' : (!ltCps z.cps.toList x.cps.toList && risingS z r) = true := h
    rw [Bool.and_eq_true, Bool.not_eq_true'] at h'
    obtain ⟨a, b⟩ := rising_all h'.2
    refine ⟨fun y m => ?_, List.pairwise_cons.mpr ⟨a, b⟩⟩
    rcases List.mem_cons.mp m with e | m
    · rw [e]
      exact h'.1
    · exact lt_tr h'.1 (a y m)
theorem sorted_pairs {l : List Str} (h : sortedS l = true) : l.Pairwise fun a b => ltCps b.cps.toList a.cps.toList = false := by
  cases l with
  | nil => exact List.Pairwise.nil
  | cons x r => exact List.pairwise_cons.mpr (rising_all h)
abbrev Srt (L : List Str) : Prop := L.Pairwise fun a b => ltCps b.cps.toList a.cps.toList = false
theorem srt_one {a b : List Str} (ha : Srt a) (na : a.Nodup) (hb : Srt b) (nb : b.Nodup) (h : ∀ x, x ∈ a ↔ x ∈ b) : a = b := by
  refine List.Perm.eq_of_pairwise (fun x y _ _ h1 h2 => ?_) ha hb ((List.perm_ext_iff_of_nodup na nb).mpr h)
  rw [ltCps_eq] at h1 h2
  have h1' : ¬ y.cps.toList < x.cps.toList := of_decide_eq_false h1
  have h2' : ¬ x.cps.toList < y.cps.toList := of_decide_eq_false h2
  have e := List.le_antisymm (List.not_lt.mp h1') (List.not_lt.mp h2')
  rcases x with ⟨x⟩
  rcases y with ⟨y⟩
  have : x = y := Array.toList_inj.mp e
  rw [this]
/-- how many of xs are in S -/
def cnt (xs S : List Str) : Nat := xs.countP fun x => decide (x ∈ S)
theorem cnt_perm {xs ys S : List Str} (h : ys.Perm xs) : cnt ys S = cnt xs S := h.countP_eq _
theorem cnt_len {xs S : List Str} (nx : xs.Nodup) (nS : S.Nodup) (h : ∀ x ∈ S, x ∈ xs) : cnt xs S = S.length := by
  unfold cnt
  rw [List.countP_eq_length_filter]
  have a := nd_len (xs.filter fun x => decide (x ∈ S)) S (nx.filter _) fun y my => of_decide_eq_true (List.mem_filter.mp my).2
  have b := nd_len S (xs.filter fun x => decide (x ∈ S)) nS fun y my => List.mem_filter.mpr ⟨h y my, decide_eq_true my⟩
  omega
/-- a set of nodes outside F, written in order -/
structure Hon (xs F L : List Str) : Prop where
  srt : Srt L
  nd : L.Nodup
  inn : ∀ x ∈ L, x ∈ xs
  out : ∀ x ∈ L, x ∉ F
theorem cnt_hon {xs F L : List Str} (nx : xs.Nodup) (nF : F.Nodup) (hF : ∀ x ∈ F, x ∈ xs) (h : Hon xs F L) : cnt xs (L ++ F) = L.length + F.length := by
  rw [cnt_len nx (List.nodup_append.mpr ⟨h.nd, nF, fun a ma b mb e => h.out a ma (e ▸ mb)⟩) fun x mx => (List.mem_append.mp mx).elim (h.inn x) (hF x), List.length_append]
def okL (c : Int) (f : Nat) (L : List Str) : Bool := !L.isEmpty && decide (c ≤ (L.length : Int) + (f : Int))
theorem okL_iff {c : Int} {f : Nat} {L : List Str} : okL c f L = true ↔ L ≠ [] ∧ c ≤ (L.length : Int) + (f : Int) := by
  unfold okL
  rw [Bool.and_eq_true, decide_eq_true_eq, Bool.not_eq_true', List.isEmpty_eq_false_iff]
theorem okL_not {c : Int} {f : Nat} {L : List Str} : okL c f L = false ↔ L = [] ∨ (L.length : Int) + (f : Int) < c := by
  rw [← Bool.not_eq_true, okL_iff]
  constructor
  · intro h
    by_cases e : L = []
    · exact .inl e
    · exact .inr (by
        rcases Int.lt_or_le ((L.length : Int) + (f : Int)) c with h1 | h1
        · exact h1
        · exact absurd ⟨e, h1⟩ h)
  · rintro (h | h) ⟨a, b⟩
    · exact a h
    · omega
def dropN (L : List Str) (x : Str) : List Str := L.filter fun y => decide (y ≠ x)
theorem dropN_out (L : List Str) (x : Str) : (L.filter fun y => decide (y ∉ [x])) = dropN L x := by
  unfold dropN
  refine List.filter_congr fun y _ => ?_
  rw [decide_eq_decide, List.mem_singleton]
theorem dropN_len {L : List Str} {x : Str} (h : x ∈ L) : (dropN L x).length < L.length := by
  unfold dropN
  exact List.length_filter_lt_length_iff_exists.mpr ⟨x, h, by simp⟩
theorem dropN_mem {L : List Str} {x y : Str} : y ∈ dropN L x ↔ y ∈ L ∧ y ≠ x := by
  unfold dropN
  rw [List.mem_filter, decide_eq_true_eq]
theorem Hon.filter {xs F L : List Str} (h : Hon xs F L) (p : Str → Bool) : Hon xs F (L.filter p) :=
  ⟨List.Pairwise.sublist List.filter_sublist h.srt, h.nd.filter _, fun x m => h.inn x (List.mem_filter.mp m).1, fun x m => h.out x (List.mem_filter.mp m).1⟩
theorem Hon.drop {xs F L : List Str} (h : Hon xs F L) (x : Str) : Hon xs F (dropN L x) := h.filter _
inductive Crt where
  | one (L : List Str)
  | other (L : List Str)
  | split (x : Str) (a b : Crt)
inductive Res where
  | disj (A B : List Str)
  | crt (t : Crt)
def cq (c : Int) (f : Nat) : Nat → List Str → List Str → Res
  | 0, A, _ => .crt (.one A)
  | n + 1, A, B =>
    if okL c f A = true then
      if okL c f B = true then
        match A.filter fun x => decide (x ∈ B) with
        | [] => .disj A B
        | x :: _ => match cq c f n (dropN A x) B with
          | .disj a b => .disj a b
          | .crt t => match cq c f n A (dropN B x) with
            | .disj a b => .disj a b
            | .crt u => .crt (.split x t u)
      else .crt (.other B)
    else .crt (.one A)
def Valid (c : Int) (f : Nat) : Crt → List Str → List Str → Prop
  | .one L, A, _ => L = A ∧ okL c f A = false
  | .other L, _, B => L = B ∧ okL c f B = false
  | .split x t u, A, B => x ∈ A ∧ x ∈ B ∧ Valid c f t (dropN A x) B ∧ Valid c f u A (dropN B x)
theorem cq_valid {c : Int} {f : Nat} : ∀ (n : Nat) (A B : List Str) (t : Crt), A.length + B.length < n → cq c f n A B = .crt t → Valid c f t A B := by
  intro n
  induction n with
  | zero => intro A B t h; omega
  | succ n ih =>
    intro A B t h e
    unfold cq at e
    by_cases oA : okL c f A = true
    · rw [if_pos oA] at e
      by_cases oB : okL c f B = true
      · rw [if_pos oB] at e
        cases hx : A.filter (fun x => decide (x ∈ B)) with
        | nil =>
          rw [hx] at e
          cases e
        | cons x r =>
          rw [hx] at e
          have mx : x ∈ A ∧ x ∈ B := by
            have : x ∈ A.filter (fun x => decide (x ∈ B)) := by rw [hx]; exact List.mem_cons_self
            obtain ⟨h1, h2⟩ := List.mem_filter.mp this
            exact ⟨h1, of_decide_eq_true h2⟩
          have lA := dropN_len mx.1
          have lB := dropN_len mx.2
          dsimp only at e
          cases h1 : cq c f n (dropN A x) B with
          | disj a b => rw [h1] at e; cases e
          | crt t1 =>
            rw [h1] at e
            dsimp only at e
            cases h2 : cq c f n A (dropN B x) with
            | disj a b => rw [h2] at e; cases e
            | crt t2 =>
              rw [h2] at e
              cases e
              exact ⟨mx.1, mx.2, ih _ _ _ (by omega) h1, ih _ _ _ (by omega) h2⟩
      · rw [if_neg oB] at e
        cases e
        exact ⟨rfl, by simpa using oB⟩
    · rw [if_neg oA] at e
      cases e
      exact ⟨rfl, by simpa using oA⟩
theorem cq_disj {c : Int} {f : Nat} : ∀ (n : Nat) (A B A' B' : List Str), cq c f n A B = .disj A' B' → A'.Sublist A ∧ B'.Sublist B ∧ okL c f A' = true ∧ okL c f B' = true ∧ ∀ x ∈ A', x ∉ B' := by
  intro n
  induction n with
  | zero => intro A B A' B' e; cases e
  | succ n ih =>
    intro A B A' B' e
    unfold cq at e
    by_cases oA : okL c f A = true
    · rw [if_pos oA] at e
      by_cases oB : okL c f B = true
      · rw [if_pos oB] at e
        cases hx : A.filter (fun x => decide (x ∈ B)) with
        | nil =>
          rw [hx] at e
          cases e
          refine ⟨List.Sublist.refl _, List.Sublist.refl _, oA, oB, fun x mA mB => ?_⟩
          have : x ∈ A.filter (fun x => decide (x ∈ B)) := List.mem_filter.mpr ⟨mA, decide_eq_true mB⟩
          rw [hx] at this
          cases this
        | cons x r =>
          rw [hx] at e
          dsimp only at e
          cases h1 : cq c f n (dropN A x) B with
          | disj a b =>
            rw [h1] at e
            cases e
            obtain ⟨s1, s2, r⟩ := ih _ _ _ _ h1
            exact ⟨s1.trans List.filter_sublist, s2, r⟩
          | crt t1 =>
            rw [h1] at e
            dsimp only at e
            cases h2 : cq c f n A (dropN B x) with
            | disj a b =>
              rw [h2] at e
              cases e
              obtain ⟨s1, s2, r⟩ := ih _ _ _ _ h2
              exact ⟨s1, s2.trans List.filter_sublist, r⟩
            | crt t2 => rw [h2] at e; cases e
      · rw [if_neg oB] at e
        cases e
    · rw [if_neg oA] at e
      cases e
theorem valid_none {c : Int} {f : Nat} : ∀ (t : Crt) (A B A' B' : List Str), Valid c f t A B → A'.Nodup → B'.Nodup → (∀ x ∈ A', x ∈ A) → (∀ x ∈ B', x ∈ B) → okL c f A' = true → okL c f B' = true → ¬ ∀ x ∈ A', x ∉ B' := by
  intro t
  have small : ∀ A A' : List Str, okL c f A = false → A'.Nodup → (∀ x ∈ A', x ∈ A) → okL c f A' = true → False := fun A A' hA nd sub ok => by
    obtain ⟨ne, le⟩ := okL_iff.mp ok
    have l := nd_len A' A nd sub
    rcases okL_not.mp hA with rfl | h
    · exact ne (List.length_eq_zero_iff.mp (by simpa using l))
    · omega
  induction t with
  | one L => intro A B A' B' v nA nB sA sB oA oB _; exact small A A' v.2 nA sA oA
  | other L => intro A B A' B' v nA nB sA sB oA oB _; exact small B B' v.2 nB sB oB
  | split x t u iht ihu =>
    intro A B A' B' v nA nB sA sB oA oB d
    obtain ⟨_, _, v1, v2⟩ := v
    by_cases m : x ∈ A'
    · exact ihu A (dropN B x) A' B' v2 nA nB sA (fun y my => dropN_mem.mpr ⟨sB y my, fun e => d x m (e ▸ my)⟩) oA oB d
    · exact iht (dropN A x) B A' B' v1 nA nB (fun y my => dropN_mem.mpr ⟨sA y my, fun e => m (e ▸ my)⟩) sB oA oB d
/-- the verdict by counting -/
theorem verdict {c : Int} {f n : Nat} {L : List Str} (nd : L.Nodup) (hn : L.length + L.length < n) : ((∃ A B, cq c f n L L = .disj A B) ↔ 2 * (if c - f > 1 then c - f else 1) ≤ (L.length : Int)) := by
  constructor
  · rintro ⟨A, B, e⟩
    obtain ⟨sA, sB, oA, oB, d⟩ := cq_disj _ _ _ _ _ e
    obtain ⟨nA, lA⟩ := okL_iff.mp oA
    obtain ⟨nB, lB⟩ := okL_iff.mp oB
    have pA := List.length_pos_iff.mpr nA
    have pB := List.length_pos_iff.mpr nB
    have := nd_len (A ++ B) L (List.nodup_append.mpr ⟨sA.nodup nd, sB.nodup nd, fun a ma b mb e => d a ma (e ▸ mb)⟩) fun y my => (List.mem_append.mp my).elim (fun m => sA.subset m) fun m => sB.subset m
    rw [List.length_append] at this
    split <;> omega
  · intro h
    cases e : cq c f n L L with
    | disj A B => exact ⟨A, B, rfl⟩
    | crt t =>
      exfalso
      have v := cq_valid _ _ _ _ hn e
      have w : ∃ k : Nat, (k : Int) = (if c - f > 1 then c - f else 1) := ⟨(if c - f > 1 then c - f else 1).toNat, by split <;> omega⟩
      obtain ⟨k, hk⟩ := w
      rw [← hk] at h
      have k1 : 1 ≤ k := by
        have : (1 : Int) ≤ (if c - f > 1 then c - f else 1) := by split <;> omega
        omega
      have kc : c ≤ (k : Int) + f := by
        have : c - f ≤ (if c - f > 1 then c - f else 1) := by split <;> omega
        omega
      have l1 : (L.take k).length = k := by rw [List.length_take]; omega
      have l2 : ((L.drop k).take k).length = k := by rw [List.length_take, List.length_drop]; omega
      have ok1 : okL c f (L.take k) = true := okL_iff.mpr ⟨fun z => by rw [z] at l1; simp at l1; omega, by omega⟩
      have ok2 : okL c f ((L.drop k).take k) = true := okL_iff.mpr ⟨fun z => by rw [z] at l2; simp at l2; omega, by omega⟩
      have nd2 := nd
      rw [← List.take_append_drop k L] at nd2
      obtain ⟨_, _, dj⟩ := List.nodup_append.mp nd2
      exact valid_none t L L (L.take k) ((L.drop k).take k) v ((List.take_sublist k L).nodup nd) (((List.take_sublist _ _).trans (List.drop_sublist k L)).nodup nd) (fun x m => List.mem_of_mem_take m) (fun x m => List.mem_of_mem_drop (List.mem_of_mem_take m)) ok1 ok2
        fun x m1 m2 => dj x m1 x (List.mem_of_mem_take m2) rfl
end Moot
namespace Moot
open PySem PySem.Spec PyProof.Rows L2
structure Bq (mg : Str → Option Value) : Prop where
  T : Blt mg
  all : mg "all" = none
  any : mg "any" = none
  dict : mg "dict" = none
  letters : ∃ u, mg "LETTERS" = some u ∧ RelV (.str abc) u
  longest : ∃ u, mg "LONGEST_NAME" = some u ∧ RelV (.int 8) u
  mostn : ∃ u, mg "MOST_NAMES" = some u ∧ RelV (.int 12) u
  mostd : ∃ u, mg "MOST_DIFFERENT_NAMES" = some u ∧ RelV (.int 8) u
theorem abc_mem {c : Nat} (h : 97 ≤ c ∧ c ≤ 122) : c ∈ abc.cps.toList := by
  rw [abc_list]
  exact List.mem_map.mpr ⟨c - 97, List.mem_range.mpr (by omega), by omega⟩
theorem all_true {α : Type} (l : List α) : ((l.map fun _ => true).all id) = true := by
  rw [List.all_map]
  exact List.all_eq_true.mpr fun _ _ => rfl
/-- a requirement of that many of the names -/
def Uni (H : Hp) (r : Addr) (c : Int) (xs : List Str) : Prop := ∃ (p : Addr) (zs : List Str), H r = some (.tup [.int c, .ref p]) ∧ H p = some (.tup (zs.map V.str)) ∧ zs.Perm xs
theorem Uni.same {H H' : Hp} {r : Addr} {c : Int} {xs : List Str} (h : Uni H r c xs) (s : Same H H') : Uni H' r c xs := let ⟨p, zs, h1, h2, h3⟩ := h; ⟨p, zs, s _ _ h1, s _ _ h2, h3⟩
theorem Uni.req {H : Hp} {r : Addr} {c : Int} {xs : List Str} (h : Uni H r c xs) : ∃ zs : List Str, ReqAt H r c (zs.map Sum.inl) ∧ zs.Perm xs := let ⟨p, zs, h1, h2, h3⟩ := h; ⟨zs, ⟨p, _, h1, h2, Parts.names zs⟩, h3⟩
section
variable {P : Program} {w : World} {K : PySem.W.Frag} {mg : Str → Option Value} {base : Heap}
/-! node_set, again -/
def spNs2 (K : PySem.W.Frag) : Sp := fun vs H Q _ => ∃ (l : Addr) (zs : List Str), vs = [.ref l] ∧ NodesAt K H l zs ∧ zs.length < 64 ∧
  ∀ (p : Addr) (ys : List Str) (H' : Hp), Same H H' → H p = none → H' p = some (.tup (ys.map V.str)) → Srt ys → ys.Nodup → (∀ x, x ∈ ys ↔ x ∈ zs) → Q (.ref p) H'
theorem ok_ns2 {f : Addr} {fd : FuncData} {k : Nat} (F : Fun K "node_set" "node_set" sNs f fd) (T : Bq mg) : FnOk P w K mg base CX0 (k + 1) f fd ["names"] (spNs2 K) := by
  refine F.ok scNs (fun vs H Q E h => ?_) (fun cdv A outer s H vs Q E hr h => ?_)
  · obtain ⟨l, zs, rfl, _⟩ := h
    rfl
  · obtain ⟨l, zs, rfl, hl, few, q⟩ := h
    refine ⟨_, pss_one (ps_ret (pe_callTy call_tuple_of (by rfl) T.T.tup (by decide +kernel) (pa_cons (pe_callB (cr_txtSorted rfl) (by rfl) T.T.srt (by decide +kernel)
      (pa_cons (pe_callTy (cr_txtSetA rfl) (by rfl) T.T.set (by decide +kernel) (pa_cons (pv 0) pa_nil)) pa_nil)) pa_nil))), ?_⟩
    refine ⟨.ref l, rfl, l, zs, rfl, hl, few, fun a m na hm => ?_⟩
    refine ⟨a, _, m, rfl, upd_same, by omega, fun ys p srt nd mem len np => ?_⟩
    refine ⟨p, _, rfl, .inl ⟨SqL.of upd_same, fun t nt => ?_⟩⟩
    have s1 := same_new (o := TxtSet P w a (fun k => decide (k ∈ zs)) m) na
    have s2 := same_new (o := .lst (ys.map V.str)) np
    have s3 := same_new (o := .tup (ys.map V.str)) nt
    exact q t ys _ ((s1.trans s2).trans s3) ((s1.trans s2).free nt) upd_same (sorted_pairs srt) nd fun x => (mem x).trans (by simp)
/-! names_outside -/
abbrev sOut : Stmt := top 11
abbrev nOut : List Str := ["names", "excluded", "name"]
theorem scOut : FnScope nOut ["names", "excluded"] (defScope sOut) := ⟨rfl, rfl, rfl, by decide +kernel, rfl, by decide +kernel, by decide +kernel⟩
def spOut (K : PySem.W.Frag) : Sp := fun vs H Q _ => ∃ (a e : Addr) (xs es : List Str), vs = [.ref a, .ref e] ∧ H a = some (.tup (xs.map V.str)) ∧ NodesAt K H e es ∧ xs.length ≤ 100 ∧
  ∀ (p : Addr) (H' : Hp), Same H H' → H p = none → H' p = some (.tup ((xs.filter fun x => decide (x ∉ es)).map V.str)) → Q (.ref p) H'
theorem ok_out {f : Addr} {fd : FuncData} {k : Nat} (F : Fun K "names_outside" "names_outside" sOut f fd) (T : Bq mg) : FnOk P w K mg base CX0 (k + 1) f fd ["names", "excluded"] (spOut K) := by
  refine F.ok scOut (fun vs H Q E h => ?_) (fun cdv A outer s H vs Q E hr h => ?_)
  · obtain ⟨a, e, xs, es, rfl, _⟩ := h
    rfl
  · obtain ⟨a, e, xs, es, rfl, ha, he, few, q⟩ := h
    refine ⟨_, pss_one (ps_ret (pe_callTy call_tuple_of (by rfl) T.T.tup (by decide +kernel) (pa_cons (pe_lc (own := [("name", 2)]) (g := gName 2) (by rfl) scOut.nd (pi_tup (pv 0)) (blkOk_by (N := nOut) (sc := defScope sOut) (by decide +kernel))
        (fun _ _ _ _ _ => pg_name (i := 2) scOut.nd rfl (Or.inl rfl)) (fun _ _ _ _ _ => pts_one (pt_cmpR (show OpR _ (compareOp .NotIn) (rIn K true) from op_notIn_seq) (pv 2) (pv 1) (by rfl))) (fun _ _ _ _ _ => pv 2)) pa_nil))), ?_⟩
    refine ⟨.ref a, rfl, a, rfl, ⟨_, SqT.of ha⟩, fun D nD => lc_tup (K := K) (a := a) (xs := xs.map V.str) (fun i H1 => Same H H1 ∧ H1 D = some (.lst (((xs.take i).filter fun x => decide (x ∉ es)).map V.str))) ?_ (fun i H1 _ h => SqT.of (h.1 _ _ ha)) ?_ ?_⟩
    · exact ⟨same_new nD, upd_same⟩
    · rintro i x H1 hx ⟨s1, hD⟩
      rw [List.getElem?_map] at hx
      obtain ⟨z, hz, rfl⟩ := Option.map_eq_some_iff.mp hx
      have tk : xs.take (i + 1) = xs.take i ++ [z] := by
        rw [List.take_add_one, hz]
        rfl
      refine ⟨rfl, .str z, rfl, .ref e, rfl, e, _, rfl, he.same s1, rfl, flats es, _, rfl, ?_⟩
      rw [inV_str]
      by_cases m : z ∈ es
      · rw [decide_eq_true m]
        refine iteF ⟨s1, ?_⟩
        rw [hD, tk, List.filter_append]
        simp [m]
      · rw [decide_eq_false m]
        refine iteT ⟨.str z, rfl, _, hD, ?_, fun d o c => ?_, ?_⟩
        · rw [List.length_map]
          refine small1000 (Nat.le_trans (List.length_filter_le _ _) ?_)
          rw [List.length_take]
          omega
        · rw [upd_ne (ne_of_none c nD)]
          exact s1 d o c
        · rw [upd_same, tk, List.filter_append]
          simp [m]
    · rintro H1 ⟨s1, hD⟩
      rw [List.length_map, List.take_length] at hD
      refine ⟨D, _, rfl, .inl ⟨SqL.of hD, fun t nt => ?_⟩⟩
      exact q t _ (s1.trans (same_new nt)) (s1.free nt) upd_same
/-! is_name -/
abbrev sIn : Stmt := top 20
abbrev nIn : List Str := ["value", "letter"]
theorem scIn : FnScope nIn ["value"] (defScope sIn) := ⟨rfl, rfl, rfl, by decide +kernel, rfl, by decide +kernel, by decide +kernel⟩
def spIn : Sp := fun vs H Q _ => ∃ z : Str, vs = [.str z] ∧ Nm z ∧ ∀ H', Same H H' → Q (.bl true) H'
theorem ok_isname {f : Addr} {fd : FuncData} {k : Nat} (F : Fun K "is_name" "is_name" sIn f fd) (T : Bq mg) : FnOk P w K mg base CX0 (k + 1) f fd ["value"] spIn := by
  obtain ⟨uL, mL, rL⟩ := T.letters
  obtain ⟨uG, mG, rG⟩ := T.longest
  refine F.ok scIn (fun vs H Q E h => ?_) (fun cdv A outer s H vs Q E hr h => ?_)
  · obtain ⟨z, rfl, _⟩ := h
    rfl
  · obtain ⟨z, rfl, nz, q⟩ := h
    refine ⟨_, pss_cons (ps_if (pt_not (pt_val (pe_callB call_isi (by rfl) T.T.isi (by decide +kernel) (pa_cons (pv 0) (pa_cons (pe_bltn (v := .ty "str") (by rfl) T.T.str (by decide +kernel) rfl) pa_nil))))) (pss_one (ps_ret pe_bl)) pss_nil)
      (pss_cons (ps_if (pt_not (pt_chain op_le op_le pe_int (pe_callB call_len_str (by rfl) T.T.len PySem.boot_len (pa_cons (pv 0) pa_nil)) (pe_glob (by rfl) mG rG))) (pss_one (ps_ret pe_bl)) pss_nil)
      (pss_one (ps_ret (pe_callB (cr_all rfl) (by rfl) T.all (by decide +kernel) (pa_cons (pe_lc (own := [("letter", 1)]) (g := gName 1) (tt := tYes) (by rfl) scIn.nd (pi_str (pv 0)) (blkOk_by (N := nIn) (sc := defScope sIn) (by decide +kernel))
          (fun _ _ _ _ _ => pg_name (i := 1) scIn.nd rfl (Or.inl rfl)) (fun _ _ _ _ _ => pts_nil) (fun _ _ _ _ _ => pe_cmpR op_in_sign (pv 1) (pe_glob (by rfl) mL rL) (by rfl))) pa_nil))))), ?_⟩
    have l8 : z.length ≤ 8 := nz.hi
    have l1 : 1 ≤ z.length := nz.lo
    refine ⟨.str z, rfl, _, _, .type "str", .type "str", true, rfl, .ty _, .base (.str z), kit_ty (r := true) (by decide +kernel), _, rfl, iteF ?_⟩
    refine ⟨.str z, rfl, z, rfl, Nat.le_of_lt (small1000 (by omega)), _, _, rfl, rfl, _, rfl, ?_⟩
    rw [decide_eq_true (show (1 : Int) ≤ (z.length : Int) by omega)]
    refine iteT ⟨_, _, rfl, rfl, _, rfl, ?_⟩
    rw [decide_eq_true (show (z.length : Int) ≤ 8 by omega)]
    refine iteF ?_
    refine ⟨.str z, rfl, z, rfl, fun D nD => ?_⟩
    refine lc_it walk_str (fun j H1 => Same H H1 ∧ H1 D = some (.lst (((z.cps.toList.take j).map fun _ => true).map V.bl))) ?_ (fun _ _ _ _ => trivial) ?_ ?_
    · exact ⟨same_new nD, upd_same⟩
    · rintro j x H1 H2 hj ⟨s1, hD⟩ ⟨rfl, c, hc, rfl⟩
      have tk : z.cps.toList.take (j + 1) = z.cps.toList.take j ++ [c] := by
        rw [List.take_add_one, Array.getElem?_toList, hc]
        rfl
      have mc : c ∈ z.cps.toList := List.mem_of_getElem? (by rw [Array.getElem?_toList]; exact hc)
      refine ⟨rfl, .str (sg c), rfl, c, abc, rfl, rfl, ?_⟩
      rw [decide_eq_true (abc_mem (nz.low c mc))]
      refine ⟨_, hD, ?_, fun a o e => ?_, ?_⟩
      · rw [List.length_map, List.length_map, List.length_take]
        have : z.cps.toList.length = z.length := by simp [Str.length]
        exact small1000 (by omega)
      · rw [upd_ne (ne_of_none e nD)]
        exact s1 a o e
      · rw [upd_same, tk, List.map_append, List.map_append]
        rfl
    · rintro H1 ⟨s1, hD⟩
      refine ⟨D, _, rfl, SqL.of hD, ?_⟩
      rw [all_true]
      exact q H1 s1
/-! is_whole_number -/
abbrev sWh : Stmt := top 21
theorem scWh : FnScope ["value"] ["value"] (defScope sWh) := ⟨rfl, rfl, rfl, by decide +kernel, rfl, by decide +kernel, by decide +kernel⟩
def spWh : Sp := fun vs H Q _ => ∃ i : Int, vs = [.int i] ∧ Q (.bl true) H
theorem ok_whole {f : Addr} {fd : FuncData} {k : Nat} (F : Fun K "is_whole_number" "is_whole_number" sWh f fd) (T : Bq mg) : FnOk P w K mg base CX0 (k + 1) f fd ["value"] spWh := by
  refine F.ok scWh (fun vs H Q E h => ?_) (fun cdv A outer s H vs Q E hr h => ?_)
  · obtain ⟨i, rfl, _⟩ := h
    rfl
  · obtain ⟨i, rfl, q⟩ := h
    refine ⟨_, pss_one (ps_ret (pe_and (pe_callB call_isi (by rfl) T.T.isi (by decide +kernel) (pa_cons (pv 0) (pa_cons (pe_bltn (v := .ty "int") (by rfl) T.T.int (by decide +kernel) rfl) pa_nil)))
      (pe_one (pe_not (pe_callB call_isi (by rfl) T.T.isi (by decide +kernel) (pa_cons (pv 0) (pa_cons (pe_bltn (v := .ty "bool") (by rfl) T.T.bool (by decide +kernel) rfl) pa_nil))))))), ?_⟩
    exact ⟨.int i, rfl, _, _, .type "int", .type "int", true, rfl, .ty _, .base (.int i), kit_ty (r := true) (by decide +kernel), _, rfl, iteT ⟨.int i, rfl, _, _, .type "int", .type "bool", false, rfl, .ty _, .base (.int i), kit_ty (r := false) (by decide +kernel), _, rfl, q⟩⟩
/-! is_counted_tuple -/
abbrev sCt : Stmt := top 22
abbrev nCt : List Str := ["value", "count", "parts"]
theorem scCt : FnScope nCt ["value"] (defScope sCt) := ⟨rfl, rfl, rfl, by decide +kernel, rfl, by decide +kernel, by decide +kernel⟩
def spCt : Sp := fun vs H Q _ => ∃ (r p : Addr) (c : Int) (ws : List V), vs = [.ref r] ∧ H r = some (.tup [.int c, .ref p]) ∧ H p = some (.tup ws) ∧ 1 ≤ c ∧ c ≤ (ws.length : Int) ∧ Q (.bl true) H
theorem ok_counted {f fW : Addr} {fd fdW : FuncData} {k : Nat} (F : Fun K "is_counted_tuple" "is_counted_tuple" sCt f fd) (T : Bq mg) (FW : Fun K "is_whole_number" "is_whole_number" sWh fW fdW) (bW : Binds K fdW ["value"] []) (gW : mg "is_whole_number" = some (.ref fW)) :
    FnOk P w K mg base CX0 (k + 2) f fd ["value"] spCt := by
  have GW : FnOk P w K mg base CX0 (k + 1) fW fdW ["value"] spWh := ok_whole FW T
  refine F.ok scCt (fun vs H Q E h => ?_) (fun cdv A outer s H vs Q E hr h => ?_)
  · obtain ⟨r, p, c, ws, rfl, _⟩ := h
    rfl
  · obtain ⟨r, p, c, ws, rfl, hr1, hp1, c1, c2, q⟩ := h
    refine ⟨_, pss_cons (ps_if (PW.pt (pw_or (pt_not (pt_val (pe_callB call_isi (by rfl) T.T.isi (by decide +kernel) (pa_cons (pv 0) (pa_cons (pe_bltn (v := .ty "tuple") (by rfl) T.T.tup (by decide +kernel) rfl) pa_nil)))))
          (pw_or1 (pt_cmpR op_ne (pe_callB call_len_seq (by rfl) T.T.len PySem.boot_len (pa_cons (pv 0) pa_nil)) pe_int (nomark _))))) (pss_one (ps_ret pe_bl)) pss_nil)
      (pss_cons (ps_asg (pv 0) (pg_tup (by rfl) (pgs_cons (pg_name (i := 1) scCt.nd rfl (Or.inl rfl)) (pgs_cons (pg_name (i := 2) scCt.nd rfl (Or.inl rfl)) pgs_nil))))
      (pss_cons (ps_if (PW.pt (pw_or (pt_not (pt_val (pe_call GW hr (by rfl) gW FW.kp bW .nil pass0 (pa_cons (pv 1) pa_nil)))) (pw_or1 (pt_not (pt_val (pe_callB call_isi (by rfl) T.T.isi (by decide +kernel) (pa_cons (pv 2) (pa_cons (pe_bltn (v := .ty "tuple") (by rfl) T.T.tup (by decide +kernel) rfl) pa_nil)))))))) (pss_one (ps_ret pe_bl)) pss_nil)
      (pss_one (ps_ret (pe_chain op_le op_le pe_int (pv 1) (pe_callB call_len_seq (by rfl) T.T.len PySem.boot_len (pa_cons (pv 2) pa_nil))))))), ?_⟩
    refine ⟨.ref r, rfl, _, _, .type "tuple", .type "tuple", true, rfl, .ty _, .base (.tup hr1), kit_ty (r := true) (by decide +kernel), _, rfl, iteF ⟨.ref r, rfl, r, _, rfl, .inr (SqT.of hr1), rfl, _, rfl, iteF ?_⟩⟩
    refine ⟨.ref r, rfl, r, _, rfl, SqT.of hr1, rfl, _, _, rfl, _, _, rfl, rfl, ?_⟩
    refine ⟨.int c, rfl, c, rfl, _, rfl, iteF ⟨.ref p, rfl, _, _, .type "tuple", .type "tuple", true, rfl, .ty _, .base (.tup hp1), kit_ty (r := true) (by decide +kernel), _, rfl, iteF ?_⟩⟩
    refine ⟨.int c, rfl, _, _, rfl, rfl, _, rfl, ?_⟩
    rw [decide_eq_true c1]
    refine iteT ⟨.ref p, rfl, p, _, rfl, .inr (SqT.of hp1), _, _, rfl, rfl, ?_⟩
    show Q (.bl (decide (c ≤ (ws.length : Int)))) H
    rw [decide_eq_true c2]
    exact q
/-! has_duplicates -/
abbrev sHd : Stmt := top 23
theorem scHd : FnScope ["parts"] ["parts"] (defScope sHd) := ⟨rfl, rfl, rfl, by decide +kernel, rfl, by decide +kernel, by decide +kernel⟩
def spHd (K : PySem.W.Frag) : Sp := fun vs H Q _ => ∃ (p : Addr) (zs : List Str), vs = [.ref p] ∧ NodesAt K H p zs ∧ zs.length < 64 ∧ zs.Nodup ∧ ∀ H', Same H H' → Q (.bl false) H'
theorem ok_dup {f : Addr} {fd : FuncData} {k : Nat} (F : Fun K "has_duplicates" "has_duplicates" sHd f fd) (T : Bq mg) : FnOk P w K mg base CX0 (k + 1) f fd ["parts"] (spHd K) := by
  refine F.ok scHd (fun vs H Q E h => ?_) (fun cdv A outer s H vs Q E hr h => ?_)
  · obtain ⟨p, zs, rfl, _⟩ := h
    rfl
  · obtain ⟨p, zs, rfl, hp, few, nd, q⟩ := h
    refine ⟨_, pss_one (ps_ret (pe_cmpR op_lt (pe_callB cr_txtLen (by rfl) T.T.len PySem.boot_len (pa_cons (pe_callTy (cr_txtSetA rfl) (by rfl) T.T.set (by decide +kernel) (pa_cons (pv 0) pa_nil)) pa_nil)) (pe_callB call_len_seq (by rfl) T.T.len PySem.boot_len (pa_cons (pv 0) pa_nil)) (nomark _))), ?_⟩
    refine ⟨.ref p, rfl, p, zs, rfl, hp, few, fun a m na hm => ⟨a, _, m, rfl, upd_same, by omega, fun least => ?_⟩⟩
    have le := least zs nd fun k mk => decide_eq_true mk
    have s1 := same_new (o := TxtSet P w a (fun k => decide (k ∈ zs)) m) na
    refine ⟨.ref p, rfl, p, _, rfl, hp.same s1, _, _, rfl, rfl, ?_⟩
    show Q (.bl (decide ((m : Int) < ((zs.map V.str).length : Int)))) _
    rw [List.length_map, decide_eq_false (show ¬ ((m : Int) < (zs.length : Int)) by omega)]
    exact q _ s1
end
end Moot
namespace Moot
open PySem PySem.Spec PyProof.Rows L2
/-! tuple(d), d a dict; a dict comprehension over a list -/
section
variable {X : Cx}
def rTupD : List V → Hp → VK → Prop := fun xs H Q => ∃ (p : Addr) (kvs : List (L2.Key × V)), xs = [.ref p] ∧ H p = some (.dK kvs) ∧ ∀ q, H q = none → Q (.ref q) (upd H q (.tup (kvs.map fun kv => kV kv.1)))
theorem call_tuple_dK (hc : X.calm = true) : CallR X (.type "tuple") rTupD := by
  intro pins s σ H xs us Q I r h
  obtain ⟨p, kvs, rfl, hk, q⟩ := h
  obtain ⟨u, rfl, rx⟩ := vals1 r
  cases rx
  obtain ⟨z, lo, vs, rk, hd⟩ := (show ObjOk X.prog X.w H s.heap p (.dK kvs) from I.hok p _ hk)
  obtain ⟨ep, hat⟩ := hd.dictAt
  have hl : kvs.length = vs.length := Paired.length rk
  have ht : s.TypeIs (.ref p) "dict" := by
    obtain ⟨o, es, ep', e1, e2, _⟩ := hd
    exact ⟨o, e1, e2.1⟩
  refine callType_codes (Q₁ := fun obj s₁ => s₁.TypeIs obj "tuple" ∧ EP X pins σ Q obj s₁) F.called_tuple (F.typeCall_tuple_1 _) F.entry_object_init ?_ fun obj s₁ h₁ => ?_
  · refine codeAny_of_tree ?_
    show wpAny _ _ (do checkBuiltinCall "tuple.__new__" ⟨[.type "tuple", .ref p], []⟩; again (.builtin "tuple.__new__" ⟨[.type "tuple", .ref p], []⟩)) _ _ s
    refine wpAny_bind (wpAny_of_eq (F.newCall_tuple_1 _) (wpAny_pure ⟨plainId_quiet F.plain_tuple_new _, codeAny_builtin F.entry_tuple_new ?_⟩))
    rw [Around.under_plainId F.plain_tuple_new _]
    have hsub := sub_tuple_self
    have hinit := init_tuple_lookup
    have hmh := madeHere_tuple
    have src := PySem.W.kdl_dict (prog := X.prog) (w := X.w) (knd := mixKind X.prog X.w) (kvs := vs) (ep := ep) lo
    unfold Builtin.«tuple.__new__»
    generalize hcol : collect = col
    wp_walk using wpAny_typeOf ht
    subst hcol
    refine PySem.W.kdu_collect src (I.ok.hd hc) hat (by rw [← hl]; exact z) fun h' tk acc hkeep hacc => ?_
    have el : acc.toList.length = vs.length := by rw [Array.length_toList, hacc.1]
    have vals : Vals (kvs.map fun kv => kV kv.1) acc.toList := by
      have e := keys_at el fun j v e => hacc.2 j v (by rw [← Array.getElem?_toList]; exact e)
      have e2 : (vs.map fun p => kV p.1) = kvs.map fun kv => kV kv.1 := by
        have e3 := congrArg (List.map kV) (KV.keys rk)
        rw [List.map_map, List.map_map] at e3
        exact e3.symm
      rw [e2] at e
      exact e
    have I1 : Inv X pins σ H { s with heap := h', toks := tk } := I.kept hkeep
    show wpAny _ _ (Builtin.Tuple.tupleExact acc.toList.toArray >>= fun v => ret v) _ _ _
    unfold Builtin.Tuple.tupleExact
    refine wpAny_bind (wpAny_newObj_type ?_ (by show acc.toList.toArray.size ≤ sizeLine; rw [List.size_toArray, el, ← hl]; exact z))
    refine wpAny_pure ⟨⟨_, Heap.get?_push_size _ rfl, rfl⟩, .ref _, _, I1.laid (t' := tk) (o := .tup (kvs.map fun kv => kV kv.1)) (fun b ob q => Heap.get?_push_of_some _ q) (Nat.le_refl _) ?_, rfl, q _ (I1.hok.fresh (Nat.le_refl _))⟩
    exact ⟨by rw [List.length_map]; exact z, acc.toList, vals, ⟨_, Heap.get?_push_size _ rfl, rfl, 0, rfl⟩⟩
  · exact ⟨h₁.1, F.args_object_init_2 obj _, object_init_meets F.called_tuple.init.lookup F.called_tuple.made (by decide) X.prog X.w X.A.in1 _ s₁ ⟨h₁.1, rfl, h₁.2⟩⟩
end
theorem dc_it {J : It} {n : Nat} {G : Hp → Prop} {Y : Nat → Hp → V → Hp → Prop} (wk : Walk J n G Y) {g : TG} {tt : TT} {tk tv : TE} {vs : List Nat} {σ : L2.St} {H1 : Hp} {D : Addr} {Qd : Hp → Prop} (Pv : Nat → Hp → Prop) (h0 : Pv 0 (upd H1 D (.dK []))) (hG : ∀ i H, i ≤ n → Pv i H → G H)
    (hs : ∀ i x H H', i < n → Pv i H → Y i H x H' → g x (wipe σ vs) H' fun σ2 H2 => wipe σ2 vs = wipe σ vs ∧ tt σ2 H2 fun b H3 =>
      if b = true then tk σ2 H3 fun y H4 => tv σ2 H4 fun z H5 => ∃ kvs k, y = kV k ∧ H5 D = some (.dK kvs) ∧ kvs.length < sizeLine ∧ Pv (i + 1) (upd H5 D (.dK (putK kvs k z))) else Pv (i + 1) H3) (hd : ∀ H, Pv n H → Qd H) :
    ∃ W : Nat → Nat → Hp → Prop, (∃ m, W 0 m (upd H1 D (.dK []))) ∧ ∀ i m H, W i m H →
      (J.stop i H ∧ Qd H) ∨ (J.go i H ∧ ∃ Nx : Hp → Prop, (∀ H', Nx H' → ∃ m', m' < m ∧ W (i + 1) m' H') ∧ ∀ x H', J.yld i H x H' → g x (wipe σ vs) H' fun σ2 H2 => wipe σ2 vs = wipe σ vs ∧ tt σ2 H2 fun b H3 =>
        if b = true then tk σ2 H3 fun y H4 => tv σ2 H4 fun z H5 => ∃ kvs k, y = kV k ∧ H5 D = some (.dK kvs) ∧ kvs.length < sizeLine ∧ Nx (upd H5 D (.dK (putK kvs k z))) else Nx H3) := by
  refine ⟨fun i m H => m + i = n ∧ Pv i H, ⟨n, rfl, h0⟩, ?_⟩
  rintro i m H ⟨e, p⟩
  have q := hG i H (by omega) p
  by_cases lt : i < n
  · exact .inr ⟨wk.goes i H lt q, Pv (i + 1), fun H' p' => ⟨n - (i + 1), by omega, by omega, p'⟩, fun x H' y => hs i x H H' lt p (wk.yields i H x H' lt q y)⟩
  · obtain rfl : i = n := by omega
    exact .inl ⟨wk.stops H q, hd H p⟩
end Moot
namespace Moot
open PySem PySem.Spec PyProof.Rows L2
/-! a dict from names to requirements -/
abbrev Rws := List (Str × Addr)
def kvs (rs : Rws) : List (L2.Key × V) := rs.map fun p => ((Sum.inr p.1 : L2.Key), V.ref p.2)
theorem kvs_len (rs : Rws) : (kvs rs).length = rs.length := List.length_map _
theorem val_in : ∀ {rs : Rws} {y : Str}, y ∈ rs.map (·.1) → ∃ r, (y, r) ∈ rs ∧ valV (kvs rs) (Sum.inr y : L2.Key) = some (.ref r)
  | [], _, h => by cases h
  | (x, r) :: rs, y, h => by
    by_cases e : x = y
    · subst e
      exact ⟨r, List.mem_cons_self, valV_pos (p := ((Sum.inr x : L2.Key), V.ref r)) rfl⟩
    · have m : y ∈ rs.map (·.1) := by
        rcases List.mem_cons.mp h with h | h
        · exact absurd h.symm e
        · exact h
      obtain ⟨r', m', e'⟩ := val_in m
      refine ⟨r', List.mem_cons_of_mem _ m', ?_⟩
      show valV (((Sum.inr x : L2.Key), V.ref r) :: kvs rs) (Sum.inr y : L2.Key) = _
      rw [← e']
      unfold valV
      rw [List.find?_cons_of_neg (by simpa using e)]
theorem val_out {rs : Rws} {y : Str} (h : y ∉ rs.map (·.1)) : valV (kvs rs) (Sum.inr y : L2.Key) = none := by
  unfold valV kvs
  rw [List.find?_eq_none.mpr]
  · rfl
  · intro p mp
    obtain ⟨q, mq, rfl⟩ := List.mem_map.mp mp
    simp
    intro e
    exact h (List.mem_map.mpr ⟨q, mq, e⟩)
/-- rows as a list of pairs -/
def RowsAt (H : Hp) (ts : List Addr) (rs : Rws) : Prop := ts.length = rs.length ∧ ∀ (i : Nat) (t : Addr), ts[i]? = some t → ∃ x r, rs[i]? = some (x, r) ∧ H t = some (.tup [.str x, .ref r])
theorem RowsAt.same {H H' : Hp} {ts : List Addr} {rs : Rws} (h : RowsAt H ts rs) (s : Same H H') : RowsAt H' ts rs := ⟨h.1, fun i t e => let ⟨x, r, h1, h2⟩ := h.2 i t e; ⟨x, r, h1, s _ _ h2⟩⟩
section
variable {P : Program} {w : World} {K : PySem.W.Frag} {mg : Str → Option Value} {base : Heap}
/-! is_requirement -/
abbrev sIr : Stmt := top 25
abbrev nIr : List Str := ["value", "parts", "names", "part"]
theorem scIr : FnScope nIr ["value"] (defScope sIr) := ⟨rfl, rfl, rfl, by decide +kernel, rfl, by decide +kernel, by decide +kernel⟩
abbrev sSr : Stmt := top 24
def spNot : Sp := fun _ _ _ _ => False
def spIr : Sp := fun vs H Q _ => ∃ (r : Addr) (c : Int) (xs : List Str), vs = [.ref r] ∧ Uni H r c xs ∧ xs.Nodup ∧ xs.length ≤ 8 ∧ (∀ x ∈ xs, Nm x) ∧ 1 ≤ c ∧ c ≤ (xs.length : Int) ∧ ∀ H', Same H H' → Q (.bl true) H'
theorem ok_isreq {f f1 f2 f3 f4 f5 : Addr} {fd fd1 fd2 fd3 fd4 fd5 : FuncData} {k : Nat} (F : Fun K "is_requirement" "is_requirement" sIr f fd) (T : Bq mg)
    (F1 : Fun K "is_counted_tuple" "is_counted_tuple" sCt f1 fd1) (b1 : Binds K fd1 ["value"] []) (g1 : mg "is_counted_tuple" = some (.ref f1)) (G1 : FnOk P w K mg base CX0 k f1 fd1 ["value"] spCt)
    (F2 : Fun K "is_name" "is_name" sIn f2 fd2) (b2 : Binds K fd2 ["value"] []) (g2 : mg "is_name" = some (.ref f2)) (G2 : FnOk P w K mg base CX0 k f2 fd2 ["value"] spIn)
    (F3 : Fun K "is_simple_requirement" "is_simple_requirement" sSr f3 fd3) (b3 : Binds K fd3 ["value"] []) (g3 : mg "is_simple_requirement" = some (.ref f3))
    (F4 : Fun K "has_duplicates" "has_duplicates" sHd f4 fd4) (b4 : Binds K fd4 ["parts"] []) (g4 : mg "has_duplicates" = some (.ref f4)) (G4 : FnOk P w K mg base CX0 k f4 fd4 ["parts"] (spHd K))
    (F5 : Fun K "names_with_repetition" "names_with_repetition" sNwr f5 fd5) (b5 : Binds K fd5 ["requirement"] []) (g5 : mg "names_with_repetition" = some (.ref f5)) (G5 : FnOk P w K mg base CX0 k f5 fd5 ["requirement"] (spNwr fun _ => True)) :
    FnOk P w K mg base CX0 (k + 1) f fd ["value"] spIr := by
  obtain ⟨uN, mN, rN⟩ := T.mostn
  obtain ⟨uD, mD, rD⟩ := T.mostd
  have G3 : FnOk P w K mg base CX0 k f3 fd3 ["value"] spNot := fn_none k fun _ _ _ _ h => h
  refine F.ok scIr (fun vs H Q E h => ?_) (fun cdv A outer s H vs Q E hr h => ?_)
  · obtain ⟨r, c, xs, rfl, _⟩ := h
    rfl
  · obtain ⟨r, c, xs, rfl, ⟨p, zs, hr1, hp1, pm⟩, ndx, few, nmx, c1, c2, q⟩ := h
    refine ⟨_, pss_cons (ps_if (pt_not (pt_val (pe_call G1 hr (by rfl) g1 F1.kp b1 .nil pass0 (pa_cons (pv 0) pa_nil)))) (pss_one (ps_ret pe_bl)) pss_nil)
      (pss_cons (ps_set (i := 1) scIr.nd rfl (Or.inl rfl) (pe_ix ix_tup (pv 0) pe_int (fun _ _ => rfl)))
      (pss_cons (ps_if (pt_not (pt_val (pe_callB (cr_all rfl) (by rfl) T.all (by decide +kernel) (pa_cons (pe_lc (own := [("part", 3)]) (g := gName 3) (tt := tYes) (by rfl) scIr.nd (pi_tup (pv 1)) (blkOk_by (N := nIr) (sc := defScope sIr) (by decide +kernel))
          (fun _ _ _ _ _ => pg_name (i := 3) scIr.nd rfl (Or.inl rfl)) (fun _ _ _ _ _ => pts_nil)
          (fun _ _ _ _ _ => pe_or (pe_call G2 hr (by rfl) g2 F2.kp b2 .nil pass0 (pa_cons (pv 3) pa_nil)) (pe_one (pe_call G3 hr (by rfl) g3 F3.kp b3 .nil pass0 (pa_cons (pv 3) pa_nil))))) pa_nil)))) (pss_one (ps_ret pe_bl)) pss_nil)
      (pss_cons (ps_if (pt_val (pe_call G4 hr (by rfl) g4 F4.kp b4 .nil pass0 (pa_cons (pv 1) pa_nil))) (pss_one (ps_ret pe_bl)) pss_nil)
      (pss_cons (ps_set (i := 2) scIr.nd rfl (Or.inl rfl) (pe_call G5 hr (by rfl) g5 F5.kp b5 .nil pass0 (pa_cons (pv 0) pa_nil)))
      (pss_one (ps_ret (pe_and (pe_cmpR op_le (pe_callB call_len_seq (by rfl) T.T.len PySem.boot_len (pa_cons (pv 2) pa_nil)) (pe_glob (by rfl) mN rN) (nomark _))
        (pe_one (pe_cmpR op_le (pe_callB cr_txtLen (by rfl) T.T.len PySem.boot_len (pa_cons (pe_callTy (cr_txtSetA rfl) (by rfl) T.T.set (by decide +kernel) (pa_cons (pv 2) pa_nil)) pa_nil)) (pe_glob (by rfl) mD rD) (nomark _)))))))))), ?_⟩
    have zl : zs.length = xs.length := pm.length_eq
    have znd : zs.Nodup := pm.nodup_iff.mpr ndx
    have znm : ∀ z ∈ zs, Nm z := fun z mz => nmx z (pm.mem_iff.mp mz)
    refine ⟨.ref r, rfl, r, p, c, _, rfl, hr1, hp1, c1, by rw [List.length_map, zl]; exact c2, _, rfl, iteF ?_⟩
    refine ⟨.ref r, rfl, r, _, 1, .ref p, rfl, rfl, SqT.of hr1, atI_nat (j := 1) rfl, ?_⟩
    refine ⟨.ref p, rfl, p, rfl, ⟨_, SqT.of hp1⟩, fun D nD => lc_tup (K := K) (a := p) (xs := zs.map V.str) (fun i H1 => Same H H1 ∧ H1 D = some (.lst (((zs.take i).map fun _ => true).map V.bl))) ⟨same_new nD, upd_same⟩ (fun i H1 _ h => SqT.of (h.1 _ _ hp1)) ?_ ?_⟩
    · rintro i x H1 hx ⟨s1, hD⟩
      rw [List.getElem?_map] at hx
      obtain ⟨z, hz, rfl⟩ := Option.map_eq_some_iff.mp hx
      have tk : zs.take (i + 1) = zs.take i ++ [z] := by
        rw [List.take_add_one, hz]
        rfl
      refine ⟨rfl, .str z, rfl, z, rfl, znm z (List.mem_of_getElem? hz), fun H2 s2 => ⟨_, rfl, iteT ?_⟩⟩
      refine ⟨_, s2 _ _ hD, ?_, fun d o e => ?_, ?_⟩
      · rw [List.length_map, List.length_map, List.length_take]
        exact small1000 (by omega)
      · rw [upd_ne (ne_of_none e nD)]
        exact s2 _ _ (s1 d o e)
      · rw [upd_same, tk, List.map_append, List.map_append]
        rfl
    · rintro H1 ⟨s1, hD⟩
      refine ⟨D, _, rfl, SqL.of hD, ?_⟩
      rw [all_true]
      refine ⟨_, rfl, iteF ?_⟩
      have hp2 := s1 _ _ hp1
      refine ⟨.ref p, rfl, p, zs, rfl, .inr (SqT.of hp2), by omega, znd, fun H2 s2 => ⟨_, rfl, iteF ?_⟩⟩
      have s02 := s1.trans s2
      refine ⟨.ref r, rfl, r, c, zs.map Sum.inl, rfl, ⟨p, _, s02 _ _ hr1, s02 _ _ hp1, Parts.names zs⟩, trivial, by rw [namesOf_names]; omega, fun l H3 s3 nl hl => ?_⟩
      rw [namesOf_names] at hl
      refine ⟨.ref l, rfl, l, _, rfl, .inl (SqL.of hl), _, _, rfl, rfl, _, rfl, ?_⟩
      rw [List.length_map, decide_eq_true (show ((zs.length : Nat) : Int) ≤ 12 by omega)]
      refine iteT ⟨.ref l, rfl, l, zs, rfl, .inl (SqL.of hl), by omega, fun a m na hm => ⟨a, _, m, rfl, upd_same, by omega, fun _ => ⟨_, _, rfl, rfl, ?_⟩⟩⟩
      show Q (.bl (decide ((m : Int) ≤ 8))) _
      rw [decide_eq_true (show (m : Int) ≤ 8 by omega)]
      exact q _ ((s02.trans s3).trans (same_new na))
/-! requirements_by_name -/
abbrev sRb : Stmt := top 52
abbrev nRb : List Str := ["rows", "requirements", "name", "requirement"]
theorem scRb : FnScope nRb ["rows"] (defScope sRb) := ⟨rfl, rfl, rfl, by decide +kernel, rfl, by decide +kernel, by decide +kernel⟩
/-- what rows of this kind keep -/
structure Fit (H : Hp) (c : Int) (xs : List Str) (rs : Rws) : Prop where
  nd : xs.Nodup
  few : xs.length ≤ 8
  nm : ∀ x ∈ xs, Nm x
  c1 : 1 ≤ c
  c2 : c ≤ (xs.length : Int)
  keys : (rs.map (·.1)).Perm xs
  each : ∀ q ∈ rs, Uni H q.2 c xs
theorem Fit.same {H H' : Hp} {c : Int} {xs : List Str} {rs : Rws} (h : Fit H c xs rs) (s : Same H H') : Fit H' c xs rs := { h with each := fun q m => (h.each q m).same s }
theorem Fit.len {H : Hp} {c : Int} {xs : List Str} {rs : Rws} (h : Fit H c xs rs) : rs.length = xs.length := by
  have := h.keys.length_eq
  rwa [List.length_map] at this
def spRb (K : PySem.W.Frag) : Sp := fun vs H Q _ => ∃ (l : Addr) (ts : List Addr) (rs : Rws) (c : Int) (xs : List Str), vs = [.ref l] ∧ SqL K H l (ts.map V.ref) ∧ RowsAt H ts rs ∧ Fit H c xs rs ∧ ∀ (D : Addr) (H' : Hp), Same H H' → H D = none → H' D = some (.dK (kvs rs)) → Q (.ref D) H'
theorem ok_byname {f f1 f2 : Addr} {fd fd1 fd2 : FuncData} {k : Nat} (F : Fun K "requirements_by_name" "requirements_by_name" sRb f fd) (T : Bq mg)
    (F1 : Fun K "is_name" "is_name" sIn f1 fd1) (b1 : Binds K fd1 ["value"] []) (g1 : mg "is_name" = some (.ref f1)) (G1 : FnOk P w K mg base CX0 k f1 fd1 ["value"] spIn)
    (F2 : Fun K "is_requirement" "is_requirement" sIr f2 fd2) (b2 : Binds K fd2 ["value"] []) (g2 : mg "is_requirement" = some (.ref f2)) (G2 : FnOk P w K mg base CX0 k f2 fd2 ["value"] spIr) :
    FnOk P w K mg base CX0 (k + 1) f fd ["rows"] (spRb K) := by
  refine F.ok scRb (fun vs H Q E h => ?_) (fun cdv A outer s H vs Q E hr h => ?_)
  · obtain ⟨l, ts, rs, c, xs, rfl, _⟩ := h
    rfl
  · obtain ⟨l, ts, rs, c, xs, rfl, hl, ra, fit, q⟩ := h
    have hu := hu_of hr
    refine ⟨_, pss_cons (ps_set (i := 1) scRb.nd rfl (Or.inl rfl) pe_dnewK)
      (pss_cons (ps_for PassesOwn.never rfl (pi_list (pv 0)) (pg_tup (by rfl) (pgs_cons (pg_name (i := 2) scRb.nd rfl (Or.inl rfl)) (pgs_cons (pg_name (i := 3) scRb.nd rfl (Or.inl rfl)) pgs_nil)))
        (pss_cons (ps_if (pt_not (pt_val (pe_call G1 hr (by rfl) g1 F1.kp b1 .nil pass0 (pa_cons (pv 2) pa_nil)))) (pss_one ps_never) pss_nil)
        (pss_cons (ps_if (pt_cmp (pc_din hu (pv 2) (pv 1))) (pss_one ps_never) pss_nil)
        (pss_cons (ps_if (pt_not (pt_val (pe_call G2 hr (by rfl) g2 F2.kp b2 .nil pass0 (pa_cons (pv 3) pa_nil)))) (pss_one ps_never) pss_nil)
        (pss_one (ps_dput hu (pv 1) (pv 2) (pv 3) rfl))))))
      (pss_one (ps_ret (pv 1)))), ?_⟩
    intro D nD
    have flen := fit.len
    have few := fit.few
    have knd : (rs.map (·.1)).Nodup := fit.keys.nodup_iff.mpr fit.nd
    refine ⟨.ref l, rfl, l, rfl, ⟨_, Same.seq (same_new nD) hl⟩, for_list (K := K) (a := l) (xs := ts.map V.ref) (fun i σ H1 => ∃ (y2 y3 : Option V), σ = [some (.ref l), some (.ref D), y2, y3] ∧ Same H H1 ∧ H1 D = some (.dK (kvs (rs.take i)))) ?_ ?_ ?_ ?_⟩
    · exact ⟨none, none, rfl, same_new nD, upd_same⟩
    · rintro i σ H1 _ ⟨_, _, _, s1, _⟩
      exact Same.seq s1 hl
    · rintro i y σ H1 hy ⟨y2, y3, rfl, s1, hD⟩
      rw [List.getElem?_map] at hy
      obtain ⟨t, ht, rfl⟩ := Option.map_eq_some_iff.mp hy
      obtain ⟨x, r, hxr, htt⟩ := ra.2 i t ht
      have mem : (x, r) ∈ rs := List.mem_of_getElem? hxr
      have tk : rs.take (i + 1) = rs.take i ++ [(x, r)] := by
        rw [List.take_add_one, hxr]
        rfl
      have xin : x ∈ xs := fit.keys.mem_iff.mp (List.mem_map.mpr ⟨_, mem, rfl⟩)
      have new : x ∉ (rs.take i).map (·.1) := by
        intro m
        have e : rs.map (·.1) = (rs.take i).map (·.1) ++ (rs.drop i).map (·.1) := by rw [← List.map_append, List.take_append_drop]
        rw [e] at knd
        refine (List.nodup_append.mp knd).2.2 x m x ?_ rfl
        refine List.mem_map.mpr ⟨(x, r), ?_, rfl⟩
        exact List.mem_of_getElem? (i := 0) (by rw [List.getElem?_drop]; exact hxr)
      refine ⟨t, _, rfl, SqT.of (s1 _ _ htt), rfl, _, _, rfl, _, _, rfl, rfl, ?_⟩
      refine ⟨.str x, rfl, x, rfl, fit.nm x xin, fun H2 s2 => ⟨_, rfl, iteF ?_⟩⟩
      have hD2 := s2 _ _ hD
      refine ⟨.str x, rfl, .ref D, rfl, D, _, rfl, DGet.k (k := Sum.inr x) hD2, _, rfl, ?_⟩
      rw [val_out new]
      refine iteF ?_
      have u2 : Uni H2 r c xs := (fit.each _ mem).same (s1.trans s2)
      refine ⟨.ref r, rfl, r, c, xs, rfl, u2, fit.nd, few, fit.nm, fit.c1, fit.c2, fun H3 s3 => ⟨_, rfl, iteF ?_⟩⟩
      have hD3 := s3 _ _ hD2
      refine ⟨.ref r, rfl, .ref D, rfl, .str x, rfl, D, _, rfl, DPut.k (k := Sum.inr x) hD3 ?_, ?_⟩
      · rw [kvs_len, List.length_take]
        exact small1000 (by omega)
      · refine ⟨_, _, rfl, fun d o e => ?_, ?_⟩
        · rw [upd_ne (ne_of_none e nD)]
          exact s3 _ _ (s2 _ _ (s1 d o e))
        · rw [upd_same, putK_new _ (val_out new), tk]
          show some (HO.dK (kvs (rs.take i) ++ _)) = some (HO.dK ((rs.take i ++ [(x, r)]).map _))
          rw [List.map_append]
          rfl
    · rintro σ H1 ⟨y2, y3, rfl, s1, hD⟩
      rw [List.length_map, ra.1, List.take_length] at hD
      exact ⟨.ref D, rfl, q D H1 s1 nD hD⟩
end
end Moot
namespace Moot
open PySem PySem.Spec PyProof.Rows L2
/-- all but what stands at D stays -/
def But (D : Addr) (H H' : Hp) : Prop := ∀ b o, H b = some o → b ≠ D → H' b = some o
theorem But.refl (D : Addr) (H : Hp) : But D H H := fun _ _ e _ => e
theorem But.same {D : Addr} {H H1 H2 : Hp} (b : But D H H1) (s : Same H1 H2) : But D H H2 := fun c o e n => s c o (b c o e n)
theorem but_upd {D : Addr} {H : Hp} {o : HO} : But D H (upd H D o) := fun b u e n => by rw [upd_ne n]; exact e
theorem But.uni {D : Addr} {H H' : Hp} {rs : Rws} {r : Addr} {c : Int} {xs : List Str} (b : But D H H') (hD : H D = some (.dK (kvs rs))) (h : Uni H r c xs) : Uni H' r c xs := by
  obtain ⟨p, zs, h1, h2, h3⟩ := h
  exact ⟨p, zs, b _ _ h1 (ne_of h1 hD (by intro z; cases z)), b _ _ h2 (ne_of h2 hD (by intro z; cases z)), h3⟩
section
variable {P : Program} {w : World} {K : PySem.W.Frag} {mg : Str → Option Value} {base : Heap}
/-! check_names_used -/
abbrev sCu : Stmt := top 53
abbrev nCu : List Str := ["requirements", "name", "used"]
theorem scCu : FnScope nCu ["requirements"] (defScope sCu) := ⟨rfl, rfl, rfl, by decide +kernel, rfl, by decide +kernel, by decide +kernel⟩
def spCu : Sp := fun vs H Q _ => ∃ (D : Addr) (rs : Rws) (c : Int) (xs : List Str), vs = [.ref D] ∧ H D = some (.dK (kvs rs)) ∧ Fit H c xs rs ∧ ∀ H', Same H H' → Q .non H'
theorem ok_used {f f1 : Addr} {fd fd1 : FuncData} {k : Nat} (F : Fun K "check_names_used" "check_names_used" sCu f fd) (T : Bq mg)
    (F1 : Fun K "names_in" "names_in" sNin f1 fd1) (b1 : Binds K fd1 ["requirement"] []) (g1 : mg "names_in" = some (.ref f1)) (G1 : FnOk P w K mg base CX0 k f1 fd1 ["requirement"] spNin) : FnOk P w K mg base CX0 (k + 1) f fd ["requirements"] spCu := by
  refine F.ok scCu (fun vs H Q E h => ?_) (fun cdv A outer s H vs Q E hr h => ?_)
  · obtain ⟨D, rs, c, xs, rfl, _⟩ := h
    rfl
  · obtain ⟨D, rs, c, xs, rfl, hD, fit, q⟩ := h
    have hu := hu_of hr
    refine ⟨_, pss_one (ps_lock (ps_for PassesOwn.never rfl (pi_keys (pv 0)) (pg_name (i := 1) scCu.nd rfl (Or.inl rfl))
      (pss_one (ps_for PassesOwn.never rfl (pi_tup (pe_call G1 hr (by rfl) g1 F1.kp b1 .nil pass0 (pa_cons (pe_dget hu (pv 0) (pv 1) (fun _ _ => rfl)) pa_nil))) (pg_name (i := 2) scCu.nd rfl (Or.inl rfl))
        (pss_one (ps_if (pt_cmp (pc_dnotin hu (pv 2) (pv 0))) (pss_one ps_never) pss_nil)))))), ?_⟩
    refine ⟨D, _, hD, trivial, fun od => ?_⟩
    have bt : But D H (upd H D (.frz od (.dK (kvs rs)))) := but_upd
    have hF : upd H D (.frz od (.dK (kvs rs))) D = some (.frz od (.dK (kvs rs))) := upd_same
    generalize upd H D (.frz od (.dK (kvs rs))) = H1 at bt hF ⊢
    refine ⟨.ref D, rfl, D, od, rfl, .inl ⟨_, hF, ?_⟩⟩
    refine for_it walk_keys (fun i σ H2 => ∃ y1 y2 : Option V, σ = [some (.ref D), y1, y2] ∧ But D H H2 ∧ H2 D = some (.frz od (.dK (kvs rs)))) ⟨none, none, rfl, bt, hF⟩ (fun i σ H2 _ ⟨_, _, _, _, h⟩ => h) ?_ ?_
    · rintro i x σ H2 H2' hi ⟨y1, y2, rfl, bt2, hF2⟩ ⟨rfl, kk, vv, hkv, rfl⟩
      obtain ⟨⟨x, r⟩, hxr, e⟩ : ∃ q, rs[i]? = some q ∧ ((Sum.inr q.1 : L2.Key), V.ref q.2) = (kk, vv) := by
        unfold kvs at hkv
        rw [List.getElem?_map] at hkv
        obtain ⟨q, h1, h2⟩ := Option.map_eq_some_iff.mp hkv
        exact ⟨q, h1, h2⟩
      cases e
      have mem : (x, r) ∈ rs := List.mem_of_getElem? hxr
      obtain ⟨r', mem', hv⟩ := val_in (rs := rs) (y := x) (List.mem_map.mpr ⟨_, mem, rfl⟩)
      have u2 := bt2.uni hD (fit.each _ mem')
      obtain ⟨zs, R, pm⟩ := u2.req
      have few := fit.few
      have zl := pm.length_eq
      refine ⟨.ref D, rfl, .str x, rfl, D, _, rfl, .inl ⟨_, Sum.inr x, .inr ⟨od, hF2⟩, rfl, hv.symm⟩, ?_⟩
      refine ⟨r', c, zs.map Sum.inl, rfl, R, by rw [namesOf_names]; omega, fun p ys H3 s3 np hp srt nd mem3 => ?_⟩
      refine ⟨p, rfl, ⟨_, SqT.of hp⟩, for_tup (K := K) (a := p) (xs := ys.map V.str) (fun j σ H4 => H4 = H3 ∧ ∃ y2 : Option V, σ = [some (.ref D), some (.str x), y2]) ⟨rfl, _, rfl⟩ (fun j σ H4 _ ⟨e, _⟩ => by rw [e]; exact SqT.of hp) ?_ ?_⟩
      · rintro j y σ H4 hy ⟨rfl, y2', rfl⟩
        rw [List.getElem?_map] at hy
        obtain ⟨z, hz, rfl⟩ := Option.map_eq_some_iff.mp hy
        have mz : z ∈ rs.map (·.1) := by
          have := (mem3 z).mp (List.mem_of_getElem? hz)
          rw [namesOf_names] at this
          exact fit.keys.mem_iff.mpr (pm.mem_iff.mp this)
        obtain ⟨r2, _, hv2⟩ := val_in mz
        refine ⟨.str z, rfl, .ref D, rfl, D, _, rfl, .inl ⟨_, Sum.inr z, .inr ⟨od, s3 _ _ hF2⟩, rfl, hv2.symm⟩, _, rfl, iteF ⟨rfl, _, rfl⟩⟩
      · rintro σ H4 ⟨rfl, y2', rfl⟩
        exact ⟨_, _, rfl, bt2.same s3, s3 _ _ hF2⟩
    · rintro σ H2 ⟨y1, y2, rfl, bt2, hF2⟩
      refine ⟨hF2, q _ fun b o e => ?_⟩
      by_cases eb : b = D
      · subst eb
        rw [hD] at e
        cases e
        exact upd_same
      · rw [upd_ne eb]
        exact bt2 b o e eb
/-! Network -/
structure Txt (K : PySem.W.Frag) (mg : Str → Option Value) (C : Addr) : Prop where
  cl : Cls K C
  nR : NoAttr K C "requirements"
  mgC : mg "Network" = some (.ref C)
abbrev fld (D : Addr) : List (Str × V) := [("requirements", V.ref D)]
theorem fld_get (D : Addr) : (fld D).lookup ("requirements" : Str) = some (.ref D) := by
  have e : fld D = putF "requirements" (V.ref D) [] := rfl
  rw [e, lookup_putF, if_pos rfl]
/-- a network of nodes that each require c of all -/
structure NetAt (C : Addr) (H : Hp) (net D : Addr) (c : Int) (xs : List Str) (rs : Rws) : Prop where
  ob : ∃ dx, H net = some (.ins C dx (fld D))
  dc : H D = some (.dK (kvs rs))
  fit : Fit H c xs rs
  srt : Srt (rs.map (·.1))
theorem NetAt.same {C : Addr} {H H' : Hp} {net D : Addr} {c : Int} {xs : List Str} {rs : Rws} (h : NetAt C H net D c xs rs) (s : Same H H') : NetAt C H' net D c xs rs :=
  ⟨let ⟨dx, e⟩ := h.ob; ⟨dx, s _ _ e⟩, s _ _ h.dc, h.fit.same s, h.srt⟩
abbrev sNi : Stmt := inClass (top 54) 0
abbrev nNi : List Str := ["self", "rows", "requirements", "name"]
theorem scNi : FnScope nNi ["self", "rows"] (defScope sNi) := ⟨rfl, rfl, rfl, by decide +kernel, rfl, by decide +kernel, by decide +kernel⟩
def spNi (K : PySem.W.Frag) (C : Addr) : Sp := fun vs H Q _ => ∃ (net dx l : Addr) (ts : List Addr) (rs : Rws) (c : Int) (xs : List Str), vs = [.ref net, .ref l] ∧ H net = some (.ins C dx []) ∧ SqL K H l (ts.map V.ref) ∧ RowsAt H ts rs ∧ Fit H c xs rs ∧
  ∀ (D : Addr) (rs' : Rws) (H' : Hp), NetAt C H' net D c xs rs' → But net H H' → Q .non H'
theorem pairs_of {rs : Rws} : ∀ (ys : List Str), (∀ y ∈ ys, y ∈ rs.map (·.1)) → ∃ rs' : Rws, rs'.map (·.1) = ys ∧ (∀ q ∈ rs', q ∈ rs ∧ valV (kvs rs) (Sum.inr q.1 : L2.Key) = some (.ref q.2))
  | [], _ => ⟨[], rfl, fun q m => by cases m⟩
  | y :: ys, h => by
    obtain ⟨r, m, e⟩ := val_in (h y List.mem_cons_self)
    obtain ⟨rs', e1, e2⟩ := pairs_of (rs := rs) ys fun z mz => h z (List.mem_cons_of_mem _ mz)
    refine ⟨(y, r) :: rs', by rw [List.map_cons, e1], fun q mq => ?_⟩
    rcases List.mem_cons.mp mq with rfl | mq
    · exact ⟨m, e⟩
    · exact e2 q mq
theorem ok_netinit {f C f1 f2 e : Addr} {fd fd1 fd2 : FuncData} {k : Nat} (F : FunD K "__init__" "Network.__init__" (defArgs sNi) (defBody sNi) (defScope sNi) [.ref e] [] f fd) (T : Bq mg) (X : Txt K mg C)
    (F1 : Fun K "requirements_by_name" "requirements_by_name" sRb f1 fd1) (b1 : Binds K fd1 ["rows"] []) (g1 : mg "requirements_by_name" = some (.ref f1)) (G1 : FnOk P w K mg base CX0 k f1 fd1 ["rows"] (spRb K))
    (F2 : Fun K "check_names_used" "check_names_used" sCu f2 fd2) (b2 : Binds K fd2 ["requirements"] []) (g2 : mg "check_names_used" = some (.ref f2)) (G2 : FnOk P w K mg base CX0 k f2 fd2 ["requirements"] spCu) :
    FnOk P w K mg base CX0 (k + 1) f fd ["self", "rows"] (spNi K C) := by
  refine F.ok scNi (fun vs H Q E h => ?_) (fun cdv A outer s H vs Q E hr h => ?_)
  · obtain ⟨net, dx, l, ts, rs, c, xs, rfl, _⟩ := h
    rfl
  · obtain ⟨net, dx, l, ts, rs, c, xs, rfl, hn, hl, ra, fit, q⟩ := h
    have hu := hu_of hr
    refine ⟨_, pss_cons (ps_set (i := 2) scNi.nd rfl (Or.inr rfl) (pe_call G1 hr (by rfl) g1 F1.kp b1 .nil pass0 (pa_cons (pv 1) pa_nil)))
      (pss_cons (ps_expr (pe_call G2 hr (by rfl) g2 F2.kp b2 .nil pass0 (pa_cons (pv 2) pa_nil)))
      (pss_one (ps_fld (pv 0) (pe_dc (own := [("name", 3)]) (g := gName 3) (tt := tYes) (by rfl) scNi.nd (pi_list (pe_callB (call_sortedD rfl) (by rfl) T.T.srt (by decide +kernel) (pa_cons (pv 2) pa_nil))) (blkOk_by (N := nNi) (sc := defScope sNi) (by decide +kernel))
        (fun _ _ _ _ _ => pg_name (i := 3) scNi.nd rfl (Or.inl rfl)) (fun _ _ _ _ _ => pts_nil) (fun _ _ _ _ _ => pv 3) (fun _ _ _ _ _ => pe_dget hu (pv 2) (pv 3) (fun _ _ => rfl))) rfl))), ?_⟩
    refine ⟨.ref l, rfl, l, ts, rs, c, xs, rfl, hl, ra, fit, fun D H1 s1 nD hD => ?_⟩
    refine ⟨.ref D, rfl, D, rs, c, xs, rfl, hD, fit.same s1, fun H2 s2 => ?_⟩
    have hD2 := s2 _ _ hD
    have flen := fit.len
    have few := fit.few
    refine ⟨.ref D, rfl, D, _, rs.map (·.1), rfl, .inl hD2, by unfold kvs; rw [List.map_map, List.map_map]; rfl, by rw [List.length_map]; omega, fun ys p pm srt np => ?_⟩
    have s3 := same_new (o := .lst (ys.map V.str)) np
    have hp : (upd H2 p (.lst (ys.map V.str))) p = some (.lst (ys.map V.str)) := upd_same
    generalize upd H2 p (.lst (ys.map V.str)) = H3 at s3 hp ⊢
    obtain ⟨rs', e1, e2⟩ := pairs_of (rs := rs) ys fun y my => pm.mem_iff.mp my
    have nd1 : (rs.map (·.1)).Nodup := fit.keys.nodup_iff.mpr fit.nd
    have nd2 : ys.Nodup := pm.nodup_iff.mpr nd1
    have l2 : rs'.length = ys.length := by rw [← e1, List.length_map]
    refine ⟨p, rfl, ⟨_, SqL.of hp⟩, fun D2 nD2 => ?_⟩
    refine dc_it (walk_list (K := K) (a := p) (xs := ys.map V.str)) (fun i H4 => Same H3 H4 ∧ H4 D2 = some (.dK (kvs (rs'.take i)))) ⟨same_new nD2, upd_same⟩ (fun i H4 _ h => SqL.of (h.1 _ _ hp)) ?_ ?_
    · rintro i x H4 H4' hi ⟨s4, hD4⟩ ⟨rfl, hx⟩
      rw [List.getElem?_map] at hx
      obtain ⟨y, hy, rfl⟩ := Option.map_eq_some_iff.mp hx
      obtain ⟨r, hr'⟩ : ∃ r, rs'[i]? = some (y, r) := by
        rw [← e1, List.getElem?_map] at hy
        obtain ⟨⟨y', r⟩, h1, h2⟩ := Option.map_eq_some_iff.mp hy
        cases h2
        exact ⟨r, h1⟩
      have val := (e2 _ (List.mem_of_getElem? hr')).2
      have tk : rs'.take (i + 1) = rs'.take i ++ [(y, r)] := by
        rw [List.take_add_one, hr']
        rfl
      have new : y ∉ (rs'.take i).map (·.1) := by
        intro m
        have e : rs'.map (·.1) = (rs'.take i).map (·.1) ++ (rs'.drop i).map (·.1) := by rw [← List.map_append, List.take_append_drop]
        rw [← e1, e] at nd2
        refine (List.nodup_append.mp nd2).2.2 y m y ?_ rfl
        exact List.mem_map.mpr ⟨(y, r), List.mem_of_getElem? (i := 0) (by rw [List.getElem?_drop]; exact hr'), rfl⟩
      have hDD := s4 _ _ (s3 _ _ hD2)
      refine ⟨rfl, .str y, rfl, .ref D, rfl, .str y, rfl, D, _, rfl, .inl ⟨_, Sum.inr y, .inl hDD, rfl, val.symm⟩, _, Sum.inr y, rfl, hD4, ?_, fun b o eb => ?_, ?_⟩
      · rw [kvs_len, List.length_take]
        have := pm.length_eq
        rw [List.length_map] at this
        exact small1000 (by omega)
      · rw [upd_ne (ne_of_none eb nD2)]
        exact s4 b o eb
      · rw [upd_same, putK_new _ (val_out new), tk]
        show some (HO.dK (kvs (rs'.take i) ++ _)) = some (HO.dK ((rs'.take i ++ [(y, r)]).map _))
        rw [List.map_append]
        rfl
    · rintro H4 ⟨s4, hD4⟩
      rw [List.length_map, ← l2, List.take_length] at hD4
      have s04 : Same H H4 := ((s1.trans s2).trans s3).trans s4
      have nD2n : D2 ≠ net := (ne_of_none (s3 _ _ (s2 _ _ (s1 _ _ hn))) nD2).symm
      refine ⟨.ref net, rfl, net, C, dx, [], rfl, s04 _ _ hn, X.cl, X.nR, by show 0 < 1000; decide, ?_⟩
      have bt : But net H (upd H4 net (.ins C dx (putF "requirements" (.ref D2) []))) := fun b o eb nb => by
        rw [upd_ne nb]
        exact s04 b o eb
      have unis : ∀ r, Uni H r c xs → Uni (upd H4 net (.ins C dx (putF "requirements" (.ref D2) []))) r c xs := fun r u => by
        obtain ⟨p', zs, h1, h2, h3⟩ := u
        exact ⟨p', zs, bt _ _ h1 (ne_of h1 hn (by intro z; cases z)), bt _ _ h2 (ne_of h2 hn (by intro z; cases z)), h3⟩
      refine q D2 rs' _ ⟨⟨dx, upd_same⟩, ?_, ⟨fit.nd, fit.few, fit.nm, fit.c1, fit.c2, ?_, fun q mq => unis _ (fit.each _ (e2 q mq).1)⟩, ?_⟩ bt
      · rw [upd_ne nD2n]
        exact hD4
      · rw [e1]
        exact pm.trans fit.keys
      · rw [e1]
        exact sorted_pairs srt
/-! node_names -/
abbrev sNn : Stmt := inClass (top 54) 3
theorem scNn : FnScope ["self"] ["self"] (defScope sNn) := ⟨rfl, rfl, rfl, by decide +kernel, rfl, by decide +kernel, by decide +kernel⟩
def spNn (C : Addr) : Sp := fun vs H Q _ => ∃ (net D : Addr) (c : Int) (xs : List Str) (rs : Rws), vs = [.ref net] ∧ NetAt C H net D c xs rs ∧ ∀ (p : Addr) (H' : Hp), Same H H' → H p = none → H' p = some (.tup ((rs.map (·.1)).map V.str)) → Q (.ref p) H'
theorem ok_nodenames {f C : Addr} {fd : FuncData} {k : Nat} (F : Fun K "node_names" "Network.node_names" sNn f fd) (T : Bq mg) (X : Txt K mg C) : FnOk P w K mg base CX0 (k + 1) f fd ["self"] (spNn C) := by
  refine F.ok scNn (fun vs H Q E h => ?_) (fun cdv A outer s H vs Q E hr h => ?_)
  · obtain ⟨net, D, c, xs, rs, rfl, _⟩ := h
    rfl
  · obtain ⟨net, D, c, xs, rs, rfl, N, q⟩ := h
    refine ⟨_, pss_one (ps_ret (pe_callTy (call_tuple_dK rfl) (by rfl) T.T.tup (by decide +kernel) (pa_cons (pe_fld (pv 0) rfl) pa_nil))), ?_⟩
    obtain ⟨dx, hn⟩ := N.ob
    refine ⟨.ref net, rfl, net, C, dx, _, _, rfl, hn, X.cl, X.nR, fld_get D, D, _, rfl, N.dc, fun p np => ?_⟩
    have e : (kvs rs).map (fun kv => kV kv.1) = (rs.map (·.1)).map V.str := by
      unfold kvs
      rw [List.map_map, List.map_map]
      rfl
    rw [e]
    exact q p _ (same_new np) np upd_same
/-! check_nodes -/
abbrev sCn : Stmt := inClass (top 54) 5
abbrev nCn : List Str := ["self", "names", "name"]
theorem scCn : FnScope nCn ["self", "names"] (defScope sCn) := ⟨rfl, rfl, rfl, by decide +kernel, rfl, by decide +kernel, by decide +kernel⟩
def spCn (K : PySem.W.Frag) (C : Addr) : Sp := fun vs H Q _ => ∃ (net D a : Addr) (c : Int) (xs : List Str) (rs : Rws) (S : List Str), vs = [.ref net, .ref a] ∧ NetAt C H net D c xs rs ∧ NodesAt K H a S ∧ (∀ x ∈ S, x ∈ xs) ∧ Q .non H
end
end Moot
namespace Moot
open PySem PySem.Spec PyProof.Rows L2
theorem pi_or {X : Cx} {tg e : Expr} {w1 w2 : TI} (h1 : PI X tg e w1) (h2 : PI X tg e w2) : PI X tg e (fun σ H R => w1 σ H R ∨ w2 σ H R) :=
  ⟨fun pins s σ H R I h => h.elim (h1.run pins s σ H R I) (h2.run pins s σ H R I)⟩
theorem fld_no (D : Addr) {m : Str} (h : ¬ m = "requirements") : (fld D).lookup m = none := by
  have e : fld D = putF "requirements" (V.ref D) [] := rfl
  rw [e, lookup_putF, if_neg h]
  rfl
theorem short_names (zs : List Str) : Short (zs.map Sum.inl) := fun c ns m => by
  obtain ⟨z, _, e⟩ := List.mem_map.mp m
  cases e
def headV : List Str → V
  | [] => .non
  | x :: _ => .str x
/-- what first_removable gives -/
def frV (xs : List Str) (c : Int) (R Fs : List Str) : V := if c ≤ ((cnt xs (R ++ Fs) : Nat) : Int) then .non else headV R
/-- what is removed, what remains -/
def ordL (c : Int) (f : Nat) (L : List Str) : List Str := if c ≤ (L.length : Int) + (f : Int) then [] else L
def lqL (c : Int) (f : Nat) (L : List Str) : List Str := if c ≤ (L.length : Int) + (f : Int) then L else []
theorem lq_out (c : Int) (f : Nat) (L : List Str) : (L.filter fun x => decide (x ∉ ordL c f L)) = lqL c f L := by
  unfold ordL lqL
  split
  · exact List.filter_eq_self.mpr fun x _ => by simp
  · exact List.filter_eq_nil_iff.mpr fun x m => by simpa using m
/-- the set that counts as failed -/
structure Fl (xs Fs : List Str) : Prop where
  nd : Fs.Nodup
  inn : ∀ x ∈ Fs, x ∈ xs
section
variable {P : Program} {w : World} {K : PySem.W.Frag} {mg : Str → Option Value} {base : Heap}
theorem ok_checknodes {f C : Addr} {fd : FuncData} {k : Nat} (F : Fun K "check_nodes" "Network.check_nodes" sCn f fd) (T : Bq mg) (X : Txt K mg C) : FnOk P w K mg base CX0 (k + 1) f fd ["self", "names"] (spCn K C) := by
  refine F.ok scCn (fun vs H Q E h => ?_) (fun cdv A outer s H vs Q E hr h => ?_)
  · obtain ⟨net, D, a, c, xs, rs, S, rfl, _⟩ := h
    rfl
  · obtain ⟨net, D, a, c, xs, rs, S, rfl, N, ha, sub, q⟩ := h
    have hu := hu_of hr
    obtain ⟨dx, hn⟩ := N.ob
    refine ⟨_, pss_one (ps_for PassesOwn.never rfl (pi_or (pi_list (pv 1)) (pi_tup (pv 1))) (pg_name (i := 2) scCn.nd rfl (Or.inl rfl))
      (pss_one (ps_if (pt_cmp (pc_dnotin hu (pv 2) (pe_fld (pv 0) rfl))) (pss_one ps_never) pss_nil))), ?_⟩
    rcases ha with ha | ha
    · refine .inl ⟨.ref a, rfl, a, rfl, ⟨_, ha⟩, for_it (walk_list (K := K) (a := a) (xs := S.map V.str)) (fun i σ H1 => H1 = H ∧ ∃ y2 : Option V, σ = [some (.ref net), some (.ref a), y2]) ⟨rfl, none, rfl⟩ (fun i σ H1 _ ⟨e, _⟩ => by rw [e]; exact ha) ?_ ?_⟩
      · rintro i y σ H1 H2 hi ⟨rfl, y2, rfl⟩ ⟨rfl, hy⟩
        rw [List.getElem?_map] at hy
        obtain ⟨z, hz, rfl⟩ := Option.map_eq_some_iff.mp hy
        obtain ⟨r, _, hv⟩ := val_in (N.fit.keys.mem_iff.mpr (sub z (List.mem_of_getElem? hz)))
        exact ⟨.str z, rfl, .ref net, rfl, net, C, dx, _, _, rfl, hn, X.cl, X.nR, fld_get D, D, _, rfl, .inl ⟨_, Sum.inr z, .inl N.dc, rfl, hv.symm⟩, _, rfl, iteF ⟨rfl, _, rfl⟩⟩
      · rintro σ H1 ⟨rfl, y2, rfl⟩
        exact q
    · refine .inr ⟨.ref a, rfl, a, rfl, ⟨_, ha⟩, for_it (walk_tup (K := K) (a := a) (xs := S.map V.str)) (fun i σ H1 => H1 = H ∧ ∃ y2 : Option V, σ = [some (.ref net), some (.ref a), y2]) ⟨rfl, none, rfl⟩ (fun i σ H1 _ ⟨e, _⟩ => by rw [e]; exact ha) ?_ ?_⟩
      · rintro i y σ H1 H2 hi ⟨rfl, y2, rfl⟩ ⟨rfl, hy⟩
        rw [List.getElem?_map] at hy
        obtain ⟨z, hz, rfl⟩ := Option.map_eq_some_iff.mp hy
        obtain ⟨r, _, hv⟩ := val_in (N.fit.keys.mem_iff.mpr (sub z (List.mem_of_getElem? hz)))
        exact ⟨.str z, rfl, .ref net, rfl, net, C, dx, _, _, rfl, hn, X.cl, X.nR, fld_get D, D, _, rfl, .inl ⟨_, Sum.inr z, .inl N.dc, rfl, hv.symm⟩, _, rfl, iteF ⟨rfl, _, rfl⟩⟩
      · rintro σ H1 ⟨rfl, y2, rfl⟩
        exact q
/-! requirement_of -/
abbrev sRo : Stmt := inClass (top 54) 7
theorem scRo : FnScope ["self", "name"] ["self", "name"] (defScope sRo) := ⟨rfl, rfl, rfl, by decide +kernel, rfl, by decide +kernel, by decide +kernel⟩
def spRo (C : Addr) : Sp := fun vs H Q _ => ∃ (net D : Addr) (c : Int) (xs : List Str) (rs : Rws) (x : Str), vs = [.ref net, .str x] ∧ NetAt C H net D c xs rs ∧ x ∈ xs ∧ ∀ (r : Addr) (H' : Hp), Same H H' → Uni H' r c xs → Q (.ref r) H'
theorem ok_reqof {f f1 C : Addr} {fd fd1 : FuncData} {k : Nat} (F : Fun K "requirement_of" "Network.requirement_of" sRo f fd) (T : Bq mg) (X : Txt K mg C) (M1 : Meth K C "check_nodes" f1) (b1 : Binds K fd1 ["self", "names"] []) (G1 : FnOk P w K mg base CX0 k f1 fd1 ["self", "names"] (spCn K C)) :
    FnOk P w K mg base CX0 (k + 1) f fd ["self", "name"] (spRo C) := by
  refine F.ok scRo (fun vs H Q E h => ?_) (fun cdv A outer s H vs Q E hr h => ?_)
  · obtain ⟨net, D, c, xs, rs, x, rfl, _⟩ := h
    rfl
  · obtain ⟨net, D, c, xs, rs, x, rfl, N, mx, q⟩ := h
    have hu := hu_of hr
    obtain ⟨dx, hn⟩ := N.ob
    refine ⟨_, pss_cons (ps_expr (pe_meth (pv 0) X.cl M1 G1 hr b1 .nil pass0 (pa_cons (pe_lst (pa_cons (pv 1) pa_nil)) pa_nil)))
      (pss_one (ps_ret (pe_dget hu (pe_fld (pv 0) rfl) (pv 1) (fun _ _ => rfl)))), ?_⟩
    refine ⟨.ref net, rfl, net, dx, _, rfl, hn, fld_no D (by decide +kernel), .str x, rfl, by show 1 ≤ sizeLine; decide, fun l nl => ?_⟩
    have s1 := same_new (o := .lst [.str x]) nl
    have hl : (upd H l (.lst [.str x])) l = some (.lst ([x].map V.str)) := upd_same
    generalize upd H l (.lst [.str x]) = H1 at s1 hl ⊢
    have N1 := N.same s1
    obtain ⟨dx1, hn1⟩ := N1.ob
    obtain ⟨r, mr, hv⟩ := val_in (N1.fit.keys.mem_iff.mpr mx)
    refine ⟨net, D, l, c, xs, rs, [x], rfl, N1, .inl (SqL.of hl), fun y my => by rw [List.mem_singleton.mp my]; exact mx, ?_⟩
    exact ⟨.ref net, rfl, net, C, dx1, _, _, rfl, hn1, X.cl, X.nR, fld_get D, .str x, rfl, D, _, rfl, .inl ⟨_, Sum.inr x, .inl N1.dc, rfl, hv.symm⟩, q r H1 s1 (N1.fit.each _ mr)⟩
/-! can_be_removed -/
abbrev sCr : Stmt := top 31
abbrev nCr : List Str := ["network", "name", "nodes", "faulty"]
theorem scCr : FnScope nCr ["network", "name", "nodes", "faulty"] (defScope sCr) := ⟨rfl, rfl, rfl, by decide +kernel, rfl, by decide +kernel, by decide +kernel⟩
def spCr (K : PySem.W.Frag) (C : Addr) : Sp := fun vs H Q _ => ∃ (net D a e : Addr) (c : Int) (xs : List Str) (rs : Rws) (x : Str) (R Fs : List Str), vs = [.ref net, .str x, .ref a, .ref e] ∧ NetAt C H net D c xs rs ∧ x ∈ xs ∧ NodesAt K H a R ∧ NodesAt K H e Fs ∧ R.length ≤ 100 ∧ Fs.length ≤ 100 ∧
  ∀ H', Same H H' → Q (.bl (!decide (c ≤ ((cnt xs (R ++ Fs) : Nat) : Int)))) H'
theorem ok_removable {f f1 f2 C : Addr} {fd fd1 fd2 : FuncData} {k : Nat} (F : Fun K "can_be_removed" "can_be_removed" sCr f fd) (T : Bq mg) (X : Txt K mg C)
    (F1 : Fun K "satisfies" "satisfies" sSat f1 fd1) (b1 : Binds K fd1 ["requirement", "nodes"] []) (g1 : mg "satisfies" = some (.ref f1)) (G1 : FnOk P w K mg base CX0 k f1 fd1 ["requirement", "nodes"] (spSat K Short))
    (M2 : Meth K C "requirement_of" f2) (b2 : Binds K fd2 ["self", "name"] []) (G2 : FnOk P w K mg base CX0 k f2 fd2 ["self", "name"] (spRo C)) : FnOk P w K mg base CX0 (k + 1) f fd nCr (spCr K C) := by
  refine F.ok scCr (fun vs H Q E h => ?_) (fun cdv A outer s H vs Q E hr h => ?_)
  · obtain ⟨net, D, a, e, c, xs, rs, x, R, Fs, rfl, _⟩ := h
    rfl
  · obtain ⟨net, D, a, e, c, xs, rs, x, R, Fs, rfl, N, mx, ha, he, lR, lF, q⟩ := h
    obtain ⟨dx, hn⟩ := N.ob
    refine ⟨_, pss_one (ps_ret (pe_not (pe_call G1 hr (by rfl) g1 F1.kp b1 .nil pass0 (pa_cons (pe_meth (pv 0) X.cl M2 G2 hr b2 .nil pass0 (pa_cons (pv 1) pa_nil)) (pa_cons (pe_tup (StX.pa_star (pv 2) (StX.pa_star (pv 3) pa_nil))) pa_nil))))), ?_⟩
    refine ⟨.ref net, rfl, net, dx, _, rfl, hn, fld_no D (by decide +kernel), .str x, rfl, net, D, c, xs, rs, x, rfl, N, mx, fun r H1 s1 u => ?_⟩
    refine ⟨.ref a, rfl, a, _, rfl, (ha.same s1).symm, .ref e, rfl, e, _, rfl, (he.same s1).symm, ?_, fun t nt => ?_⟩
    · rw [List.length_append, List.length_append, List.length_map, List.length_map]
      exact Nat.le_of_lt (small1000 (by show R.length + (Fs.length + 0) ≤ _; omega))
    have e1 : (R.map V.str ++ (Fs.map V.str ++ []) : List V) = (R ++ Fs).map V.str := by rw [List.append_nil, List.map_append]
    rw [e1]
    have s2 := same_new (o := .tup ((R ++ Fs).map V.str)) nt
    have ht : (upd H1 t (.tup ((R ++ Fs).map V.str))) t = some (.tup ((R ++ Fs).map V.str)) := upd_same
    generalize upd H1 t (.tup ((R ++ Fs).map V.str)) = H2 at s2 ht ⊢
    obtain ⟨zs, Rq, pm⟩ := (u.same s2).req
    have few := N.fit.few
    have zl := pm.length_eq
    refine ⟨r, c, zs.map Sum.inl, t, R ++ Fs, rfl, Rq, short_names zs, by rw [List.length_map]; omega, .inr (SqT.of ht), fun H3 s3 => ⟨_, rfl, ?_⟩⟩
    have es : sat (R ++ Fs) c (zs.map Sum.inl) = decide (c ≤ ((cnt xs (R ++ Fs) : Nat) : Int)) := by
      rw [sat_names]
      show decide (c ≤ ((cnt zs (R ++ Fs) : Nat) : Int)) = _
      rw [cnt_perm pm]
    rw [es]
    exact q H3 ((s1.trans s2).trans s3)
/-! first_removable -/
abbrev sFr : Stmt := top 32
abbrev nFr : List Str := ["network", "nodes", "faulty", "name"]
theorem scFr : FnScope nFr ["network", "nodes", "faulty"] (defScope sFr) := ⟨rfl, rfl, rfl, by decide +kernel, rfl, by decide +kernel, by decide +kernel⟩
def spFr (K : PySem.W.Frag) (C : Addr) : Sp := fun vs H Q _ => ∃ (net D a e : Addr) (c : Int) (xs : List Str) (rs : Rws) (R Fs : List Str), vs = [.ref net, .ref a, .ref e] ∧ NetAt C H net D c xs rs ∧ H a = some (.tup (R.map V.str)) ∧ (∀ x ∈ R, x ∈ xs) ∧ NodesAt K H e Fs ∧ R.length ≤ 100 ∧ Fs.length ≤ 100 ∧
  ∀ H', Same H H' → Q (frV xs c R Fs) H'
theorem ok_first {f f1 C : Addr} {fd fd1 : FuncData} {k : Nat} (F : Fun K "first_removable" "first_removable" sFr f fd) (T : Bq mg)
    (F1 : Fun K "can_be_removed" "can_be_removed" sCr f1 fd1) (b1 : Binds K fd1 nCr []) (g1 : mg "can_be_removed" = some (.ref f1)) (G1 : FnOk P w K mg base CX0 k f1 fd1 nCr (spCr K C)) : FnOk P w K mg base CX0 (k + 1) f fd ["network", "nodes", "faulty"] (spFr K C) := by
  refine F.ok scFr (fun vs H Q E h => ?_) (fun cdv A outer s H vs Q E hr h => ?_)
  · obtain ⟨net, D, a, e, c, xs, rs, R, Fs, rfl, _⟩ := h
    rfl
  · obtain ⟨net, D, a, e, c, xs, rs, R, Fs, rfl, N, ha, sub, he, lR, lF, q⟩ := h
    refine ⟨_, pss_cons (ps_for PassesOwn.never rfl (pi_tup (pv 1)) (pg_name (i := 3) scFr.nd rfl (Or.inl rfl))
        (pss_one (ps_if (pt_val (pe_call G1 hr (by rfl) g1 F1.kp b1 .nil pass0 (pa_cons (pv 0) (pa_cons (pv 3) (pa_cons (pv 1) (pa_cons (pv 2) pa_nil)))))) (pss_one (ps_ret (pv 3))) pss_nil)))
      (pss_one (ps_ret pe_non)), ?_⟩
    refine ⟨.ref a, rfl, a, rfl, ⟨_, SqT.of ha⟩, for_tup (K := K) (a := a) (xs := R.map V.str) (fun i σ H1 => (∃ y3 : Option V, σ = [some (.ref net), some (.ref a), some (.ref e), y3]) ∧ Same H H1 ∧ (0 < i → c ≤ ((cnt xs (R ++ Fs) : Nat) : Int))) ⟨⟨none, rfl⟩, Same.refl H, fun h => absurd h (by decide)⟩ (fun i σ H1 _ h => SqT.of (h.2.1 _ _ ha)) ?_ ?_⟩
    · rintro i y σ H1 hy ⟨⟨y3, rfl⟩, s1, big⟩
      rw [List.getElem?_map] at hy
      obtain ⟨z, hz, rfl⟩ := Option.map_eq_some_iff.mp hy
      refine ⟨.ref net, rfl, .str z, rfl, .ref a, rfl, .ref e, rfl, net, D, a, e, c, xs, rs, z, R, Fs, rfl, N.same s1, sub z (List.mem_of_getElem? hz), .inr (SqT.of (s1 _ _ ha)), he.same s1, lR, lF, fun H2 s2 => ⟨_, rfl, ?_⟩⟩
      by_cases h : c ≤ ((cnt xs (R ++ Fs) : Nat) : Int)
      · rw [decide_eq_true h]
        exact iteF ⟨⟨_, rfl⟩, s1.trans s2, fun _ => h⟩
      · rw [decide_eq_false h]
        refine iteT ⟨.str z, rfl, ?_⟩
        have i0 : i = 0 := by
          rcases Nat.eq_zero_or_pos i with h0 | h0
          · exact h0
          · exact absurd (big h0) h
        subst i0
        have e0 : frV xs c R Fs = .str z := by
          unfold frV
          rw [if_neg h]
          cases R with
          | nil => cases hz
          | cons x R => cases hz; rfl
        have r := q H2 (s1.trans s2)
        rw [e0] at r
        exact r
    · rintro σ H1 ⟨⟨y3, rfl⟩, s1, big⟩
      have e0 : frV xs c R Fs = .non := by
        unfold frV
        split
        · rfl
        · cases R with
          | nil => rfl
          | cons x R => exact absurd (big (by simp)) (by assumption)
      have r := q H1 s1
      rw [e0] at r
      exact r
/-! start_of_removal -/
abbrev sSo : Stmt := top 33
abbrev nSo : List Str := ["network", "nodes", "faulty"]
theorem scSo : FnScope nSo nSo (defScope sSo) := ⟨rfl, rfl, rfl, by decide +kernel, rfl, by decide +kernel, by decide +kernel⟩
def spSo (K : PySem.W.Frag) (C : Addr) : Sp := fun vs H Q _ => ∃ (net D a e : Addr) (c : Int) (xs : List Str) (rs : Rws) (L Fs : List Str), vs = [.ref net, .ref a, .ref e] ∧ NetAt C H net D c xs rs ∧ NodesAt K H a L ∧ Hon xs Fs L ∧ NodesAt K H e Fs ∧ Fl xs Fs ∧
  ∀ (p : Addr) (H' : Hp), Same H H' → H p = none → H' p = some (.tup (L.map V.str)) → Q (.ref p) H'
theorem Hon.few {H : Hp} {c : Int} {xs Fs L : List Str} {rs : Rws} (h : Hon xs Fs L) (f : Fit H c xs rs) : L.length ≤ 8 := Nat.le_trans (nd_len L xs h.nd h.inn) f.few
theorem Fl.few {H : Hp} {c : Int} {xs Fs : List Str} {rs : Rws} (h : Fl xs Fs) (f : Fit H c xs rs) : Fs.length ≤ 8 := Nat.le_trans (nd_len Fs xs h.nd h.inn) f.few
theorem ok_start {f f1 f2 f3 C : Addr} {fd fd1 fd2 fd3 : FuncData} {k : Nat} (F : Fun K "start_of_removal" "start_of_removal" sSo f fd) (T : Bq mg) (X : Txt K mg C)
    (M1 : Meth K C "check_nodes" f1) (b1 : Binds K fd1 ["self", "names"] []) (G1 : FnOk P w K mg base CX0 k f1 fd1 ["self", "names"] (spCn K C))
    (F2 : Fun K "names_outside" "names_outside" sOut f2 fd2) (b2 : Binds K fd2 ["names", "excluded"] []) (g2 : mg "names_outside" = some (.ref f2)) (G2 : FnOk P w K mg base CX0 k f2 fd2 ["names", "excluded"] (spOut K))
    (F3 : Fun K "node_set" "node_set" sNs f3 fd3) (b3 : Binds K fd3 ["names"] []) (g3 : mg "node_set" = some (.ref f3)) (G3 : FnOk P w K mg base CX0 k f3 fd3 ["names"] (spNs2 K)) : FnOk P w K mg base CX0 (k + 1) f fd nSo (spSo K C) := by
  refine F.ok scSo (fun vs H Q E h => ?_) (fun cdv A outer s H vs Q E hr h => ?_)
  · obtain ⟨net, D, a, e, c, xs, rs, L, Fs, rfl, _⟩ := h
    rfl
  · obtain ⟨net, D, a, e, c, xs, rs, L, Fs, rfl, N, ha, hon, he, fl, q⟩ := h
    obtain ⟨dx, hn⟩ := N.ob
    refine ⟨_, pss_cons (ps_expr (pe_meth (pv 0) X.cl M1 G1 hr b1 .nil pass0 (pa_cons (pv 1) pa_nil)))
      (pss_cons (ps_expr (pe_meth (pv 0) X.cl M1 G1 hr b1 .nil pass0 (pa_cons (pv 2) pa_nil)))
      (pss_one (ps_ret (pe_call G2 hr (by rfl) g2 F2.kp b2 .nil pass0 (pa_cons (pe_call G3 hr (by rfl) g3 F3.kp b3 .nil pass0 (pa_cons (pv 1) pa_nil)) (pa_cons (pv 2) pa_nil)))))), ?_⟩
    have l8 := hon.few N.fit
    refine ⟨.ref net, rfl, net, dx, _, rfl, hn, fld_no D (by decide +kernel), .ref a, rfl, net, D, a, c, xs, rs, L, rfl, N, ha, hon.inn, ?_⟩
    refine ⟨.ref net, rfl, net, dx, _, rfl, hn, fld_no D (by decide +kernel), .ref e, rfl, net, D, e, c, xs, rs, Fs, rfl, N, he, fl.inn, ?_⟩
    refine ⟨.ref a, rfl, a, L, rfl, ha, by omega, fun p ys H1 s1 np hp srt nd mem => ?_⟩
    have ey : ys = L := srt_one srt nd hon.srt hon.nd mem
    subst ey
    refine ⟨.ref e, rfl, p, e, ys, Fs, rfl, hp, he.same s1, by omega, fun p2 H2 s2 np2 hp2 => ?_⟩
    rw [List.filter_eq_self.mpr fun x m => decide_eq_true (hon.out x m)] at hp2
    exact q p2 H2 (s1.trans s2) (s1.free np2) hp2
end
end Moot
namespace Moot
open PySem PySem.Spec PyProof.Rows L2
theorem frV_hon {xs Fs L : List Str} {c : Int} (nx : xs.Nodup) (fl : Fl xs Fs) (h : Hon xs Fs L) : frV xs c L Fs = if c ≤ (L.length : Int) + (Fs.length : Int) then .non else headV L := by
  unfold frV
  rw [cnt_hon nx fl.nd fl.inn h]
  rw [show ((L.length + Fs.length : Nat) : Int) = (L.length : Int) + (Fs.length : Int) from by omega]
theorem Hon.dropn {xs F L : List Str} (h : Hon xs F L) (j : Nat) : Hon xs F (L.drop j) :=
  ⟨List.Pairwise.sublist (List.drop_sublist j L) h.srt, (List.drop_sublist j L).nodup h.nd, fun x m => h.inn x (List.mem_of_mem_drop m), fun x m => h.out x (List.mem_of_mem_drop m)⟩
theorem drop_out {L : List Str} (nd : L.Nodup) {j : Nat} {x : Str} {r : List Str} (e : L.drop j = x :: r) : ((L.drop j).filter fun y => decide (y ∉ [x])) = L.drop (j + 1) ∧ L.take (j + 1) = L.take j ++ [x] := by
  have n2 := (List.drop_sublist j L).nodup nd
  have e1 : L.drop (j + 1) = r := by
    rw [← List.tail_drop, e]
    rfl
  constructor
  · rw [e1, e]
    rw [e] at n2
    have nx := (List.nodup_cons.mp n2).1
    rw [List.filter_cons_of_neg (by simp)]
    exact List.filter_eq_self.mpr fun y my => decide_eq_true fun m => nx (List.mem_singleton.mp m ▸ my)
  · have hj : L[j]? = some x := by
      have : (L.drop j)[0]? = some x := by rw [e]; rfl
      rw [List.getElem?_drop] at this
      exact this
    rw [List.take_add_one, hj]
    rfl
section
variable {P : Program} {w : World} {K : PySem.W.Frag} {mg : Str → Option Value} {base : Heap}
/-! removal_order -/
abbrev sRm : Stmt := top 34
abbrev pRm : List Str := ["network", "nodes", "faulty"]
abbrev nRm : List Str := ["network", "nodes", "faulty", "remaining", "order", "name"]
theorem scRm : FnScope nRm pRm (defScope sRm) := ⟨rfl, rfl, rfl, by decide +kernel, rfl, by decide +kernel, by decide +kernel⟩
def spRm (K : PySem.W.Frag) (C : Addr) : Sp := fun vs H Q _ => ∃ (net D a e : Addr) (c : Int) (xs : List Str) (rs : Rws) (L Fs : List Str), vs = [.ref net, .ref a, .ref e] ∧ NetAt C H net D c xs rs ∧ NodesAt K H a L ∧ Hon xs Fs L ∧ NodesAt K H e Fs ∧ Fl xs Fs ∧
  ∀ (p : Addr) (H' : Hp), Same H H' → H p = none → H' p = some (.tup ((ordL c Fs.length L).map V.str)) → Q (.ref p) H'
theorem ok_order {f f1 f2 f3 C : Addr} {fd fd1 fd2 fd3 : FuncData} {k : Nat} (F : Fun K "removal_order" "removal_order" sRm f fd) (T : Bq mg)
    (F1 : Fun K "start_of_removal" "start_of_removal" sSo f1 fd1) (b1 : Binds K fd1 nSo []) (g1 : mg "start_of_removal" = some (.ref f1)) (G1 : FnOk P w K mg base CX0 k f1 fd1 nSo (spSo K C))
    (F2 : Fun K "first_removable" "first_removable" sFr f2 fd2) (b2 : Binds K fd2 ["network", "nodes", "faulty"] []) (g2 : mg "first_removable" = some (.ref f2)) (G2 : FnOk P w K mg base CX0 k f2 fd2 ["network", "nodes", "faulty"] (spFr K C))
    (F3 : Fun K "names_outside" "names_outside" sOut f3 fd3) (b3 : Binds K fd3 ["names", "excluded"] []) (g3 : mg "names_outside" = some (.ref f3)) (G3 : FnOk P w K mg base CX0 k f3 fd3 ["names", "excluded"] (spOut K)) : FnOk P w K mg base CX0 (k + 1) f fd pRm (spRm K C) := by
  refine F.ok scRm (fun vs H Q E h => ?_) (fun cdv A outer s H vs Q E hr h => ?_)
  · obtain ⟨net, D, a, e, c, xs, rs, L, Fs, rfl, _⟩ := h
    rfl
  · obtain ⟨net, D, a, e, c, xs, rs, L, Fs, rfl, N, ha, hon, he, fl, q⟩ := h
    have l8 := hon.few N.fit
    have f8 := fl.few N.fit
    refine ⟨_, pss_cons (ps_set (i := 3) scRm.nd rfl (Or.inl rfl) (pe_call G1 hr (by rfl) g1 F1.kp b1 .nil pass0 (pa_cons (pv 0) (pa_cons (pv 1) (pa_cons (pv 2) pa_nil)))))
      (pss_cons (ps_set (i := 4) scRm.nd rfl (Or.inl rfl) (pe_lst pa_nil))
      (pss_cons (ps_set (i := 5) scRm.nd rfl (Or.inl rfl) (pe_call G2 hr (by rfl) g2 F2.kp b2 .nil pass0 (pa_cons (pv 0) (pa_cons (pv 3) (pa_cons (pv 2) pa_nil)))))
      (pss_cons (ps_while PassesOwn.never (pt_cmpR op_notN (pv 5) pe_non (nomark _))
        (pss_cons (ps_expr (pe_bm PySem.F.plainAttrs_list PySem.F.slot_list_append PySem.F.type_list_append mt_append (pv 4) (pa_cons (pv 5) pa_nil)))
        (pss_cons (ps_set (i := 3) scRm.nd rfl (Or.inl rfl) (pe_call G3 hr (by rfl) g3 F3.kp b3 .nil pass0 (pa_cons (pv 3) (pa_cons (pe_lst (pa_cons (pv 5) pa_nil)) pa_nil))))
        (pss_one (ps_set (i := 5) scRm.nd rfl (Or.inl rfl) (pe_call G2 hr (by rfl) g2 F2.kp b2 .nil pass0 (pa_cons (pv 0) (pa_cons (pv 3) (pa_cons (pv 2) pa_nil)))))))))
      (pss_one (ps_ret (pe_callTy call_tuple_of (by rfl) T.T.tup (by decide +kernel) (pa_cons (pv 4) pa_nil))))))), ?_⟩
    refine ⟨.ref net, rfl, .ref a, rfl, .ref e, rfl, net, D, a, e, c, xs, rs, L, Fs, rfl, N, ha, hon, he, fl, fun p1 H1 s1 np1 hp1 => ?_⟩
    refine ⟨Nat.zero_le _, fun l nl => ?_⟩
    have s2 := same_new (o := .lst []) nl
    have hl : (upd H1 l (.lst [])) l = some (.lst (([] : List Str).map V.str)) := upd_same
    generalize upd H1 l (.lst []) = H2 at s2 hl ⊢
    have s02 := s1.trans s2
    have nl0 : H l = none := s1.free nl
    refine ⟨.ref net, rfl, .ref p1, rfl, .ref e, rfl, net, D, p1, e, c, xs, rs, L, Fs, rfl, N.same s02, s2 _ _ hp1, hon.inn, he.same s02, by omega, by omega, fun H3 s3 => ?_⟩
    have s03 := s02.trans s3
    refine while_by (fun σ H4 => ∃ (j : Nat) (pr : Addr), j ≤ L.length ∧ σ = [some (.ref net), some (.ref a), some (.ref e), some (.ref pr), some (.ref l), some (frV xs c (L.drop j) Fs)] ∧ Same H H4 ∧ H4 pr = some (.tup ((L.drop j).map V.str)) ∧ H4 l = some (.lst ((L.take j).map V.str)) ∧ (0 < j → (L.length : Int) + (Fs.length : Int) < c))
      (fun (σ : L2.St) H4 => match H4 l with | some (.lst us) => L.length - us.length | _ => 0) ⟨0, p1, Nat.zero_le _, rfl, s03, (s2.trans s3) _ _ hp1, s3 _ _ hl, fun h => absurd h (by decide)⟩ ?_
      (fun σ H Q Q' hq ⟨v, e, e2, b, eb, h⟩ => ⟨v, e, e2, b, eb, hq _ _ h⟩)
    rintro σ H4 ⟨j, pr, hj, rfl, s4, hpr, hl4, small⟩
    refine ⟨_, rfl, rfl, _, rfl, ?_⟩
    have hd := hon.dropn j
    rw [frV_hon N.fit.nd fl hd]
    have ld : ((L.drop j).length : Int) = (L.length : Int) - (j : Int) := by rw [List.length_drop]; omega
    rw [ld]
    by_cases big : c ≤ (L.length : Int) - (j : Int) + (Fs.length : Int)
    · rw [if_pos big]
      refine iteF ?_
      refine ⟨.ref l, rfl, l, _, rfl, .inl ⟨SqL.of hl4, fun t nt => ?_⟩⟩
      have j0 : j = 0 := by
        rcases Nat.eq_zero_or_pos j with h | h
        · exact h
        · have := small h
          omega
      subst j0
      refine q t _ (s4.trans (same_new nt)) (s4.free nt) ?_
      rw [upd_same]
      unfold ordL
      rw [if_pos (by omega)]
      rfl
    · rw [if_neg big]
      cases ed : L.drop j with
      | nil =>
        refine iteF ?_
        refine ⟨.ref l, rfl, l, _, rfl, .inl ⟨SqL.of hl4, fun t nt => ?_⟩⟩
        have jl : j = L.length := by
          have := congrArg List.length ed
          rw [List.length_drop, List.length_nil] at this
          omega
        subst jl
        refine q t _ (s4.trans (same_new nt)) (s4.free nt) ?_
        rw [upd_same, List.take_length]
        unfold ordL
        split
        · rename_i h
          have l0 : L.length = 0 := by
            rcases Nat.eq_zero_or_pos L.length with h0 | h0
            · exact h0
            · have := small h0
              omega
          rw [List.length_eq_zero_iff.mp l0]
        · rfl
      | cons x r =>
        obtain ⟨e1, e2⟩ := drop_out hon.nd ed
        have jlt : j < L.length := by
          have := congrArg List.length ed
          rw [List.length_drop, List.length_cons] at this
          omega
        have mx : x ∈ xs := hd.inn x (by rw [ed]; exact List.mem_cons_self)
        refine iteT ?_
        refine ⟨.ref l, rfl, .inl ⟨rfl, _, SqL.of hl4⟩, .str x, rfl, l, _, _, rfl, rfl, hl4, ?_, ?_⟩
        · rw [List.length_map, List.length_take]
          exact small1000 (by omega)
        have s5 : Same H (upd H4 l (.lst ((L.take j).map V.str ++ [.str x]))) := fun b o eb => by
          rw [upd_ne (ne_of_none eb nl0)]
          exact s4 b o eb
        have hl5 : (upd H4 l (.lst ((L.take j).map V.str ++ [.str x]))) l = some (.lst ((L.take (j + 1)).map V.str)) := by
          rw [upd_same, e2, List.map_append]
          rfl
        have hpr5 : (upd H4 l (.lst ((L.take j).map V.str ++ [.str x]))) pr = some (.tup ((L.drop j).map V.str)) := by
          rw [upd_ne (ne_of hpr hl4 (by intro z; cases z))]
          exact hpr
        generalize upd H4 l (.lst ((L.take j).map V.str ++ [.str x])) = H5 at s5 hl5 hpr5 ⊢
        refine ⟨.ref pr, rfl, .str x, rfl, by show 1 ≤ sizeLine; decide, fun l2 nl2 => ?_⟩
        have s6 := same_new (o := .lst [.str x]) nl2
        have hl2 : (upd H5 l2 (.lst [.str x])) l2 = some (.lst ([x].map V.str)) := upd_same
        generalize upd H5 l2 (.lst [.str x]) = H6 at s6 hl2 ⊢
        refine ⟨pr, l2, L.drop j, [x], rfl, s6 _ _ hpr5, .inl (SqL.of hl2), by rw [List.length_drop]; omega, fun p2 H7 s7 np2 hp2 => ?_⟩
        rw [e1] at hp2
        have s07 := (s5.trans s6).trans s7
        refine ⟨.ref net, rfl, .ref p2, rfl, .ref e, rfl, net, D, p2, e, c, xs, rs, L.drop (j + 1), Fs, rfl, N.same s07, hp2, (hon.dropn (j + 1)).inn, he.same s07, by rw [List.length_drop]; omega, by omega, fun H8 s8 => ?_⟩
        have hl8 := s8 _ _ (s7 _ _ (s6 _ _ hl5))
        refine ⟨⟨j + 1, p2, by omega, rfl, s07.trans s8, s8 _ _ hp2, hl8, fun _ => ?_⟩, ?_⟩
        · rcases Nat.eq_zero_or_pos j with h | h
          · subst h
            omega
          · exact small h
        · show (match H8 l with | some (.lst us) => L.length - us.length | _ => 0) < (match H4 l with | some (.lst us) => L.length - us.length | _ => 0)
          rw [hl8, hl4]
          simp only [List.length_map, List.length_take]
          omega
/-! largest_quorum -/
abbrev sLq : Stmt := top 35
abbrev nLq : List Str := ["network", "nodes", "faulty", "honest"]
theorem scLq : FnScope nLq pRm (defScope sLq) := ⟨rfl, rfl, rfl, by decide +kernel, rfl, by decide +kernel, by decide +kernel⟩
def spLq (K : PySem.W.Frag) (C : Addr) : Sp := fun vs H Q _ => ∃ (net D a e : Addr) (c : Int) (xs : List Str) (rs : Rws) (L Fs : List Str), vs = [.ref net, .ref a, .ref e] ∧ NetAt C H net D c xs rs ∧ NodesAt K H a L ∧ Hon xs Fs L ∧ NodesAt K H e Fs ∧ Fl xs Fs ∧
  ∀ (p : Addr) (H' : Hp), Same H H' → H p = none → H' p = some (.tup ((lqL c Fs.length L).map V.str)) → Q (.ref p) H'
abbrev Kb (K : PySem.W.Frag) (fd : FuncData) (ps : List Str) (n : Nat) : Prop := KBn K fd ps n ["faulty"] (fun us ws => us ++ ws) (fun vs zs => vs ++ zs)
theorem ok_largest {f f1 f2 f3 C : Addr} {fd fd1 fd2 fd3 : FuncData} {k : Nat} (F : Fun K "largest_quorum" "largest_quorum" sLq f fd) (T : Bq mg)
    (F1 : Fun K "start_of_removal" "start_of_removal" sSo f1 fd1) (b1 : Binds K fd1 nSo []) (g1 : mg "start_of_removal" = some (.ref f1)) (G1 : FnOk P w K mg base CX0 k f1 fd1 nSo (spSo K C))
    (F2 : Fun K "removal_order" "removal_order" sRm f2 fd2) (b2 : Kb K fd2 pRm 2) (g2 : mg "removal_order" = some (.ref f2)) (G2 : FnOk P w K mg base CX0 k f2 fd2 pRm (spRm K C))
    (F3 : Fun K "names_outside" "names_outside" sOut f3 fd3) (b3 : Binds K fd3 ["names", "excluded"] []) (g3 : mg "names_outside" = some (.ref f3)) (G3 : FnOk P w K mg base CX0 k f3 fd3 ["names", "excluded"] (spOut K)) : FnOk P w K mg base CX0 (k + 1) f fd pRm (spLq K C) := by
  refine F.ok scLq (fun vs H Q E h => ?_) (fun cdv A outer s H vs Q E hr h => ?_)
  · obtain ⟨net, D, a, e, c, xs, rs, L, Fs, rfl, _⟩ := h
    rfl
  · obtain ⟨net, D, a, e, c, xs, rs, L, Fs, rfl, N, ha, hon, he, fl, q⟩ := h
    have l8 := hon.few N.fit
    refine ⟨_, pss_cons (ps_set (i := 3) scLq.nd rfl (Or.inl rfl) (pe_call G1 hr (by rfl) g1 F1.kp b1 .nil pass0 (pa_cons (pv 0) (pa_cons (pv 1) (pa_cons (pv 2) pa_nil)))))
      (pss_one (ps_ret (pe_call G3 hr (by rfl) g3 F3.kp b3 .nil pass0 (pa_cons (pv 3) (pa_cons (pe_callN G2 hr (by rfl) g2 F2.kp b2 pass0 (pa_cons (pv 0) (pa_cons (pv 3) pa_nil)) (pk_cons (pv 2) pk_nil)) pa_nil))))), ?_⟩
    refine ⟨.ref net, rfl, .ref a, rfl, .ref e, rfl, net, D, a, e, c, xs, rs, L, Fs, rfl, N, ha, hon, he, fl, fun p1 H1 s1 np1 hp1 => ?_⟩
    refine ⟨.ref p1, rfl, .ref net, rfl, .ref p1, rfl, .ref e, rfl, rfl, rfl, net, D, p1, e, c, xs, rs, L, Fs, rfl, N.same s1, .inr (SqT.of hp1), hon, he.same s1, fl, fun p2 H2 s2 np2 hp2 => ?_⟩
    refine ⟨p1, p2, L, _, rfl, s2 _ _ hp1, .inr (SqT.of hp2), by omega, fun p3 H3 s3 np3 hp3 => ?_⟩
    rw [lq_out] at hp3
    exact q p3 H3 ((s1.trans s2).trans s3) ((s1.trans s2).free np3) hp3
end
end Moot
namespace Moot
open PySem PySem.Spec PyProof.Rows L2
def CrtAt (H : Hp) : Crt → Addr → Prop
  | .one L, p => ∃ q, H p = some (.tup [.str "empty", .str "one", .ref q]) ∧ H q = some (.tup (L.map V.str))
  | .other L, p => ∃ q, H p = some (.tup [.str "empty", .str "other", .ref q]) ∧ H q = some (.tup (L.map V.str))
  | .split x t u, p => ∃ p1 p2, H p = some (.tup [.str "split", .str x, .ref p1, .ref p2]) ∧ CrtAt H t p1 ∧ CrtAt H u p2
theorem CrtAt.same {H H' : Hp} (s : Same H H') : ∀ {t : Crt} {p : Addr}, CrtAt H t p → CrtAt H' t p
  | .one L, _, h => let ⟨q, h1, h2⟩ := h; ⟨q, s _ _ h1, s _ _ h2⟩
  | .other L, _, h => let ⟨q, h1, h2⟩ := h; ⟨q, s _ _ h1, s _ _ h2⟩
  | .split x t u, _, h => let ⟨p1, p2, h1, h2, h3⟩ := h; ⟨p1, p2, s _ _ h1, CrtAt.same s h2, CrtAt.same s h3⟩
def ResAt (H : Hp) : Res → Addr → Prop
  | .disj A B, p => ∃ q1 q2, H p = some (.tup [.str "disjoint", .ref q1, .ref q2]) ∧ H q1 = some (.tup (A.map V.str)) ∧ H q2 = some (.tup (B.map V.str))
  | .crt t, p => CrtAt H t p
theorem ResAt.same {H H' : Hp} (s : Same H H') : ∀ {r : Res} {p : Addr}, ResAt H r p → ResAt H' r p
  | .disj A B, _, h => let ⟨q1, q2, h1, h2, h3⟩ := h; ⟨q1, q2, s _ _ h1, s _ _ h2, s _ _ h3⟩
  | .crt t, _, h => CrtAt.same s h
def Res.apart : Res → Bool | .disj _ _ => true | .crt _ => false
theorem ResAt.word {H : Hp} : ∀ {r : Res} {p : Addr}, ResAt H r p → ∃ (z : Str) (us : List V), H p = some (.tup (.str z :: us)) ∧ decide (V.str z = V.str "disjoint") = r.apart
  | .disj A B, _, h => let ⟨q1, q2, h1, _⟩ := h; ⟨_, _, h1, by show decide (V.str "disjoint" = V.str "disjoint") = true; decide +kernel⟩
  | .crt (.one L), _, h => let ⟨q, h1, _⟩ := h; ⟨_, _, h1, by show decide (V.str "empty" = V.str "disjoint") = false; decide +kernel⟩
  | .crt (.other L), _, h => let ⟨q, h1, _⟩ := h; ⟨_, _, h1, by show decide (V.str "empty" = V.str "disjoint") = false; decide +kernel⟩
  | .crt (.split x t u), _, h => let ⟨p1, p2, h1, _⟩ := h; ⟨_, _, h1, by show decide (V.str "split" = V.str "disjoint") = false; decide +kernel⟩
def VerAt (H : Hp) : Res → Addr → Prop
  | .disj A B, p => ResAt H (.disj A B) p
  | .crt t, p => ∃ p', H p = some (.tup [.str "intersecting", .ref p']) ∧ CrtAt H t p'
theorem ord_no {c : Int} {f : Nat} {L : List Str} (h : okL c f L = false) : ordL c f L = L := by
  unfold ordL
  rcases okL_not.mp h with rfl | h
  · split <;> rfl
  · rw [if_neg (by omega)]
theorem lq_ok {c : Int} {f : Nat} {L : List Str} (h : okL c f L = true) : lqL c f L = L := by
  unfold lqL
  rw [if_pos (okL_iff.mp h).2]
theorem lq_no {c : Int} {f : Nat} {L : List Str} (h : okL c f L = false) : lqL c f L = [] := by
  unfold lqL
  rcases okL_not.mp h with rfl | h
  · split <;> rfl
  · rw [if_neg (by omega)]
section
variable {P : Program} {w : World} {K : PySem.W.Frag} {mg : Str → Option Value} {base : Heap}
/-! certificate_or_quorums -/
abbrev sCq : Stmt := top 37
abbrev pCq : List Str := ["network", "one", "other", "faulty"]
abbrev nCq : List Str := ["network", "one", "other", "faulty", "largest_one", "largest_other", "name", "common", "first", "second"]
theorem scCq : FnScope nCq pCq (defScope sCq) := ⟨rfl, rfl, rfl, by decide +kernel, rfl, by decide +kernel, by decide +kernel⟩
def spCq (K : PySem.W.Frag) (C : Addr) (n : Nat) : Sp := fun vs H Q _ => ∃ (net D a1 a2 e : Addr) (c : Int) (xs : List Str) (rs : Rws) (A B Fs : List Str), vs = [.ref net, .ref a1, .ref a2, .ref e] ∧ NetAt C H net D c xs rs ∧ H a1 = some (.tup (A.map V.str)) ∧ H a2 = some (.tup (B.map V.str)) ∧
  Hon xs Fs A ∧ Hon xs Fs B ∧ NodesAt K H e Fs ∧ Fl xs Fs ∧ A.length + B.length < n ∧ ∀ (p : Addr) (H' : Hp), Same H H' → ResAt H' (cq c Fs.length n A B) p → Q (.ref p) H'
theorem ok_cq {f f1 f2 f3 C : Addr} {fd fd1 fd2 fd3 : FuncData} {k n : Nat} (F : Fun K "certificate_or_quorums" "certificate_or_quorums" sCq f fd) (b0 : Binds K fd pCq []) (g0 : mg "certificate_or_quorums" = some (.ref f)) (T : Bq mg) (G0 : FnOk P w K mg base CX0 k f fd pCq (spCq K C n))
    (F1 : Fun K "largest_quorum" "largest_quorum" sLq f1 fd1) (b1 : Kb K fd1 pRm 2) (g1 : mg "largest_quorum" = some (.ref f1)) (G1 : FnOk P w K mg base CX0 k f1 fd1 pRm (spLq K C))
    (F2 : Fun K "removal_order" "removal_order" sRm f2 fd2) (b2 : Kb K fd2 pRm 2) (g2 : mg "removal_order" = some (.ref f2)) (G2 : FnOk P w K mg base CX0 k f2 fd2 pRm (spRm K C))
    (F3 : Fun K "names_outside" "names_outside" sOut f3 fd3) (b3 : Binds K fd3 ["names", "excluded"] []) (g3 : mg "names_outside" = some (.ref f3)) (G3 : FnOk P w K mg base CX0 k f3 fd3 ["names", "excluded"] (spOut K)) : FnOk P w K mg base CX0 (k + 1) f fd pCq (spCq K C (n + 1)) := by
  refine F.ok scCq (fun vs H Q E h => ?_) (fun cdv A' outer s H vs Q E hr h => ?_)
  · obtain ⟨net, D, a1, a2, e, c, xs, rs, A, B, Fs, rfl, _⟩ := h
    rfl
  · obtain ⟨net, D, a1, a2, e, c, xs, rs, A, B, Fs, rfl, N, ha1, ha2, hA, hB, he, fl, hlen, q⟩ := h
    have lA := hA.few N.fit
    have lB := hB.few N.fit
    refine ⟨_, pss_cons (ps_set (i := 4) scCq.nd rfl (Or.inl rfl) (pe_callN G1 hr (by rfl) g1 F1.kp b1 pass0 (pa_cons (pv 0) (pa_cons (pv 1) pa_nil)) (pk_cons (pv 3) pk_nil)))
      (pss_cons (ps_if (pt_cmpR op_eq (pe_callB call_len_seq (by rfl) T.T.len PySem.boot_len (pa_cons (pv 4) pa_nil)) pe_int (nomark _)) (pss_one (ps_ret (pe_tup (pa_cons pe_str (pa_cons pe_str (pa_cons (pe_callN G2 hr (by rfl) g2 F2.kp b2 pass0 (pa_cons (pv 0) (pa_cons (pv 1) pa_nil)) (pk_cons (pv 3) pk_nil)) pa_nil)))))) pss_nil)
      (pss_cons (ps_set (i := 5) scCq.nd rfl (Or.inr rfl) (pe_callN G1 hr (by rfl) g1 F1.kp b1 pass0 (pa_cons (pv 0) (pa_cons (pv 2) pa_nil)) (pk_cons (pv 3) pk_nil)))
      (pss_cons (ps_if (pt_cmpR op_eq (pe_callB call_len_seq (by rfl) T.T.len PySem.boot_len (pa_cons (pv 5) pa_nil)) pe_int (nomark _)) (pss_one (ps_ret (pe_tup (pa_cons pe_str (pa_cons pe_str (pa_cons (pe_callN G2 hr (by rfl) g2 F2.kp b2 pass0 (pa_cons (pv 0) (pa_cons (pv 2) pa_nil)) (pk_cons (pv 3) pk_nil)) pa_nil)))))) pss_nil)
      (pss_cons (ps_setLc (i := 7) (own := [("name", 6)]) (g := gName 6) (by rfl) scCq.nd rfl rfl (sw_true rfl rfl rfl (by decide +kernel)) (pi_tup (pv 4)) (blkOk_by (N := nCq) (sc := defScope sCq) (by decide +kernel))
        (fun _ _ _ _ _ => pg_name (i := 6) scCq.nd rfl (Or.inl rfl)) (fun _ _ _ _ _ => pts_one (pt_cmpR (show OpR _ (compareOp .In) (rIn K false) from op_in_seq) (pv 6) (pv 5) (by rfl))) (fun _ _ _ _ _ => pv 6))
      (pss_cons (ps_if (pt_cmpR op_eq (pe_callB call_len_seq (by rfl) T.T.len PySem.boot_len (pa_cons (pv 7) pa_nil)) pe_int (nomark _)) (pss_one (ps_ret (pe_tup (pa_cons pe_str (pa_cons (pv 4) (pa_cons (pv 5) pa_nil)))))) pss_nil)
      (pss_cons (ps_set (i := 6) scCq.nd rfl (Or.inl rfl) (pe_ix ix_list (pv 7) pe_int (fun _ _ => rfl)))
      (pss_cons (ps_set (i := 8) scCq.nd rfl (Or.inl rfl) (pe_call G0 hr (by rfl) g0 F.kp b0 .nil pass0 (pa_cons (pv 0) (pa_cons (pe_call G3 hr (by rfl) g3 F3.kp b3 .nil pass0 (pa_cons (pv 1) (pa_cons (pe_lst (pa_cons (pv 6) pa_nil)) pa_nil))) (pa_cons (pv 2) (pa_cons (pv 3) pa_nil))))))
      (pss_cons (ps_if (pt_cmpR op_eq (pe_ix ix_tup (pv 8) pe_int (fun _ _ => rfl)) pe_str (nomark _)) (pss_one (ps_ret (pv 8))) pss_nil)
      (pss_cons (ps_set (i := 9) scCq.nd rfl (Or.inl rfl) (pe_call G0 hr (by rfl) g0 F.kp b0 .nil pass0 (pa_cons (pv 0) (pa_cons (pv 1) (pa_cons (pe_call G3 hr (by rfl) g3 F3.kp b3 .nil pass0 (pa_cons (pv 2) (pa_cons (pe_lst (pa_cons (pv 6) pa_nil)) pa_nil))) (pa_cons (pv 3) pa_nil))))))
      (pss_cons (ps_if (pt_cmpR op_eq (pe_ix ix_tup (pv 9) pe_int (fun _ _ => rfl)) pe_str (nomark _)) (pss_one (ps_ret (pv 9))) pss_nil)
      (pss_one (ps_ret (pe_tup (pa_cons pe_str (pa_cons (pv 6) (pa_cons (pv 8) (pa_cons (pv 9) pa_nil))))))))))))))))), ?_⟩
    have eq0 : cq c Fs.length (n + 1) A B = if okL c Fs.length A = true then
      if okL c Fs.length B = true then
        match A.filter fun x => decide (x ∈ B) with
        | [] => .disj A B
        | x :: _ => match cq c Fs.length n (dropN A x) B with
          | .disj a b => .disj a b
          | .crt t => match cq c Fs.length n A (dropN B x) with
            | .disj a b => .disj a b
            | .crt u => .crt (.split x t u)
      else .crt (.other B)
    else .crt (.one A) := rfl
    rw [eq0] at q
    refine ⟨.ref net, rfl, .ref a1, rfl, .ref e, rfl, rfl, rfl, net, D, a1, e, c, xs, rs, A, Fs, rfl, N, .inr (SqT.of ha1), hA, he, fl, fun p1 H1 s1 np1 hp1 => ?_⟩
    refine ⟨.ref p1, rfl, p1, _, rfl, .inr (SqT.of hp1), rfl, _, rfl, ?_⟩
    cases oA : okL c Fs.length A with
    | false =>
      rw [lq_no oA] at hp1 ⊢
      refine iteT ?_
      refine ⟨.ref net, rfl, .ref a1, rfl, .ref e, rfl, rfl, rfl, net, D, a1, e, c, xs, rs, A, Fs, rfl, N.same s1, .inr (SqT.of (s1 _ _ ha1)), hA, he.same s1, fl, fun p2 H2 s2 np2 hp2 => ?_⟩
      rw [ord_no oA] at hp2
      refine ⟨by show 3 ≤ sizeLine; decide, fun t nt => ?_⟩
      rw [oA, if_neg Bool.false_ne_true] at q
      exact q t _ ((s1.trans s2).trans (same_new nt)) ⟨p2, upd_same, same_new nt _ _ hp2⟩
    | true =>
    rw [oA, if_pos rfl] at q
    rw [lq_ok oA] at hp1 ⊢
    have neA := (okL_iff.mp oA).1
    have test : decide (V.int (((A.map V.str).length : Nat) : Int) = V.int 0) = false := decide_eq_false fun z => by
      have := V.int.inj z
      rw [List.length_map] at this
      exact neA (List.length_eq_zero_iff.mp (by omega))
    rw [test]
    refine iteF ?_
    have ha2' := s1 _ _ ha2
    refine ⟨.ref net, rfl, .ref a2, rfl, .ref e, rfl, rfl, rfl, net, D, a2, e, c, xs, rs, B, Fs, rfl, N.same s1, .inr (SqT.of ha2'), hB, he.same s1, fl, fun p2 H2 s2 np2 hp2 => ?_⟩
    have s02 := s1.trans s2
    refine ⟨.ref p2, rfl, p2, _, rfl, .inr (SqT.of hp2), rfl, _, rfl, ?_⟩
    cases oB : okL c Fs.length B with
    | false =>
      rw [lq_no oB] at hp2 ⊢
      refine iteT ?_
      refine ⟨.ref net, rfl, .ref a2, rfl, .ref e, rfl, rfl, rfl, net, D, a2, e, c, xs, rs, B, Fs, rfl, N.same s02, .inr (SqT.of (s02 _ _ ha2)), hB, he.same s02, fl, fun p3 H3 s3 np3 hp3 => ?_⟩
      rw [ord_no oB] at hp3
      refine ⟨by show 3 ≤ sizeLine; decide, fun t nt => ?_⟩
      rw [oB, if_neg Bool.false_ne_true] at q
      exact q t _ ((s02.trans s3).trans (same_new nt)) ⟨p3, upd_same, same_new nt _ _ hp3⟩
    | true =>
    rw [oB, if_pos rfl] at q
    rw [lq_ok oB] at hp2 ⊢
    have neB := (okL_iff.mp oB).1
    have test2 : decide (V.int (((B.map V.str).length : Nat) : Int) = V.int 0) = false := decide_eq_false fun z => by
      have := V.int.inj z
      rw [List.length_map] at this
      exact neB (List.length_eq_zero_iff.mp (by omega))
    rw [test2]
    refine iteF ?_
    have hp1' := s2 _ _ hp1
    refine ⟨.ref p1, rfl, p1, rfl, ⟨_, SqT.of hp1'⟩, fun l nl => lc_tup (K := K) (a := p1) (xs := A.map V.str) (fun i H3 => Same H2 H3 ∧ H3 l = some (.lst (((A.take i).filter fun x => decide (x ∈ B)).map V.str))) ⟨same_new nl, upd_same⟩ (fun i H3 _ h => SqT.of (h.1 _ _ hp1')) ?_ ?_⟩
    · rintro i x H3 hx ⟨s3, hl⟩
      rw [List.getElem?_map] at hx
      obtain ⟨z, hz, rfl⟩ := Option.map_eq_some_iff.mp hx
      have tk : A.take (i + 1) = A.take i ++ [z] := by
        rw [List.take_add_one, hz]
        rfl
      refine ⟨rfl, .str z, rfl, .ref p2, rfl, p2, _, rfl, .inr (SqT.of (s3 _ _ hp2)), rfl, flats B, _, rfl, ?_⟩
      rw [inV_str]
      by_cases m : z ∈ B
      · rw [decide_eq_true m]
        refine iteT ⟨.str z, rfl, _, hl, ?_, fun d o eb => ?_, ?_⟩
        · rw [List.length_map]
          refine small1000 (Nat.le_trans (List.length_filter_le _ _) ?_)
          rw [List.length_take]
          omega
        · rw [upd_ne (ne_of_none eb nl)]
          exact s3 d o eb
        · rw [upd_same, tk, List.filter_append]
          simp [m]
      · rw [decide_eq_false m]
        refine iteF ⟨s3, ?_⟩
        rw [hl, tk, List.filter_append]
        simp [m]
    · rintro H3 ⟨s3, hl⟩
      rw [List.length_map, List.take_length] at hl
      have s03 := s02.trans s3
      refine ⟨.ref l, rfl, l, _, rfl, .inl (SqL.of hl), rfl, _, rfl, ?_⟩
      cases hx : A.filter (fun x => decide (x ∈ B)) with
      | nil =>
        rw [hx] at q hl
        refine iteT ?_
        refine ⟨.ref p1, rfl, .ref p2, rfl, by show 3 ≤ sizeLine; decide, fun t nt => ?_⟩
        exact q t _ (s03.trans (same_new nt)) ⟨p1, p2, upd_same, same_new nt _ _ (s3 _ _ hp1'), same_new nt _ _ (s3 _ _ hp2)⟩
      | cons x r =>
        rw [hx] at q hl
        dsimp only at q
        have mx : x ∈ A ∧ x ∈ B := by
          have : x ∈ A.filter (fun x => decide (x ∈ B)) := by rw [hx]; exact List.mem_cons_self
          obtain ⟨h1, h2⟩ := List.mem_filter.mp this
          exact ⟨h1, of_decide_eq_true h2⟩
        have dA := dropN_len mx.1
        have dB := dropN_len mx.2
        have test3 : decide (V.int ((((x :: r).map V.str).length : Nat) : Int) = V.int 0) = false := decide_eq_false fun z => by
          have := V.int.inj z
          rw [List.length_map, List.length_cons] at this
          omega
        rw [test3]
        refine iteF ?_
        refine ⟨.ref l, rfl, l, _, 0, .str x, rfl, rfl, SqL.of hl, atI_nat (j := 0) rfl, ?_⟩
        refine ⟨.ref net, rfl, .ref a1, rfl, .str x, rfl, by show 1 ≤ sizeLine; decide, fun l2 nl2 => ?_⟩
        have s4 := same_new (o := .lst [.str x]) nl2
        have hl2 : (upd H3 l2 (.lst [.str x])) l2 = some (.lst ([x].map V.str)) := upd_same
        generalize upd H3 l2 (.lst [.str x]) = H4 at s4 hl2 ⊢
        have s04 := s03.trans s4
        refine ⟨a1, l2, A, [x], rfl, s04 _ _ ha1, .inl (SqL.of hl2), by omega, fun p3 H5 s5 np3 hp3 => ?_⟩
        rw [dropN_out] at hp3
        have s05 := s04.trans s5
        refine ⟨.ref a2, rfl, .ref e, rfl, net, D, p3, a2, e, c, xs, rs, dropN A x, B, Fs, rfl, N.same s05, hp3, s05 _ _ ha2, hA.drop x, hB, he.same s05, fl, by omega, fun r1 H6 s6 R1 => ?_⟩
        have s06 := s05.trans s6
        obtain ⟨z1, us1, hz1, w1⟩ := R1.word
        refine ⟨.ref r1, rfl, r1, _, 0, .str z1, rfl, rfl, SqT.of hz1, atI_nat (j := 0) rfl, rfl, _, rfl, ?_⟩
        rw [w1]
        cases h1 : cq c Fs.length n (dropN A x) B with
        | disj a b =>
          rw [h1] at q R1
          exact iteT ⟨.ref r1, rfl, q r1 H6 s06 R1⟩
        | crt t =>
        rw [h1] at q R1
        dsimp only at q
        refine iteF ?_
        refine ⟨.ref net, rfl, .ref a1, rfl, .ref a2, rfl, .str x, rfl, by show 1 ≤ sizeLine; decide, fun l3 nl3 => ?_⟩
        have s7 := same_new (o := .lst [.str x]) nl3
        have hl3 : (upd H6 l3 (.lst [.str x])) l3 = some (.lst ([x].map V.str)) := upd_same
        generalize upd H6 l3 (.lst [.str x]) = H7 at s7 hl3 ⊢
        have s07 := s06.trans s7
        refine ⟨a2, l3, B, [x], rfl, s07 _ _ ha2, .inl (SqL.of hl3), by omega, fun p4 H8 s8 np4 hp4 => ?_⟩
        rw [dropN_out] at hp4
        have s08 := s07.trans s8
        refine ⟨.ref e, rfl, net, D, a1, p4, e, c, xs, rs, A, dropN B x, Fs, rfl, N.same s08, s08 _ _ ha1, hp4, hA, hB.drop x, he.same s08, fl, by omega, fun r2 H9 s9 R2 => ?_⟩
        have s09 := s08.trans s9
        obtain ⟨z2, us2, hz2, w2⟩ := R2.word
        refine ⟨.ref r2, rfl, r2, _, 0, .str z2, rfl, rfl, SqT.of hz2, atI_nat (j := 0) rfl, rfl, _, rfl, ?_⟩
        rw [w2]
        cases h2 : cq c Fs.length n A (dropN B x) with
        | disj a b =>
          rw [h2] at q R2
          exact iteT ⟨.ref r2, rfl, q r2 H9 s09 R2⟩
        | crt u =>
          rw [h2] at q R2
          refine iteF ?_
          refine ⟨.str x, rfl, .ref r1, rfl, .ref r2, rfl, by show 4 ≤ sizeLine; decide, fun t' nt => ?_⟩
          have R1' : CrtAt H9 t r1 := CrtAt.same ((s7.trans s8).trans s9) R1
          exact q t' _ (s09.trans (same_new nt)) ⟨r1, r2, upd_same, CrtAt.same (same_new nt) R1', CrtAt.same (same_new nt) R2⟩
/-! intersection -/
abbrev sIt : Stmt := top 38
abbrev nIt : List Str := ["network", "faulty", "honest", "found"]
theorem scIt : FnScope nIt ["network", "faulty"] (defScope sIt) := ⟨rfl, rfl, rfl, by decide +kernel, rfl, by decide +kernel, by decide +kernel⟩
/-- the honest ones -/
def honL (rs : Rws) (Fs : List Str) : List Str := (rs.map (·.1)).filter fun x => decide (x ∉ Fs)
theorem NetAt.hon {C : Addr} {H : Hp} {net D : Addr} {c : Int} {xs : List Str} {rs : Rws} (N : NetAt C H net D c xs rs) (Fs : List Str) : Hon xs Fs (honL rs Fs) :=
  ⟨List.Pairwise.sublist List.filter_sublist N.srt, (N.fit.keys.nodup_iff.mpr N.fit.nd).filter _, fun x m => N.fit.keys.mem_iff.mp (List.mem_filter.mp m).1, fun x m => of_decide_eq_true (List.mem_filter.mp m).2⟩
def spIt (K : PySem.W.Frag) (C : Addr) : Sp := fun vs H Q _ => ∃ (net D e : Addr) (c : Int) (xs : List Str) (rs : Rws) (Fs : List Str), vs = [.ref net, .ref e] ∧ NetAt C H net D c xs rs ∧ NodesAt K H e Fs ∧ Fl xs Fs ∧
  ∀ (p : Addr) (H' : Hp), Same H H' → VerAt H' (cq c Fs.length 17 (honL rs Fs) (honL rs Fs)) p → Q (.ref p) H'
theorem ok_inter {f f1 f2 f3 f4 C : Addr} {fd fd1 fd2 fd3 fd4 : FuncData} {k : Nat} (F : Fun K "intersection" "intersection" sIt f fd) (T : Bq mg) (X : Txt K mg C)
    (M1 : Meth K C "check_nodes" f1) (b1 : Binds K fd1 ["self", "names"] []) (G1 : FnOk P w K mg base CX0 k f1 fd1 ["self", "names"] (spCn K C))
    (M2 : Meth K C "node_names" f2) (b2 : Binds K fd2 ["self"] []) (G2 : FnOk P w K mg base CX0 k f2 fd2 ["self"] (spNn C))
    (F3 : Fun K "names_outside" "names_outside" sOut f3 fd3) (b3 : Binds K fd3 ["names", "excluded"] []) (g3 : mg "names_outside" = some (.ref f3)) (G3 : FnOk P w K mg base CX0 k f3 fd3 ["names", "excluded"] (spOut K))
    (F4 : Fun K "certificate_or_quorums" "certificate_or_quorums" sCq f4 fd4) (b4 : Binds K fd4 pCq []) (g4 : mg "certificate_or_quorums" = some (.ref f4)) (G4 : FnOk P w K mg base CX0 k f4 fd4 pCq (spCq K C 17)) : FnOk P w K mg base CX0 (k + 1) f fd ["network", "faulty"] (spIt K C) := by
  refine F.ok scIt (fun vs H Q E h => ?_) (fun cdv A outer s H vs Q E hr h => ?_)
  · obtain ⟨net, D, e, c, xs, rs, Fs, rfl, _⟩ := h
    rfl
  · obtain ⟨net, D, e, c, xs, rs, Fs, rfl, N, he, fl, q⟩ := h
    obtain ⟨dx, hn⟩ := N.ob
    refine ⟨_, pss_cons (ps_expr (pe_meth (pv 0) X.cl M1 G1 hr b1 .nil pass0 (pa_cons (pv 1) pa_nil)))
      (pss_cons (ps_set (i := 2) scIt.nd rfl (Or.inl rfl) (pe_call G3 hr (by rfl) g3 F3.kp b3 .nil pass0 (pa_cons (pe_meth0 (pv 0) X.cl M2 G2 hr b2 .nil pass0) (pa_cons (pv 1) pa_nil))))
      (pss_cons (ps_set (i := 3) scIt.nd rfl (Or.inl rfl) (pe_call G4 hr (by rfl) g4 F4.kp b4 .nil pass0 (pa_cons (pv 0) (pa_cons (pv 2) (pa_cons (pv 2) (pa_cons (pv 1) pa_nil))))))
      (pss_cons (ps_if (pt_cmpR op_eq (pe_ix ix_tup (pv 3) pe_int (fun _ _ => rfl)) pe_str (nomark _)) (pss_one (ps_ret (pv 3))) pss_nil)
      (pss_one (ps_ret (pe_tup (pa_cons pe_str (pa_cons (pv 3) pa_nil)))))))), ?_⟩
    have hon := N.hon Fs
    have l8 := hon.few N.fit
    have rl := N.fit.len
    have r8 := N.fit.few
    refine ⟨.ref net, rfl, net, dx, _, rfl, hn, fld_no D (by decide +kernel), .ref e, rfl, net, D, e, c, xs, rs, Fs, rfl, N, he, fl.inn, ?_⟩
    refine ⟨.ref net, rfl, net, dx, _, rfl, hn, fld_no D (by decide +kernel), net, D, c, xs, rs, rfl, N, fun p1 H1 s1 np1 hp1 => ?_⟩
    refine ⟨.ref e, rfl, p1, e, rs.map (·.1), Fs, rfl, hp1, he.same s1, by rw [List.length_map]; omega, fun p2 H2 s2 np2 hp2 => ?_⟩
    have s02 := s1.trans s2
    refine ⟨.ref net, rfl, .ref p2, rfl, .ref p2, rfl, .ref e, rfl, net, D, p2, p2, e, c, xs, rs, honL rs Fs, honL rs Fs, Fs, rfl, N.same s02, hp2, hp2, hon, hon, he.same s02, fl, by omega, fun r H3 s3 R => ?_⟩
    have s03 := s02.trans s3
    obtain ⟨z, us, hz, wz⟩ := R.word
    refine ⟨.ref r, rfl, r, _, 0, .str z, rfl, rfl, SqT.of hz, atI_nat (j := 0) rfl, rfl, _, rfl, ?_⟩
    rw [wz]
    cases h : cq c Fs.length 17 (honL rs Fs) (honL rs Fs) with
    | disj a b =>
      rw [h] at q R
      exact iteT ⟨.ref r, rfl, q r H3 s03 R⟩
    | crt t =>
      rw [h] at q R
      refine iteF ?_
      refine ⟨.ref r, rfl, by show 2 ≤ sizeLine; decide, fun t' nt => ?_⟩
      exact q t' _ (s03.trans (same_new nt)) ⟨r, upd_same, CrtAt.same (same_new nt) R⟩
end
end Moot
namespace Moot
open PySem PySem.Spec PyProof.Rows L2
/-- the verdict by counting: n nodes, f of them failed, count c -/
def tword (c n f : Int) : Str := if 0 < n - f ∧ n - f < c then "dependent" else if 2 * (if c - f > 1 then c - f else 1) ≤ n - f then "disjoint" else "tolerated"
theorem hon_len {C : Addr} {H : Hp} {net D : Addr} {c : Int} {xs : List Str} {rs : Rws} (N : NetAt C H net D c xs rs) {Fs : List Str} (fl : Fl xs Fs) : (honL rs Fs).length + Fs.length = xs.length := by
  have e1 : cnt (rs.map (·.1)) Fs = Fs.length := by rw [cnt_perm N.fit.keys, cnt_len N.fit.nd fl.nd fl.inn]
  have e2 : (honL rs Fs).length + cnt (rs.map (·.1)) Fs = (rs.map (·.1)).length := by
    unfold honL cnt
    rw [← List.countP_eq_length_filter, List.length_eq_countP_add_countP (fun x => decide (x ∈ Fs)), Nat.add_comm]
    congr 1
    exact List.countP_congr fun x _ => by simp
  rw [e1, N.fit.keys.length_eq] at e2
  exact e2
section
variable {P : Program} {w : World} {K : PySem.W.Frag} {mg : Str → Option Value} {base : Heap}
/-! honest_nodes -/
abbrev sHn : Stmt := top 40
abbrev pHn : List Str := ["network", "faulty"]
theorem scHn : FnScope pHn pHn (defScope sHn) := ⟨rfl, rfl, rfl, by decide +kernel, rfl, by decide +kernel, by decide +kernel⟩
def spHn (K : PySem.W.Frag) (C : Addr) : Sp := fun vs H Q _ => ∃ (net D e : Addr) (c : Int) (xs : List Str) (rs : Rws) (Fs : List Str), vs = [.ref net, .ref e] ∧ NetAt C H net D c xs rs ∧ NodesAt K H e Fs ∧ (∀ x ∈ Fs, x ∈ xs) ∧
  ∀ (p : Addr) (H' : Hp), Same H H' → H p = none → H' p = some (.tup ((honL rs Fs).map V.str)) → Q (.ref p) H'
theorem ok_honest {f f1 f2 f3 C : Addr} {fd fd1 fd2 fd3 : FuncData} {k : Nat} (F : Fun K "honest_nodes" "honest_nodes" sHn f fd) (T : Bq mg) (X : Txt K mg C)
    (M1 : Meth K C "check_nodes" f1) (b1 : Binds K fd1 ["self", "names"] []) (G1 : FnOk P w K mg base CX0 k f1 fd1 ["self", "names"] (spCn K C))
    (M2 : Meth K C "node_names" f2) (b2 : Binds K fd2 ["self"] []) (G2 : FnOk P w K mg base CX0 k f2 fd2 ["self"] (spNn C))
    (F3 : Fun K "names_outside" "names_outside" sOut f3 fd3) (b3 : Binds K fd3 ["names", "excluded"] []) (g3 : mg "names_outside" = some (.ref f3)) (G3 : FnOk P w K mg base CX0 k f3 fd3 ["names", "excluded"] (spOut K)) : FnOk P w K mg base CX0 (k + 1) f fd pHn (spHn K C) := by
  refine F.ok scHn (fun vs H Q E h => ?_) (fun cdv A outer s H vs Q E hr h => ?_)
  · obtain ⟨net, D, e, c, xs, rs, Fs, rfl, _⟩ := h
    rfl
  · obtain ⟨net, D, e, c, xs, rs, Fs, rfl, N, he, inn, q⟩ := h
    obtain ⟨dx, hn⟩ := N.ob
    refine ⟨_, pss_cons (ps_expr (pe_meth (pv 0) X.cl M1 G1 hr b1 .nil pass0 (pa_cons (pv 1) pa_nil)))
      (pss_one (ps_ret (pe_call G3 hr (by rfl) g3 F3.kp b3 .nil pass0 (pa_cons (pe_meth0 (pv 0) X.cl M2 G2 hr b2 .nil pass0) (pa_cons (pv 1) pa_nil))))), ?_⟩
    have rl := N.fit.len
    have r8 := N.fit.few
    refine ⟨.ref net, rfl, net, dx, _, rfl, hn, fld_no D (by decide +kernel), .ref e, rfl, net, D, e, c, xs, rs, Fs, rfl, N, he, inn, ?_⟩
    refine ⟨.ref net, rfl, net, dx, _, rfl, hn, fld_no D (by decide +kernel), net, D, c, xs, rs, rfl, N, fun p1 H1 s1 np1 hp1 => ?_⟩
    refine ⟨.ref e, rfl, p1, e, rs.map (·.1), Fs, rfl, hp1, he.same s1, by rw [List.length_map]; omega, fun p2 H2 s2 np2 hp2 => ?_⟩
    exact q p2 H2 (s1.trans s2) (s1.free np2) hp2
/-! tolerance -/
abbrev sTol : Stmt := top 41
abbrev nTol : List Str := ["network", "faulty", "dependent", "found"]
theorem scTol : FnScope nTol pHn (defScope sTol) := ⟨rfl, rfl, rfl, by decide +kernel, rfl, by decide +kernel, by decide +kernel⟩
def spTol (K : PySem.W.Frag) (C : Addr) : Sp := fun vs H Q _ => ∃ (net D e : Addr) (c : Int) (xs : List Str) (rs : Rws) (Fs : List Str), vs = [.ref net, .ref e] ∧ NetAt C H net D c xs rs ∧ NodesAt K H e Fs ∧ Fl xs Fs ∧
  ∀ (p : Addr) (H' : Hp) (us : List V), Same H H' → H' p = some (.tup (.str (tword c xs.length Fs.length) :: us)) → (tword c xs.length Fs.length = "dependent" → us = [headV (honL rs Fs)]) → Q (.ref p) H'
theorem ok_tol {f f1 f2 f3 C : Addr} {fd fd1 fd2 fd3 : FuncData} {k : Nat} (F : Fun K "tolerance" "tolerance" sTol f fd) (T : Bq mg)
    (F1 : Fun K "honest_nodes" "honest_nodes" sHn f1 fd1) (b1 : Binds K fd1 pHn []) (g1 : mg "honest_nodes" = some (.ref f1)) (G1 : FnOk P w K mg base CX0 k f1 fd1 pHn (spHn K C))
    (F2 : Fun K "first_removable" "first_removable" sFr f2 fd2) (b2 : Binds K fd2 ["network", "nodes", "faulty"] []) (g2 : mg "first_removable" = some (.ref f2)) (G2 : FnOk P w K mg base CX0 k f2 fd2 ["network", "nodes", "faulty"] (spFr K C))
    (F3 : Fun K "intersection" "intersection" sIt f3 fd3) (b3 : Kb K fd3 ["network", "faulty"] 1) (g3 : mg "intersection" = some (.ref f3)) (G3 : FnOk P w K mg base CX0 k f3 fd3 ["network", "faulty"] (spIt K C)) : FnOk P w K mg base CX0 (k + 1) f fd pHn (spTol K C) := by
  refine F.ok scTol (fun vs H Q E h => ?_) (fun cdv A outer s H vs Q E hr h => ?_)
  · obtain ⟨net, D, e, c, xs, rs, Fs, rfl, _⟩ := h
    rfl
  · obtain ⟨net, D, e, c, xs, rs, Fs, rfl, N, he, fl, q⟩ := h
    refine ⟨_, pss_cons (ps_set (i := 2) scTol.nd rfl (Or.inl rfl) (pe_call G2 hr (by rfl) g2 F2.kp b2 .nil pass0 (pa_cons (pv 0) (pa_cons (pe_call G1 hr (by rfl) g1 F1.kp b1 .nil pass0 (pa_cons (pv 0) (pa_cons (pv 1) pa_nil))) (pa_cons (pe_tup pa_nil) pa_nil)))))
      (pss_cons (ps_if (pt_cmpR op_notN (pv 2) pe_non (nomark _)) (pss_one (ps_ret (pe_tup (pa_cons pe_str (pa_cons (pv 2) pa_nil))))) pss_nil)
      (pss_cons (ps_set (i := 3) scTol.nd rfl (Or.inl rfl) (pe_callN G3 hr (by rfl) g3 F3.kp b3 pass0 (pa_cons (pv 0) pa_nil) (pk_cons (pv 1) pk_nil)))
      (pss_cons (ps_if (pt_cmpR op_eq (pe_ix ix_tup (pv 3) pe_int (fun _ _ => rfl)) pe_str (nomark _)) (pss_one (ps_ret (pv 3))) pss_nil)
      (pss_one (ps_ret (pe_tup (pa_cons pe_str (pa_cons (pe_ix ix_tup (pv 3) pe_int (fun _ _ => rfl)) pa_nil)))))))), ?_⟩
    have hon := N.hon Fs
    have l8 := hon.few N.fit
    have hl := hon_len N fl
    refine ⟨.ref net, rfl, .ref net, rfl, .ref e, rfl, net, D, e, c, xs, rs, Fs, rfl, N, he, fl.inn, fun p1 H1 s1 np1 hp1 => ?_⟩
    refine ⟨Nat.zero_le _, fun t0 nt0 => ?_⟩
    have s2 := same_new (o := .tup []) nt0
    have ht0 : (upd H1 t0 (.tup [])) t0 = some (.tup (([] : List Str).map V.str)) := upd_same
    generalize upd H1 t0 (.tup []) = H2 at s2 ht0 ⊢
    have s02 := s1.trans s2
    refine ⟨net, D, p1, t0, c, xs, rs, honL rs Fs, [], rfl, N.same s02, s2 _ _ hp1, hon.inn, .inr (SqT.of ht0), by omega, by simp, fun H3 s3 => ?_⟩
    have s03 := s02.trans s3
    have efr : frV xs c (honL rs Fs) [] = if c ≤ ((honL rs Fs).length : Int) then .non else headV (honL rs Fs) := by
      unfold frV
      rw [List.append_nil, cnt_len N.fit.nd hon.nd hon.inn]
    rw [efr]
    have V1 := verdict (c := c) (f := Fs.length) (n := 17) hon.nd (by omega)
    refine ⟨_, rfl, rfl, _, rfl, ?_⟩
    have nodep : ¬ (0 < (xs.length : Int) - Fs.length ∧ (xs.length : Int) - Fs.length < c) → (if c ≤ ((honL rs Fs).length : Int) then V.non else headV (honL rs Fs)) = .non := fun h => by
      split
      · rfl
      · cases e0 : honL rs Fs with
        | nil => rfl
        | cons x r =>
          exfalso
          rw [e0] at hl
          rename_i h2
          rw [e0] at h2
          rw [List.length_cons] at hl h2
          omega
    by_cases dep : 0 < (xs.length : Int) - Fs.length ∧ (xs.length : Int) - Fs.length < c
    · have ew : tword c xs.length Fs.length = "dependent" := by
        unfold tword
        rw [if_pos dep]
      rw [ew] at q
      rw [if_neg (by omega)]
      cases e0 : honL rs Fs with
      | nil =>
        exfalso
        rw [e0] at hl
        rw [List.length_nil] at hl
        omega
      | cons x r =>
        rw [e0] at q
        refine iteT ⟨.str x, rfl, by show 2 ≤ sizeLine; decide, fun t nt => ?_⟩
        exact q t _ [.str x] (s03.trans (same_new nt)) upd_same fun _ => rfl
    · rw [nodep dep]
      refine iteF ?_
      refine ⟨.ref net, rfl, .ref e, rfl, rfl, rfl, net, D, e, c, xs, rs, Fs, rfl, N.same s03, he.same s03, fl, fun r H4 s4 R => ?_⟩
      have s04 := s03.trans s4
      cases hc : cq c Fs.length 17 (honL rs Fs) (honL rs Fs) with
      | disj a b =>
        rw [hc] at R
        obtain ⟨q1, q2, hr', _⟩ := R
        have le := V1.mp ⟨a, b, hc⟩
        have ew : tword c xs.length Fs.length = "disjoint" := by
          unfold tword
          rw [if_neg dep, if_pos (by omega)]
        rw [ew] at q
        refine ⟨.ref r, rfl, r, _, 0, .str "disjoint", rfl, rfl, SqT.of hr', atI_nat (j := 0) rfl, rfl, _, rfl, ?_⟩
        refine iteT ⟨.ref r, rfl, ?_⟩
        exact q r H4 _ s04 hr' fun z => absurd z (by decide +kernel)
      | crt t =>
        rw [hc] at R
        obtain ⟨p', hr', _⟩ := R
        have nle : ¬ 2 * (if c - (Fs.length : Int) > 1 then c - Fs.length else 1) ≤ ((honL rs Fs).length : Int) := fun h => by
          obtain ⟨a, b, z⟩ := V1.mpr h
          rw [hc] at z
          cases z
        have ew : tword c xs.length Fs.length = "tolerated" := by
          unfold tword
          rw [if_neg dep, if_neg (by omega)]
        rw [ew] at q
        refine ⟨.ref r, rfl, r, _, 0, .str "intersecting", rfl, rfl, SqT.of hr', atI_nat (j := 0) rfl, rfl, _, rfl, ?_⟩
        refine iteF ?_
        refine ⟨.ref r, rfl, r, _, 1, .ref p', rfl, rfl, SqT.of hr', atI_nat (j := 1) rfl, by show 2 ≤ sizeLine; decide, fun t' nt => ?_⟩
        exact q t' _ _ (s04.trans (same_new nt)) upd_same fun z => absurd z (by decide +kernel)
/-! tolerates -/
abbrev sTls : Stmt := top 42
theorem scTls : FnScope pHn pHn (defScope sTls) := ⟨rfl, rfl, rfl, by decide +kernel, rfl, by decide +kernel, by decide +kernel⟩
def spTls (K : PySem.W.Frag) (C : Addr) : Sp := fun vs H Q _ => ∃ (net D e : Addr) (c : Int) (xs : List Str) (rs : Rws) (Fs : List Str), vs = [.ref net, .ref e] ∧ NetAt C H net D c xs rs ∧ NodesAt K H e Fs ∧ Fl xs Fs ∧
  ∀ H', Same H H' → Q (.bl (decide (tword c xs.length Fs.length = "tolerated"))) H'
theorem ok_tls {f f1 C : Addr} {fd fd1 : FuncData} {k : Nat} (F : Fun K "tolerates" "tolerates" sTls f fd) (T : Bq mg)
    (F1 : Fun K "tolerance" "tolerance" sTol f1 fd1) (b1 : Binds K fd1 pHn []) (g1 : mg "tolerance" = some (.ref f1)) (G1 : FnOk P w K mg base CX0 k f1 fd1 pHn (spTol K C)) : FnOk P w K mg base CX0 (k + 1) f fd pHn (spTls K C) := by
  refine F.ok scTls (fun vs H Q E h => ?_) (fun cdv A outer s H vs Q E hr h => ?_)
  · obtain ⟨net, D, e, c, xs, rs, Fs, rfl, _⟩ := h
    rfl
  · obtain ⟨net, D, e, c, xs, rs, Fs, rfl, N, he, fl, q⟩ := h
    refine ⟨_, pss_one (ps_ret (pe_cmpR op_eq (pe_ix ix_tup (pe_call G1 hr (by rfl) g1 F1.kp b1 .nil pass0 (pa_cons (pv 0) (pa_cons (pv 1) pa_nil))) pe_int (fun _ _ => rfl)) pe_str (nomark _))), ?_⟩
    refine ⟨.ref net, rfl, .ref e, rfl, net, D, e, c, xs, rs, Fs, rfl, N, he, fl, fun p H1 us s1 hp _ => ?_⟩
    refine ⟨p, _, 0, .str (tword c xs.length Fs.length), rfl, rfl, SqT.of hp, atI_nat (j := 0) rfl, rfl, ?_⟩
    have ed : decide (V.str (tword c xs.length Fs.length) = V.str "tolerated") = decide (tword c xs.length Fs.length = "tolerated") := decide_eq_decide.mpr ⟨fun z => V.str.inj z, fun z => by rw [z]⟩
    rw [ed]
    exact q H1 s1
end
end Moot
/-! sorted(xs, key=f), f an own def that gives (len(x), x) of a tuple of texts. -/
namespace Moot
open PySem PySem.Spec PyProof.Rows L2 PySem.W
/-- a set of names: where it stands, and its names -/
abbrev Nset := Addr × List Str
def ordD (p : Nset) : PyData := .tuple [.int p.2.length, .tuple (p.2.map PyData.str)]
/-- by size, then as tuples -/
def ordLe : Nset → Nset → Bool := dataLe false ordD
def spOrd : Sp := fun vs H Q _ => ∃ (t : Addr) (ns : List Str), vs = [.ref t] ∧ H t = some (.tup (ns.map V.str)) ∧ ∀ p H', Same H H' → H p = none → H' p = some (.tup [.int ns.length, .ref t]) → Q (.ref p) H'
theorem ord_alike (p q : Nset) : alike (ordD p) (ordD q) = true := by
  have key : ∀ a b : List Str, alikeAll (a.map PyData.str) (b.map PyData.str) = true := by
    intro a
    induction a with
    | nil => intro b; rfl
    | cons x a ih =>
      intro b
      cases b with
      | nil => rfl
      | cons y b =>
        show (true && alikeAll (a.map PyData.str) (b.map PyData.str)) = true
        rw [ih b]
        rfl
  show (true && (alikeAll (p.2.map PyData.str) (q.2.map PyData.str) && true)) = true
  rw [key]
  rfl
theorem depth_str0 : ∀ ns : List Str, PyData.depthAll (ns.map PyData.str) = 0
  | [] => rfl
  | x :: ns => by
    show max 0 (PyData.depthAll (ns.map PyData.str)) = 0
    rw [depth_str0 ns]
    rfl
theorem ord_depth (p : Nset) : (ordD p).depth = 2 := by
  show max 0 (max (PyData.depthAll (p.2.map PyData.str) + 1) 0) + 1 = 2
  rw [depth_str0]
  rfl
theorem dp_txts {K : PySem.W.Frag} {H : Hp} : ∀ ns : List Str, DpAll K H (ns.map V.str) (ns.map PyData.str)
  | [] => .nil
  | x :: ns => .cons (.str x) (dp_txts ns)
theorem vals_refs : ∀ {ps : List Nset} {us : List Value}, Vals (ps.map fun p => V.ref p.1) us → us = ps.map fun p => Value.ref p.1
  | [], _, .nil => rfl
  | p :: ps, _ :: us, .cons r t => by
    cases r
    rw [vals_refs t]
    rfl
theorem refs_vals : ∀ ps : List Nset, Vals (ps.map fun p => V.ref p.1) (ps.map fun p => Value.ref p.1)
  | [] => .nil
  | p :: ps => .cons rfl (refs_vals ps)
/-- the result is the items by the order of their keys -/
def rSortBy (K : PySem.W.Frag) (f : Addr) : List V → List V → Hp → VK → Prop := fun vs zs H Q =>
  ∃ (l : Addr) (ps : List Nset), vs = [.ref l] ∧ zs = [.ref f] ∧ SqL K H l (ps.map fun p => V.ref p.1) ∧ (∀ p ∈ ps, H p.1 = some (.tup (p.2.map V.str))) ∧ ps.length ≤ 1000 ∧
    ∀ q H', Same H H' → H q = none → H' q = some (.lst ((ps.mergeSort ordLe).map fun p => V.ref p.1)) → Q (.ref q) H'
/-- the same, the key a function of the kind F in a state of the kind st -/
def rSortV (K : PySem.W.Frag) (F : Addr → Prop) (st : Addr → Hp → Prop) : List V → List V → Hp → VK → Prop := fun vs zs H Q =>
  ∃ (f l : Addr) (ps : List Nset), F f ∧ st f H ∧ vs = [.ref l] ∧ zs = [.ref f] ∧ SqL K H l (ps.map fun p => V.ref p.1) ∧ (∀ p ∈ ps, H p.1 = some (.tup (p.2.map V.str))) ∧ ps.length ≤ 1000 ∧
    ∀ q H', Same H H' → H q = none → H' q = some (.lst ((ps.mergeSort ordLe).map fun p => V.ref p.1)) → Q (.ref q) H'
/-- a heap without one of its objects -/
def without (h : Heap) (a : Addr) : Heap := h.update a fun o => { o with data := .freed }
theorem without_at (h : Heap) (a : Addr) : (without h a).get? a = none := by
  unfold without
  rcases h with ⟨objs, l⟩
  show (match (objs.modify a fun o => { o with data := .freed })[a]? with | some ⟨_, _, .freed, _⟩ => none | o => o) = none
  rw [Array.getElem?_modify, if_pos rfl]
  cases objs[a]? <;> rfl
theorem without_ne {h : Heap} {a b : Addr} {o : Obj} (ne : b ≠ a) (e : (without h a).get? b = some o) : h.get? b = some o := by
  rw [← e]
  exact (Heap.get?_update_other _ _ ne.symm).symm
/-- a call of f gives the key, wherever st holds -/
structure KeyOk (P : Program) (w : World) (K : PySem.W.Frag) (mg : Str → Option Value) (base : Heap) (k : Nat) (f : Addr) (st : Hp → Prop) : Prop where
  run : ∀ (A : Around) (outer : List Env) (s : Shared) (H : Hp) (t : Addr) (ns : List Str) (Q : VK), Room k A → Env0 P w K mg base A outer s H → st H → H t = some (.tup (ns.map V.str)) → (∀ p H', Same H H' → H p = none → H' p = some (.tup [.int ns.length, .ref t]) → Q (.ref p) H') →
    codeAny (model P w) A (.call (.ref f) ⟨[.ref t], []⟩) (CR CX0 outer P w H s Q E0) s
  stay : ∀ H H' : Hp, st H → Same H H' → st H'
theorem KeyOk.of {P : Program} {w : World} {K : PySem.W.Frag} {mg : Str → Option Value} {base : Heap} {k : Nat} {f : Addr} {fd : FuncData} (G : FnOk P w K mg base CX0 k f fd ["nodes"] spOrd) (bd : Binds K fd ["nodes"] []) : KeyOk P w K mg base k f fun _ => True :=
  ⟨fun A outer s H t ns Q hr e0 _ ht q => G.run A outer s H ⟨[.ref t], []⟩ [.ref t] [.ref t] Q E0 hr e0 (bd s [.ref t] (e0.mod.kin.keeps fun b o e => (e0.bs b o e).1) rfl) (.cons rfl .nil) ⟨t, ns, rfl, ht, q⟩, fun _ _ _ _ => trivial⟩
section
variable {X : Cx}
theorem fp_on {pins : List (Addr × Obj)} {H H' : Hp} {b : Addr} (f : FpOk X pins H b) (h : H' b = none) : FpOk X pins H' b := ⟨h, f.2⟩
/-- the keys are asked, one by one, and the items laid by them -/
theorem sort_rest {f : Addr} {st : Hp → Prop} {k : Nat} (G : KeyOk X.prog X.w X.K X.mg X.base k f st) (hr : Room (k + 2) X.A)
    {pins : List (Addr × Obj)} {σ : L2.St} {H : Hp} {s : Shared} {a kS : Addr} {e1 : Nat} {ps : List Nset} {R : PySem.Fin → Shared → Prop} {E : Value → Shared → Prop} (J : Inv X pins σ H s) (fa : FpOk X pins H a) (fk : FpOk X pins H kS) (ne : kS ≠ a)
    (nk : s.heap.get? kS = some (seqObj "list" #[] 0)) (na : s.heap.get? a = some (seqObj "list" #[] e1)) (tups : ∀ p ∈ ps, H p.1 = some (.tup (p.2.map V.str))) (few : ps.length ≤ 1000) (hst : st H)
    (fin : ∀ s' H', Inv X pins σ H' s' → Same H H' → H' a = some (.lst ((ps.mergeSort ordLe).map fun p => V.ref p.1)) → R (.done (.ret .none)) s') :
    wpAny (model X.prog X.w) X.A.in1.in1 (ksk_rest a (.ref f) false (ps.map fun p => Value.ref p.1).toArray e1 (.ref kS)) R E s := by
  have plen : (ps.map fun p => Value.ref p.1).length = ps.length := List.length_map _
  have small : ps.length ≤ sizeLine := Nat.le_of_lt (small1000 few)
  have room : Room k X.A.in1.in1 := hr.in1.in1
  unfold ksk_rest
  apply wpAny_bind
  apply wpAny_rule
  rw [List.forIn_toArray]
  apply wpAny_bind
  refine ksk_fold (fun i s' => ∃ (H' : Hp) (kA : Array Value) (e : Nat) (ts : List Addr), Inv X pins σ H' s' ∧ Same H H' ∧ H' a = none ∧ H' kS = none ∧ s'.heap.get? kS = some (seqObj "list" kA e) ∧ s'.heap.get? a = some (seqObj "list" #[] e1) ∧
    kA.toList = ts.map Value.ref ∧ ts.length = i ∧ ∀ (j : Nat) t p, ts[j]? = some t → ps[j]? = some p → H' t = some (.tup [.int p.2.length, .ref p.1])) _ 0 s ⟨H, #[], 0, [], J, Same.refl H, fa.1, fk.1, nk, na, rfl, rfl, fun j t p e => by simp at e⟩ ?_ ?_
  · rintro j x s' hx ⟨H', kA, e, ts, J', same, Ha, Hk, nk', na', ek, el, keys⟩
    rw [Nat.zero_add] at el ⊢
    rw [List.getElem?_map] at hx
    obtain ⟨p, hp, rfl⟩ := Option.map_eq_some_iff.mp hx
    have jlt : j < ps.length := (List.getElem?_eq_some_iff.mp hp).1
    have tp := same _ _ (tups p (List.mem_of_getElem? hp))
    have PJ := J'.pinned (fp := [kS, a]) (fun b hb => by
      rcases List.mem_cons.mp hb with c | c
      · rw [c]; exact fp_on fk Hk
      · rw [List.mem_singleton.mp c]; exact fp_on fa Ha) (fun b hb => by
      rcases List.mem_cons.mp hb with c | c
      · rw [c]; exact ⟨_, nk', fun v z => by cases z⟩
      · rw [List.mem_singleton.mp c]; exact ⟨_, na', fun v z => by cases z⟩)
    have ksz : kA.size = j := by
      have := congrArg List.length ek
      rw [Array.length_toList, List.length_map] at this
      omega
    apply wpAny_bind
    apply wpAny_attempt
    generalize hKQ : (fun (v : V) (H'' : Hp) => ∃ t, v = .ref t ∧ Same H' H'' ∧ H'' t = some (.tup [.int p.2.length, .ref p.1])) = KQ
    refine wpAny_mono (Q := fun u s'' => EP X (pins ++ pinsAt [kS, a] s'.heap) σ KQ u s'') (E := fun _ _ => False) ?_ (fun u s'' hE => ?_) fun _ _ z => z.elim
    · refine wpAny_call (codeAny_mono (G.run X.A.in1.in1 X.stack s' H' p.1 p.2 KQ room PJ.env0.in1.in1 (G.stay _ _ hst same) tp fun t H'' s2 nt ht => by rw [← hKQ]; exact ⟨t, rfl, s2, ht⟩) fun r s2 hq => ?_)
      cases r with
      | error e => exact hq.elim
      | ok fl =>
        cases fl with
        | ret u => exact PJ.after hq
        | next => exact hq.elim
        | brk => exact hq.elim
        | cont => exact hq.elim
    · obtain ⟨v, H'', J'', rv, hv⟩ := hE
      rw [← hKQ] at hv
      obtain ⟨t, rfl, s2, ht⟩ := hv
      cases rv
      have pk := J''.pin (kS, seqObj "list" kA e) (List.mem_append_right _ (List.mem_append_right _ (mem_pinsAt List.mem_cons_self nk')))
      have pa := J''.pin (a, seqObj "list" #[] e1) (List.mem_append_right _ (List.mem_append_right _ (mem_pinsAt (List.mem_cons_of_mem _ List.mem_cons_self) na')))
      have up := Heap.SameBut.update s''.heap kS (Obj.mapSeq (·.push (Value.ref t)))
      apply wpAny_bind
      refine listUpdate_at pk.1 rfl ?_ (by rw [ksz]; omega) (by rw [Array.size_push, ksz]; omega)
      refine wpAny_pure ⟨rfl, H'', kA.push (.ref t), _, ts ++ [t], Inv.turnedL (s := s'') (t' := s''.toks) (ch := [kS]) J''.unpinned (fun b o nb eb => (up.2 b fun c => nb (by rw [c]; exact List.mem_cons_self)).trans eb) (fun b hb => ?_), same.trans s2, pa.2.1, pk.2.1, get?_update_seq pk.1 _, (up.2 a ne.symm).trans pa.1, ?_, ?_, ?_⟩
      · rw [List.mem_singleton.mp hb]
        exact fp_on fk pk.2.1
      · rw [Array.toList_push, ek, List.map_append]
        rfl
      · rw [List.length_append, el]
        rfl
      · intro i t' p' h1 h2
        by_cases c : i < ts.length
        · rw [List.getElem?_append_left c] at h1
          exact s2 _ _ (keys i t' p' h1 h2)
        · have il : i = j := by
            have := (List.getElem?_eq_some_iff.mp h1).1
            rw [List.length_append, List.length_singleton] at this
            omega
          rw [il] at h1 h2
          rw [List.getElem?_append_right (by omega), el, Nat.sub_self] at h1
          cases Option.some.inj h1
          cases Option.some.inj (hp.symm.trans h2)
          exact ht
  · rintro s' ⟨H', kA, e, ts, J', same, Ha, Hk, nk', na', ek, el, keys⟩
    rw [Nat.zero_add, plen] at el
    have ksz : kA.size = ps.length := by
      have := congrArg List.length ek
      rw [Array.length_toList, List.length_map] at this
      omega
    have each : EachIs (fun v d => ∃ as, Reads s'.heap v d as) kA.toList (ps.map ordD) := by
      rw [ek]
      have go : ∀ (ts : List Addr) (ps : List Nset), ts.length = ps.length → (∀ (j : Nat) t p, ts[j]? = some t → ps[j]? = some p → H' t = some (.tup [.int p.2.length, .ref p.1])) → (∀ p ∈ ps, H p.1 = some (.tup (p.2.map V.str))) →
          EachIs (fun v d => ∃ as, Reads s'.heap v d as) (ts.map Value.ref) (ps.map ordD) := by
        intro ts
        induction ts with
        | nil =>
          intro ps hl _ _
          cases ps with
          | nil => exact .nil
          | cons _ _ => simp at hl
        | cons t ts ih =>
          intro ps hl hk ht
          cases ps with
          | nil => simp at hl
          | cons p ps =>
            refine .cons ?_ (ih ps (by simpa using hl) (fun j t' p' h1 h2 => hk (j + 1) t' p' h1 h2) fun p' m => ht p' (List.mem_cons_of_mem _ m))
            refine Dp.reads J' (ordD p) (.ref t) (.ref t) (.tup (SqT.of (hk 0 t p rfl rfl)) (.cons (.int _) (.cons (.tup (SqT.of (same _ _ (ht p List.mem_cons_self))) (dp_txts p.2)) .nil))) rfl
      exact go ts ps el keys tups
    have all : AllAlike (ps.map ordD) := AllAlike.of ord_alike
    have can : Sortable (ps.map ordD) := Sortable.tuples fun p => ⟨_, _, rfl⟩
    have units : ∀ d, d ∈ ps.map ordD → X.A.in1.in1.units + d.depth < cLine := fun d md => by
      obtain ⟨p, _, rfl⟩ := List.mem_map.mp md
      rw [ord_depth]
      have := room.un
      omega
    apply wpAny_bind
    apply listItems_at nk' rfl
    refine keyH_end (κ := dataKind s'.heap (ps.map ordD)) (h₁ := without s'.heap kS) (fun b o nb eb => ?_) (without_at _ _) nk' na' ne (SortsAt.data each all can units) (by rw [plen]; exact ksz) (by rw [plen]; exact small) fun h' tk c kp at' => ?_
    · by_cases c : b = kS
      · rw [c, without_at] at eb
        cases eb
      · exact without_ne c eb
    · have out := keyedOut_each (rev := false) (R := fun v p => v = Value.ref p.1) (bs := ps) (vs := ps.map fun p => Value.ref p.1) ordD ⟨s'.heap, kA.toList, all, rfl, each⟩ (by
        have go : ∀ ps : List Nset, EachIs (fun v p => v = Value.ref p.1) (ps.map fun p => Value.ref p.1) ps := by
          intro ps
          induction ps with
          | nil => exact .nil
          | cons p ps ih => exact .cons rfl ih
        exact go ps)
      have eo : ∀ {vs : List Value} {qs : List Nset}, EachIs (fun v p => v = Value.ref p.1) vs qs → vs = qs.map fun p => Value.ref p.1 := by
        intro vs qs h
        induction h with
        | nil => rfl
        | cons a _ ih => rw [a, ih]; rfl
      rw [eo out] at at'
      have klen : (ps.mergeSort ordLe).length = ps.length := (List.mergeSort_perm ps _).length_eq
      have kept : ∀ b o, b ≠ a → b ≠ kS → s'.heap.get? b = some o → h'.get? b = some o := fun b o n1 n2 eb => kp b o n1 ((Heap.get?_update_other _ _ n2.symm).trans eb)
      have nn : ∀ {b o}, H' b = some o → b ≠ a ∧ b ≠ kS := fun {b o} eb => ⟨fun c => (by rw [c, Ha] at eb; cases eb), fun c => (by rw [c, Hk] at eb; cases eb)⟩
      have upn : ∀ {b o}, H' b = some o → (upd H' a (.lst ((ps.mergeSort ordLe).map fun p => V.ref p.1))) b = some o := fun {b o} eb => by
        rw [upd_ne (nn eb).1]
        exact eb
      have out2 : ∀ {b}, b ∉ [a, kS] → b ≠ a ∧ b ≠ kS := fun {b} nb => ⟨fun c => nb (by rw [c]; exact List.mem_cons_self), fun c => nb (by rw [c]; exact List.mem_cons_of_mem _ List.mem_cons_self)⟩
      have un : Un (frs X.stack) [a, kS] H' (upd H' a (.lst ((ps.mergeSort ordLe).map fun p => V.ref p.1))) s'.heap h' :=
        ⟨fun b o eb _ _ nx => kept b o (out2 nx).1 (out2 nx).2 eb, fun b o eb _ _ nx => ⟨o.slots, kept b o (out2 nx).1 (out2 nx).2 eb⟩, fun b o _ n nx => by rw [upd_ne (out2 nx).1]; exact n, fun b o eb nx => ⟨o, kept b o (out2 nx).1 (out2 nx).2 eb⟩,
          fun b xs eb => upn eb, fun b o u eb => upn eb, fun b qs eb => ⟨#[], by rw [upn eb]; simp⟩⟩
      have hok : HOk X.prog X.w (upd H' a (.lst ((ps.mergeSort ordLe).map fun p => V.ref p.1))) h' := fun b u eb => by
        by_cases c : b = a
        · rw [c, upd_same] at eb
          cases Option.some.inj eb
          rw [c]
          exact ⟨by rw [List.length_map, klen]; exact small, _, _, refs_vals _, at'⟩
        · rw [upd_ne c] at eb
          refine (J'.hok b u eb).stay (fun d v hd q => ?_) (fun d q => upn q) fun d xs q => upn q
          rcases hd with rfl | hd
          · exact kept _ v (nn eb).1 (nn eb).2 q
          · exact kept d v (nn hd).1 (nn hd).2 q
      have JJ := J'.call (g' := s'.gens) (t' := tk) (d' := s'.drawn) un hok J'.bare fun b hb => by
        rcases List.mem_cons.mp hb with c | c
        · rw [c]
          exact ⟨fa.2.2.2.1, fa.2.1, fa.2.2.2.2.1, fa.2.2.2.2.2⟩
        · rw [List.mem_singleton.mp c]
          exact ⟨fk.2.2.2.1, fk.2.1, fk.2.2.2.2.1, fk.2.2.2.2.2⟩
      exact fin _ _ JJ (fun b o eb => upn (same b o eb)) upd_same
theorem cr_sortV {k : Nat} {F : Addr → Prop} {st : Addr → Hp → Prop} (G : ∀ f, F f → KeyOk X.prog X.w X.K X.mg X.base k f (st f)) (hr : Room (k + 2) X.A) : CallRK X (.builtin "sorted") [Str.ofString "key"] (rSortV X.K F st) := by
  intro pins s σ H xs zs us ws Q I r rz h
  obtain ⟨f, l, ps, hF, hst, rfl, rfl, hs, tups, few, q⟩ := h
  obtain ⟨its, rv, hl, hz⟩ := I.list hs
  have eits := vals_refs rv
  subst eits
  rw [Vals.ref1 r, Vals.ref1 rz]
  show wpAny _ _ (call (.builtin "sorted") [.ref l] [(Str.ofString "key", .ref f)]) _ _ _
  have plen : (ps.map fun p => Value.ref p.1).length = ps.length := List.length_map _
  have small : ps.length ≤ sizeLine := Nat.le_of_lt (small1000 few)
  refine sorted_of_sort hl.isList (by rw [plen]; exact small) (ksk_s1 _ _) (fun _ => ksk_l1 _ _) fun E' => ?_
  rw [ksk_t1]
  generalize ea : s.heap.objs.size + 1 = a
  have na : s.heap.objs.size ≤ a := by rw [← ea]; exact Nat.le_succ _
  have Ha : H a = none := I.hok.fresh na
  have fa : FpOk X pins H a := I.fpOk na Ha
  have ha : (copyHeap s.heap (ps.map fun p => Value.ref p.1)).get? a = some (seqObj "list" (ps.map fun p => Value.ref p.1).toArray 0) := by rw [← ea]; exact copyHeap_at _ _
  have I0 : Inv X pins σ H { s with heap := copyHeap s.heap (ps.map fun p => Value.ref p.1) } := I.kept (t' := s.toks) fun b u e => copyHeap_old e
  generalize copyHeap s.heap (ps.map fun p => Value.ref p.1) = h0 at ha I0 ⊢
  unfold ksk_tree
  apply wpAny_bind
  apply listItems_at ha rfl
  apply wpAny_bind
  refine listUpdate_at ha rfl ?_ (by rw [List.size_toArray, plen]; exact small) (Nat.zero_le _)
  obtain ⟨e1, ha1⟩ : ∃ e1, (h0.update a (Obj.mapSeq fun _ => (#[] : Array Value))).get? a = some (seqObj "list" #[] e1) := ⟨_, get?_update_seq ha fun _ => #[]⟩
  have I1 : Inv X pins σ H { s with heap := h0.update a (Obj.mapSeq fun _ => (#[] : Array Value)) } := Inv.turnedL (s := { s with heap := h0 }) (t' := s.toks) (ch := [a]) I0 (fun b o nb e => (Heap.get?_update_other _ _ fun c => nb (by rw [c]; exact List.mem_cons_self)).trans e) fun b hb => by
    rw [List.mem_singleton.mp hb]
    exact fa
  generalize h0.update a (Obj.mapSeq fun _ => (#[] : Array Value)) = h1 at ha1 I1 ⊢
  apply wpAny_bind
  apply seqEpoch_at ha1 rfl
  apply wpAny_bind
  refine wpAny_newTuple ?_ (by rw [List.toList_toArray, plen]; exact small)
  apply wpAny_bind
  refine wpAny_newList ?_ (Nat.zero_le _)
  apply wpAny_holding
  rw [List.toList_toArray]
  have I2 : Inv X pins σ H { s with heap := (h1.push (seqObj "tuple" (ps.map fun p => Value.ref p.1).toArray 0)).push (seqObj "list" #[] 0) } := Inv.kept (s := { s with heap := h1 }) (t' := s.toks) I1 fun b u e => Heap.get?_push_of_some _ (Heap.get?_push_of_some _ e)
  have big : h1.objs.size ≤ (h1.push (seqObj "tuple" (ps.map fun p => Value.ref p.1).toArray 0)).objs.size := by
    rw [size_push']
    exact Nat.le_succ _
  have fk : FpOk X pins H (h1.push (seqObj "tuple" (ps.map fun p => Value.ref p.1).toArray 0)).objs.size := I1.fpOk big (I1.hok.fresh big)
  refine sort_rest (G f hF) hr (s := { s with heap := (h1.push (seqObj "tuple" (ps.map fun p => Value.ref p.1).toArray 0)).push (seqObj "list" #[] 0) }) I2 fa fk (Nat.ne_of_gt (Nat.lt_of_lt_of_le (Heap.lt_size ha1) big)) (Heap.get?_push_size _ rfl) (Heap.get?_push_of_some _ (Heap.get?_push_of_some _ ha1)) tups few hst fun s' H' J' same at' => ⟨rfl, .ref a, H', J', rfl, q a H' same Ha at'⟩
theorem cr_sortBy {f : Addr} {fd : FuncData} {k : Nat} (G : FnOk X.prog X.w X.K X.mg X.base CX0 k f fd ["nodes"] spOrd) (hr : Room (k + 2) X.A) (bd : Binds X.K fd ["nodes"] []) : CallRK X (.builtin "sorted") [Str.ofString "key"] (rSortBy X.K f) := by
  intro pins s σ H xs zs us ws Q I r rz h
  obtain ⟨l, ps, e1, e2, hs, tups, few, q⟩ := h
  exact cr_sortV (F := fun g => g = f) (st := fun _ _ => True) (fun g e => by rw [e]; exact .of G bd) hr pins s σ H xs zs us ws Q I r rz ⟨f, l, ps, rfl, trivial, e1, e2, hs, tups, few, q⟩
end
end Moot
namespace Moot
open PySem PySem.Spec PyProof.Rows L2
/-! all sets of names, and the minimal ones -/
def subStep (acc : List (List Str)) (x : Str) : List (List Str) := acc ++ acc.map (· ++ [x])
def subs (ns : List Str) : List (List Str) := ns.foldl subStep [[]]
theorem subs_snoc (ns : List Str) (x : Str) : subs (ns ++ [x]) = subStep (subs ns) x := by
  unfold subs
  rw [List.foldl_append]
  rfl
theorem subs_take {ns : List Str} {i : Nat} {x : Str} (h : ns[i]? = some x) : subs (ns.take (i + 1)) = subStep (subs (ns.take i)) x := by
  rw [List.take_add_one, h]
  exact subs_snoc _ _
theorem subs_len (ns : List Str) : (subs ns).length = 2 ^ ns.length := by
  have : ∀ n, ∀ ns : List Str, ns.length = n → (subs ns).length = 2 ^ n := by
    intro n
    induction n with
    | zero =>
      intro ns e
      rw [List.eq_nil_of_length_eq_zero e]
      rfl
    | succ n ih =>
      intro ns e
      have ne : ns ≠ [] := fun z => by rw [z] at e; cases e
      obtain ⟨a, x, rfl⟩ : ∃ a x, ns = a ++ [x] := ⟨_, _, (List.dropLast_concat_getLast ne).symm⟩
      rw [List.length_append, List.length_singleton] at e
      rw [subs_snoc, subStep, List.length_append, List.length_map, ih a (by omega), Nat.pow_succ]
      omega
  exact this _ ns rfl
theorem subs_filter (p : Str → Bool) (ns : List Str) : ns.filter p ∈ subs ns := by
  have : ∀ n, ∀ ns : List Str, ns.length = n → ns.filter p ∈ subs ns := by
    intro n
    induction n with
    | zero =>
      intro ns e
      rw [List.eq_nil_of_length_eq_zero e]
      exact List.mem_cons_self
    | succ n ih =>
      intro ns e
      have ne : ns ≠ [] := fun z => by rw [z] at e; cases e
      obtain ⟨a, x, rfl⟩ : ∃ a x, ns = a ++ [x] := ⟨_, _, (List.dropLast_concat_getLast ne).symm⟩
      rw [List.length_append, List.length_singleton] at e
      have k := ih a (by omega)
      rw [subs_snoc, List.filter_append]
      cases hx : p x with
      | true =>
        rw [List.filter_cons_of_pos hx]
        exact List.mem_append_right _ (List.mem_map.mpr ⟨_, k, rfl⟩)
      | false =>
        rw [List.filter_cons_of_neg (by rw [hx]; exact Bool.false_ne_true)]
        show _ ++ [] ∈ _
        rw [List.append_nil]
        exact List.mem_append_left _ k
  exact this _ ns rfl
theorem subs_in {ns s : List Str} (h : s ∈ subs ns) : ∀ x ∈ s, x ∈ ns := by
  have : ∀ n, ∀ ns : List Str, ns.length = n → ∀ s ∈ subs ns, ∀ x ∈ s, x ∈ ns := by
    intro n
    induction n with
    | zero =>
      intro ns e s hs x hx
      rw [List.eq_nil_of_length_eq_zero e] at hs
      rw [List.mem_singleton.mp hs] at hx
      simp at hx
    | succ n ih =>
      intro ns e s hs x hx
      have ne : ns ≠ [] := fun z => by rw [z] at e; cases e
      obtain ⟨a, y, rfl⟩ : ∃ a y, ns = a ++ [y] := ⟨_, _, (List.dropLast_concat_getLast ne).symm⟩
      rw [List.length_append, List.length_singleton] at e
      rw [subs_snoc] at hs
      rcases List.mem_append.mp hs with hs | hs
      · exact List.mem_append_left _ (ih a (by omega) s hs x hx)
      · obtain ⟨t, ht, rfl⟩ := List.mem_map.mp hs
        rcases List.mem_append.mp hx with hx | hx
        · exact List.mem_append_left _ (ih a (by omega) t ht x hx)
        · exact List.mem_append_right _ hx
  exact this _ ns rfl s h
def minStep (kept : List (List Str)) (s : List Str) : List (List Str) := if (kept.any fun m => m.all fun x => decide (x ∈ s)) = true then kept else kept ++ [s]
def mins (l : List (List Str)) : List (List Str) := l.foldl minStep []
theorem mins_take {l : List (List Str)} {i : Nat} {s : List Str} (h : l[i]? = some s) : mins (l.take (i + 1)) = minStep (mins (l.take i)) s := by
  rw [List.take_add_one, h]
  unfold mins
  show List.foldl minStep [] (l.take i ++ [s]) = _
  rw [List.foldl_append]
  rfl
theorem mins_mem : ∀ {l : List (List Str)} {kept : List (List Str)} {m : List Str}, m ∈ l.foldl minStep kept → m ∈ kept ∨ m ∈ l
  | [], _, _, h => .inl h
  | s :: l, kept, m, h => by
    rcases mins_mem (l := l) h with k | k
    · unfold minStep at k
      split at k
      · exact .inl k
      · rcases List.mem_append.mp k with k | k
        · exact .inl k
        · exact .inr (by rw [List.mem_singleton.mp k]; exact List.mem_cons_self)
    · exact .inr (List.mem_cons_of_mem _ k)
theorem mins_keep : ∀ {l : List (List Str)} {kept : List (List Str)} {m : List Str}, m ∈ kept → m ∈ l.foldl minStep kept
  | [], _, _, h => h
  | s :: l, kept, m, h => mins_keep (l := l) (by
    unfold minStep
    split
    · exact h
    · exact List.mem_append_left _ h)
theorem mins_below : ∀ {l : List (List Str)} {kept : List (List Str)} {s : List Str}, s ∈ l → ∃ m ∈ l.foldl minStep kept, ∀ x ∈ m, x ∈ s
  | t :: l, kept, s, h => by
    rcases List.mem_cons.mp h with e | h
    · subst e
      by_cases c : (kept.any fun m => m.all fun x => decide (x ∈ s)) = true
      · obtain ⟨m, hm, k⟩ := List.any_eq_true.mp c
        refine ⟨m, mins_keep (l := s :: l) hm, fun x mx => of_decide_eq_true (List.all_eq_true.mp k x mx)⟩
      · refine ⟨s, mins_keep (l := l) ?_, fun x mx => mx⟩
        unfold minStep
        rw [if_neg c]
        exact List.mem_append_right _ List.mem_cons_self
    · exact mins_below (l := l) h
theorem mins_len : ∀ (l kept : List (List Str)), (l.foldl minStep kept).length ≤ kept.length + l.length
  | [], _ => Nat.le_refl _
  | s :: l, kept => by
    have h := mins_len l (minStep kept s)
    have k : (minStep kept s).length ≤ kept.length + 1 := by
      unfold minStep
      split
      · omega
      · rw [List.length_append]
        exact Nat.le_refl _
    show (l.foldl minStep (minStep kept s)).length ≤ kept.length + (l.length + 1)
    omega
/-- in the program's order -/
def keyD (ns : List Str) : PyData := .tuple [.int ns.length, .tuple (ns.map PyData.str)]
def srt (l : List (List Str)) : List (List Str) := l.mergeSort (PySem.W.dataLe false keyD)
theorem srt_mem {l : List (List Str)} {s : List Str} : s ∈ srt l ↔ s ∈ l := (List.mergeSort_perm l _).mem_iff
theorem srt_len (l : List (List Str)) : (srt l).length = l.length := (List.mergeSort_perm l _).length_eq
theorem srt_map (ps : List Nset) : (ps.mergeSort ordLe).map (·.2) = srt (ps.map (·.2)) := List.map_mergeSort fun a _ b _ => rfl
def holds (s : List Str) (sets : List (List Str)) : Bool := sets.any fun m => m.all fun x => decide (x ∈ s)
def met (s : List Str) (sets : List (List Str)) : Bool := sets.all fun m => m.any fun x => decide (x ∈ s)
/-! the minimal sets, found one by one -/
theorem toks_inj : ∀ {a b : List Str}, PySem.W.keyToksAll (a.map PyData.str) = PySem.W.keyToksAll (b.map PyData.str) → a = b
  | [], [], _ => rfl
  | [], y :: b, h => by
    exfalso
    have h' : [Sum.inl (0 : Int)] = Sum.inl 1 :: ([Sum.inr y.cps.toList] ++ PySem.W.keyToksAll (b.map PyData.str)) := h
    have e := (List.cons.inj h').1
    have := Sum.inl.inj e
    omega
  | x :: a, [], h => by
    exfalso
    have h' : Sum.inl (1 : Int) :: ([Sum.inr x.cps.toList] ++ PySem.W.keyToksAll (a.map PyData.str)) = [Sum.inl 0] := h
    have e := (List.cons.inj h').1
    have := Sum.inl.inj e
    omega
  | x :: a, y :: b, h => by
    have h' : Sum.inl (1 : Int) :: Sum.inr x.cps.toList :: PySem.W.keyToksAll (a.map PyData.str) = Sum.inl 1 :: Sum.inr y.cps.toList :: PySem.W.keyToksAll (b.map PyData.str) := h
    have e1 := (List.cons.inj (List.cons.inj h').2).1
    have e2 := (List.cons.inj (List.cons.inj h').2).2
    rw [PySem.W.str_of_cps (Sum.inr.inj e1), toks_inj e2]
theorem key_inj {a b : List Str} (h : PySem.W.keyToks (keyD a) = PySem.W.keyToks (keyD b)) : a = b := by
  have h' : Sum.inl (1 : Int) :: Sum.inl (a.length : Int) :: Sum.inl 1 :: (PySem.W.keyToksAll (a.map PyData.str) ++ [Sum.inl 0]) = Sum.inl (1 : Int) :: Sum.inl (b.length : Int) :: Sum.inl 1 :: (PySem.W.keyToksAll (b.map PyData.str) ++ [Sum.inl 0]) := h
  have e := (List.cons.inj (List.cons.inj (List.cons.inj h').2).2).2
  exact toks_inj (List.append_cancel_right e)
abbrev kLe : List Str → List Str → Bool := PySem.W.dataLe false keyD
theorem kLe_anti {a b : List Str} (h1 : kLe a b = true) (h2 : kLe b a = true) : a = b := by
  have h1' : (!(listOrd itemOrd).blt (PySem.W.keyToks (keyD b)) (PySem.W.keyToks (keyD a))) = true := h1
  have h2' : (!(listOrd itemOrd).blt (PySem.W.keyToks (keyD a)) (PySem.W.keyToks (keyD b))) = true := h2
  rw [Bool.not_eq_true'] at h1' h2'
  exact key_inj ((listOrd itemOrd).total _ _ h2' h1')
theorem srt_pairs (l : List (List Str)) : (srt l).Pairwise fun a b => kLe a b = true := by
  have T := PySem.W.sortLe_total (listOrd itemOrd) false fun b : List Str => PySem.W.keyToks (keyD b)
  exact List.pairwise_mergeSort (le := kLe) (fun a b c h1 h2 => T.trans a b c h1 h2) (fun a b => Bool.or_eq_true_iff.mpr (T.total a b)) l
theorem kLe_len {a b : List Str} (h : kLe a b = true) : a.length ≤ b.length := by
  have h' : (!PyProof.Rows.lexLt itemOrd (PySem.W.keyToks (keyD b)) (PySem.W.keyToks (keyD a))) = true := h
  rw [Bool.not_eq_true'] at h'
  refine Nat.le_of_not_lt fun c => ?_
  have ne : (Sum.inl (b.length : Int) : Int ⊕ List Nat) ≠ Sum.inl (a.length : Int) := fun z => by
    have := Sum.inl.inj z
    omega
  have e : PyProof.Rows.lexLt itemOrd (PySem.W.keyToks (keyD b)) (PySem.W.keyToks (keyD a)) = PyProof.Rows.lexLt itemOrd [Sum.inl (b.length : Int)] [Sum.inl (a.length : Int)] :=
    (PySem.W.lex_pre [Sum.inl 1] _ _).trans (PySem.W.lex_atom ne _ _)
  rw [e] at h'
  have k : PyProof.Rows.lexLt itemOrd [Sum.inl (b.length : Int)] [Sum.inl (a.length : Int)] = true := by
    have l : itemLt (Sum.inl (b.length : Int)) (Sum.inl (a.length : Int)) = true := decide_eq_true (by omega)
    exact (PyProof.Rows.lex_diff ne).trans l
  rw [k] at h'
  cases h'
/-! sets of the names -/
theorem snoc_ind {P : List Str → Prop} (h0 : P []) (h1 : ∀ a x, P a → P (a ++ [x])) (l : List Str) : P l := by
  have : ∀ n, ∀ l : List Str, l.length = n → P l := by
    intro n
    induction n with
    | zero => intro l e; rw [List.eq_nil_of_length_eq_zero e]; exact h0
    | succ n ih =>
      intro l e
      have ne : l ≠ [] := fun z => by rw [z] at e; cases e
      obtain ⟨a, y, rfl⟩ : ∃ a y, l = a ++ [y] := ⟨_, _, (List.dropLast_concat_getLast ne).symm⟩
      rw [List.length_append, List.length_singleton] at e
      exact h1 a y (ih a (by omega))
  exact this _ l rfl
theorem subs_own {ns : List Str} : ns.Nodup → ∀ {s : List Str}, s ∈ subs ns → ns.filter (fun x => decide (x ∈ s)) = s := by
  refine snoc_ind (P := fun ns => ns.Nodup → ∀ {s : List Str}, s ∈ subs ns → ns.filter (fun x => decide (x ∈ s)) = s) ?_ ?_ ns
  · intro _ s h
    rw [List.mem_singleton.mp h]
    rfl
  · intro a x ih nd s h
    rw [List.nodup_append] at nd
    obtain ⟨nda, _, dis⟩ := nd
    have xa : x ∉ a := fun m => dis x m x List.mem_cons_self rfl
    rw [subs_snoc] at h
    rw [List.filter_append]
    rcases List.mem_append.mp h with h | h
    · have xs : x ∉ s := fun m => xa (subs_in h x m)
      rw [ih nda h, List.filter_cons_of_neg (by simpa using xs)]
      exact List.append_nil _
    · obtain ⟨t, ht, rfl⟩ := List.mem_map.mp h
      rw [List.filter_cons_of_pos (by simp)]
      have e : a.filter (fun y => decide (y ∈ t ++ [x])) = a.filter (fun y => decide (y ∈ t)) := List.filter_congr fun y my => by
        have : y ≠ x := fun z => xa (z ▸ my)
        simp [this]
      rw [e, ih nda ht]
      rfl
theorem subs_nodup {ns : List Str} : ns.Nodup → (subs ns).Nodup := by
  refine snoc_ind (P := fun ns => ns.Nodup → (subs ns).Nodup) ?_ ?_ ns
  · intro _
    exact List.pairwise_singleton _ _
  · intro a x ih nd
    rw [List.nodup_append] at nd
    obtain ⟨nda, _, dis⟩ := nd
    have xa : x ∉ a := fun m => dis x m x List.mem_cons_self rfl
    rw [subs_snoc, subStep, List.nodup_append]
    refine ⟨ih nda, ?_, fun s hs t ht e => ?_⟩
    · exact List.Pairwise.map _ (fun s t ne z => ne (List.append_cancel_right z)) (ih nda)
    · obtain ⟨u, _, rfl⟩ := List.mem_map.mp ht
      exact xa (subs_in hs x (e ▸ List.mem_append_right _ List.mem_cons_self))
theorem sub_nodup {ns s : List Str} (nd : ns.Nodup) (h : s ∈ subs ns) : s.Nodup := by
  rw [← subs_own nd h]
  exact nd.filter _
theorem sub_filter {ns s : List Str} (nd : ns.Nodup) (h : s ∈ subs ns) (p : Str → Bool) : s.filter p ∈ subs ns := by
  have e : s.filter p = ns.filter fun x => decide (x ∈ s) && p x := by
    conv => lhs; rw [← subs_own nd h]
    rw [List.filter_filter]
    exact List.filter_congr fun x _ => Bool.and_comm _ _
  rw [e]
  exact subs_filter _ ns
theorem sub_one {ns s t : List Str} (nd : ns.Nodup) (hs : s ∈ subs ns) (ht : t ∈ subs ns) (h : ∀ x, x ∈ s ↔ x ∈ t) : s = t := by
  rw [← subs_own nd hs, ← subs_own nd ht]
  exact List.filter_congr fun x _ => decide_eq_decide.mpr (h x)
/-! what is kept -/
theorem mins_sub : ∀ (l kept : List (List Str)), ∃ r, l.foldl minStep kept = kept ++ r ∧ r.Sublist l
  | [], kept => ⟨[], (List.append_nil _).symm, List.Sublist.refl _⟩
  | s :: l, kept => by
    obtain ⟨r, e, h⟩ := mins_sub l (minStep kept s)
    show ∃ r, l.foldl minStep (minStep kept s) = _ ∧ _
    rw [e]
    unfold minStep
    split
    · exact ⟨r, rfl, h.cons s⟩
    · exact ⟨s :: r, by rw [List.append_assoc]; rfl, h.cons_cons s⟩
theorem mins_apart : ∀ (l kept : List (List Str)), kept.Pairwise (fun a b => ¬ ∀ x ∈ a, x ∈ b) → (l.foldl minStep kept).Pairwise fun a b => ¬ ∀ x ∈ a, x ∈ b
  | [], _, h => h
  | s :: l, kept, h => mins_apart l (minStep kept s) (by
    unfold minStep
    split
    · exact h
    · rename_i c
      rw [List.pairwise_append]
      refine ⟨h, List.pairwise_singleton _ _, fun a ma b mb k => c (List.any_eq_true.mpr ⟨a, ma, List.all_eq_true.mpr fun x mx => ?_⟩)⟩
      rw [List.mem_singleton.mp mb] at k
      exact decide_eq_true (k x mx))
/-- without one name the set does it no more -/
def minimal (p : List Str → Bool) (s : List Str) : Bool := p s && !(s.map fun g => s.filter fun x => decide (x ≠ g)).any p
theorem minimal_iff {p : List Str → Bool} {s : List Str} : minimal p s = true ↔ p s = true ∧ ∀ g ∈ s, p (s.filter fun x => decide (x ≠ g)) = false := by
  unfold minimal
  rw [Bool.and_eq_true, Bool.not_eq_true', List.any_eq_false]
  constructor
  · rintro ⟨h, k⟩
    exact ⟨h, fun g mg => Bool.eq_false_iff.mpr (k _ (List.mem_map.mpr ⟨g, mg, rfl⟩))⟩
  · rintro ⟨h, k⟩
    refine ⟨h, fun t mt => ?_⟩
    obtain ⟨g, mg, rfl⟩ := List.mem_map.mp mt
    rw [k g mg]
    exact Bool.false_ne_true
theorem filter_lt {s : List Str} {g : Str} (h : g ∈ s) : (s.filter fun x => decide (x ≠ g)).length < s.length := by
  refine List.length_filter_lt_length_iff_exists.mpr ⟨g, h, ?_⟩
  simp
theorem kept_is {ns : List Str} (nd : ns.Nodup) {p : List Str → Bool} (mono : ∀ s ∈ subs ns, ∀ t ∈ subs ns, (∀ x ∈ s, x ∈ t) → p s = true → p t = true) : mins ((srt (subs ns)).filter p) = srt ((subs ns).filter (minimal p)) := by
  have ndS : (srt (subs ns)).Nodup := (List.mergeSort_perm (subs ns) _).nodup_iff.mpr (subs_nodup nd)
  obtain ⟨r, er, hr⟩ := mins_sub ((srt (subs ns)).filter p) []
  have sl : (mins ((srt (subs ns)).filter p)).Sublist (srt (subs ns)) := by
    unfold mins
    rw [er, List.nil_append]
    exact hr.trans List.filter_sublist
  have pw : (mins ((srt (subs ns)).filter p)).Pairwise fun a b => kLe a b = true := (srt_pairs _).sublist sl
  have ap : (mins ((srt (subs ns)).filter p)).Pairwise fun a b => ¬ ∀ x ∈ a, x ∈ b := mins_apart _ [] List.Pairwise.nil
  have inM : ∀ {s}, s ∈ mins ((srt (subs ns)).filter p) → s ∈ subs ns ∧ p s = true := fun {s} h => by
    rcases mins_mem h with z | z
    · simp at z
    · exact ⟨srt_mem.mp (List.mem_filter.mp z).1, (List.mem_filter.mp z).2⟩
  have below : ∀ {s}, s ∈ subs ns → p s = true → ∃ m ∈ mins ((srt (subs ns)).filter p), ∀ x ∈ m, x ∈ s := fun {s} h1 h2 => mins_below (kept := []) (List.mem_filter.mpr ⟨srt_mem.mpr h1, h2⟩)
  refine List.Perm.eq_of_pairwise (le := fun a b => kLe a b = true) (fun a b _ _ h1 h2 => kLe_anti h1 h2) pw (srt_pairs _) ((List.perm_ext_iff_of_nodup (ndS.sublist sl) ((List.mergeSort_perm _ _).nodup_iff.mpr ((subs_nodup nd).filter _))).mpr fun s => ?_)
  show s ∈ mins ((srt (subs ns)).filter p) ↔ s ∈ srt ((subs ns).filter (minimal p))
  rw [srt_mem, List.mem_filter, minimal_iff]
  constructor
  · intro h
    obtain ⟨h1, h2⟩ := inM h
    refine ⟨h1, h2, fun g mg => ?_⟩
    cases e : p (s.filter fun x => decide (x ≠ g)) with
    | false => rfl
    | true =>
      exfalso
      obtain ⟨m, mm, k⟩ := below (sub_filter nd h1 _) e
      have ms : ∀ x ∈ m, x ∈ s := fun x mx => (List.mem_filter.mp (k x mx)).1
      have short : m.length < s.length := Nat.lt_of_le_of_lt (nodup_le (sub_nodup nd (inM mm).1) k) (filter_lt mg)
      -- both are kept: the smaller one stands first, and bars the larger
      have both : ∀ {l : List (List Str)}, (l.Pairwise fun a b => kLe a b = true) → (l.Pairwise fun a b => ¬ ∀ x ∈ a, x ∈ b) → m ∈ l → s ∈ l → False := by
        intro l
        induction l with
        | nil => intro _ _ h; simp at h
        | cons y l ih =>
          intro q1 q2 h1 h2
          obtain ⟨a1, a2⟩ := List.pairwise_cons.mp q1
          obtain ⟨b1, b2⟩ := List.pairwise_cons.mp q2
          rcases List.mem_cons.mp h1 with c1 | c1
          · rcases List.mem_cons.mp h2 with c2 | c2
            · rw [c1, c2] at short
              exact Nat.lt_irrefl _ short
            · exact b1 s c2 (c1 ▸ ms)
          · rcases List.mem_cons.mp h2 with c2 | c2
            · have := kLe_len (a1 m c1)
              rw [← c2] at this
              omega
            · exact ih a2 b2 c1 c2
      exact both pw ap mm h
  · rintro ⟨h1, h2, h3⟩
    obtain ⟨m, mm, k⟩ := below h1 h2
    by_cases c : ∀ x ∈ s, x ∈ m
    · rw [sub_one nd h1 (inM mm).1 fun x => ⟨c x, k x⟩]
      exact mm
    · exfalso
      obtain ⟨g, hg⟩ := Classical.not_forall.mp c
      obtain ⟨mg, ng⟩ := Classical.not_imp.mp hg
      have e := h3 g mg
      rw [mono m (inM mm).1 _ (sub_filter nd h1 _) (fun x mx => List.mem_filter.mpr ⟨k x mx, decide_eq_true (show x ≠ g from fun z => ng (z ▸ mx))⟩) (inM mm).2] at e
      cases e
end Moot
namespace Moot
open PySem PySem.Spec PyProof.Rows L2
/-- tuples of names, each at its place -/
def SetsAt (H : Hp) (qs : List Nset) : Prop := ∀ q ∈ qs, H q.1 = some (.tup (q.2.map V.str))
theorem SetsAt.same {H H' : Hp} {qs : List Nset} (h : SetsAt H qs) (s : Same H H') : SetsAt H' qs := fun q m => s _ _ (h q m)
structure Blt2 (mg : Str → Option Value) : Prop where
  all : mg "all" = none
  any : mg "any" = none
theorem subs_short {ns s : List Str} (h : s ∈ subs ns) : s.length ≤ ns.length := by
  have : ∀ n, ∀ ns : List Str, ns.length = n → ∀ s ∈ subs ns, s.length ≤ n := by
    intro n
    induction n with
    | zero =>
      intro ns e s hs
      rw [List.eq_nil_of_length_eq_zero e] at hs
      rw [List.mem_singleton.mp hs]
      exact Nat.le_refl _
    | succ n ih =>
      intro ns e s hs
      have ne : ns ≠ [] := fun z => by rw [z] at e; cases e
      obtain ⟨a, y, rfl⟩ : ∃ a y, ns = a ++ [y] := ⟨_, _, (List.dropLast_concat_getLast ne).symm⟩
      rw [List.length_append, List.length_singleton] at e
      rw [subs_snoc] at hs
      rcases List.mem_append.mp hs with hs | hs
      · exact Nat.le_succ_of_le (ih a (by omega) s hs)
      · obtain ⟨t, ht, rfl⟩ := List.mem_map.mp hs
        rw [List.length_append]
        exact Nat.succ_le_succ (ih a (by omega) t ht)
  exact this _ ns rfl s h
theorem ref_at {qs : List Nset} {i : Nat} {x : V} (h : (qs.map fun q => V.ref q.1)[i]? = some x) : ∃ q, qs[i]? = some q ∧ x = .ref q.1 := by
  rw [List.getElem?_map] at h
  obtain ⟨q, hq, e⟩ := Option.map_eq_some_iff.mp h
  exact ⟨q, hq, e.symm⟩
section
variable {P : Program} {w : World} {K : PySem.W.Frag} {mg : Str → Option Value} {base : Heap}
/-! is_within -/
abbrev sWit : Stmt := top 10
abbrev nWit : List Str := ["small", "large", "name"]
theorem scWit : FnScope nWit ["small", "large"] (defScope sWit) := ⟨rfl, rfl, rfl, by decide +kernel, rfl, by decide +kernel, by decide +kernel⟩
def spWit : Sp := fun vs H Q _ => ∃ (a b : Addr) (m s : List Str), vs = [.ref a, .ref b] ∧ H a = some (.tup (m.map V.str)) ∧ H b = some (.tup (s.map V.str)) ∧ m.length ≤ 900 ∧ ∀ H', Same H H' → Q (.bl (m.all fun x => decide (x ∈ s))) H'
theorem ok_wit {f : Addr} {fd : FuncData} {k : Nat} (F : Fun K "is_within" "is_within" sWit f fd) (T : Blt mg) (T2 : Blt2 mg) : FnOk P w K mg base CX0 (k + 1) f fd ["small", "large"] spWit := by
  refine F.ok scWit (fun vs H Q E h => ?_) (fun cdv A outer s H vs Q E hr h => ?_)
  · obtain ⟨a, b, m, s, rfl, _⟩ := h
    rfl
  · obtain ⟨a, b, m, s, rfl, ha, hb, few, q⟩ := h
    refine ⟨_, pss_one (ps_ret (pe_callB (cr_all rfl) (by rfl) T2.all (by decide +kernel) (pa_cons (pe_lc (own := [("name", 2)]) (g := gName 2) (tt := tYes) (by rfl) scWit.nd (pi_tup (pv 0)) (blkOk_by (N := nWit) (sc := defScope sWit) (by decide +kernel))
      (fun _ _ _ _ _ => pg_name (i := 2) scWit.nd rfl (Or.inl rfl)) (fun _ _ _ _ _ => pts_nil) (fun _ _ _ _ _ => pe_cmpR (show OpR _ (compareOp .In) (rIn K false) from op_in_seq) (pv 2) (pv 1) (by rfl))) pa_nil))), ?_⟩
    refine ⟨.ref a, rfl, a, rfl, ⟨_, SqT.of ha⟩, fun D nD => lc_tup (K := K) (a := a) (xs := m.map V.str) (fun i H1 => Same H H1 ∧ H1 D = some (.lst (((m.take i).map fun x => decide (x ∈ s)).map V.bl))) ?_ (fun i H1 _ h => SqT.of (h.1 _ _ ha)) ?_ ?_⟩
    · exact ⟨same_new nD, upd_same⟩
    · rintro i x H1 hx ⟨s1, hD⟩
      rw [List.getElem?_map] at hx
      obtain ⟨z, hz, rfl⟩ := Option.map_eq_some_iff.mp hx
      have lt := (List.getElem?_eq_some_iff.mp hz).1
      refine ⟨rfl, .str z, rfl, .ref b, rfl, b, _, rfl, .inr (SqT.of (s1 _ _ hb)), rfl, flats s, _, hD, ?_, fun d o e => ?_, ?_⟩
      · rw [List.length_map, List.length_map, List.length_take]
        exact small1000 (by omega)
      · rw [upd_ne (ne_of_none e nD)]
        exact s1 d o e
      · rw [upd_same, List.take_add_one, hz, List.map_append, List.map_append]
        show some (HO.lst (_ ++ [V.bl (if false = true then _ else inV (.str z) (s.map V.str))])) = _
        rw [if_neg Bool.false_ne_true, inV_str]
        rfl
    · rintro H1 ⟨s1, hD⟩
      rw [List.length_map, List.take_length] at hD
      refine ⟨D, _, rfl, SqL.of hD, ?_⟩
      have e : (m.map fun x => decide (x ∈ s)).all id = m.all fun x => decide (x ∈ s) := by rw [List.all_map]; rfl
      rw [e]
      exact q H1 s1
/-! set_order -/
abbrev sOrd : Stmt := top 12
theorem scOrd : FnScope ["nodes"] ["nodes"] (defScope sOrd) := ⟨rfl, rfl, rfl, by decide +kernel, rfl, by decide +kernel, by decide +kernel⟩
theorem ok_ord {f : Addr} {fd : FuncData} {k : Nat} (F : Fun K "set_order" "set_order" sOrd f fd) (T : Blt mg) : FnOk P w K mg base CX0 (k + 1) f fd ["nodes"] spOrd := by
  refine F.ok scOrd (fun vs H Q E h => ?_) (fun cdv A outer s H vs Q E hr h => ?_)
  · obtain ⟨t, ns, rfl, _⟩ := h
    rfl
  · obtain ⟨t, ns, rfl, ht, q⟩ := h
    refine ⟨_, pss_one (ps_ret (pe_tup (pa_cons (pe_callB call_len_seq (by rfl) T.len PySem.boot_len (pa_cons (pv 0) pa_nil)) (pa_cons (pv 0) pa_nil)))), ?_⟩
    refine ⟨.ref t, rfl, t, _, rfl, .inr (SqT.of ht), .ref t, rfl, by show 2 ≤ sizeLine; decide, fun p np => ?_⟩
    refine q p _ (same_new np) np ?_
    rw [upd_same, List.length_map]
/-! subsets -/
abbrev sSub : Stmt := top 13
abbrev nSub : List Str := ["names", "found", "name", "nodes"]
theorem scSub : FnScope nSub ["names"] (defScope sSub) := ⟨rfl, rfl, rfl, by decide +kernel, rfl, by decide +kernel, by decide +kernel⟩
def spSub : Sp := fun vs H Q _ => ∃ (a : Addr) (ns : List Str), vs = [.ref a] ∧ H a = some (.tup (ns.map V.str)) ∧ ns.length ≤ 8 ∧
  ∀ (p : Addr) (qs : List Nset) (H' : Hp), Same H H' → H' p = some (.tup (qs.map fun q => V.ref q.1)) → SetsAt H' qs → qs.map (·.2) = srt (subs ns) → Q (.ref p) H'
theorem ok_sub {f fO : Addr} {fd fdO : FuncData} {k : Nat} (F : Fun K "subsets" "subsets" sSub f fd) (FO : Fun K "set_order" "set_order" sOrd fO fdO) (bO : Binds K fdO ["nodes"] []) (gO : mg "set_order" = some (.ref fO)) (GO : FnOk P w K mg base CX0 k fO fdO ["nodes"] spOrd) (T : Blt mg) :
    FnOk P w K mg base CX0 (k + 3) f fd ["names"] spSub := by
  refine F.ok scSub (fun vs H Q E h => ?_) (fun cdv A outer s H vs Q E hr h => ?_)
  · obtain ⟨a, ns, rfl, _⟩ := h
    rfl
  · obtain ⟨a, ns, rfl, ha, few, q⟩ := h
    refine ⟨_, pss_cons (ps_set (i := 1) scSub.nd rfl (Or.inl rfl) (pe_lst (pa_cons (pe_tup pa_nil) pa_nil)))
      (pss_cons (ps_for PassesOwn.never rfl (pi_tup (pv 0)) (pg_name (i := 2) scSub.nd rfl (Or.inr rfl))
        (pss_one (ps_set (i := 1) scSub.nd rfl (Or.inl rfl) (pe_op op_cat (pv 1) (pe_lc (own := [("nodes", 3)]) (g := gName 3) (tt := tYes) (by rfl) scSub.nd (pi_list (pv 1)) (blkOk_by (N := nSub) (sc := defScope sSub) (by decide +kernel))
          (fun _ _ _ _ _ => pg_name (i := 3) scSub.nd rfl (Or.inl rfl)) (fun _ _ _ _ _ => pts_nil) (fun _ _ _ _ _ => pe_tup (show PA _ _ (StX.tStar K _ _) from StX.pa_star (pv 3) (pa_cons (pv 2) pa_nil))))))))
      (pss_one (ps_ret (pe_callTy call_tuple_of (by rfl) T.tup (by decide +kernel) (pa_cons (pe_callBK (cr_sortBy GO hr bO) (by rfl) T.srt (by decide +kernel) (pa_cons (pv 1) pa_nil) (pk_cons (pe_glob (v := .ref fO) (by rfl) gO rfl) pk_nil)) pa_nil))))), ?_⟩
    -- found = [()]
    refine ⟨by show 0 ≤ sizeLine; decide, fun t0 nt0 => ⟨by show 1 ≤ sizeLine; decide, fun l0 nl0 => ?_⟩⟩
    have s0 := (same_new (o := .tup []) nt0).trans (same_new (o := .lst [.ref t0]) nl0)
    have t0l : t0 ≠ l0 := ne_of_none (upd_same (H := H) (o := .tup [])) nl0
    have ht0 : upd (upd H t0 (.tup [])) l0 (.lst [.ref t0]) t0 = some (.tup []) := by rw [upd_ne t0l, upd_same]
    refine ⟨.ref a, rfl, a, rfl, ⟨_, SqT.of (s0 _ _ ha)⟩, for_tup (K := K) (a := a) (xs := ns.map V.str) (fun i σ H1 => ∃ (fl : Addr) (qs : List Nset) (y2 y3 : Option V), σ = [some (.ref a), some (.ref fl), y2, y3] ∧ Same H H1 ∧ H1 fl = some (.lst (qs.map fun q => V.ref q.1)) ∧ SetsAt H1 qs ∧ qs.map (·.2) = subs (ns.take i)) ?_ (fun i σ H1 _ ⟨_, _, _, _, _, s1, _⟩ => SqT.of (s1 _ _ ha)) ?_ ?_⟩
    · refine ⟨l0, [(t0, [])], none, none, rfl, s0, upd_same, fun q mq => ?_, rfl⟩
      rw [List.mem_singleton.mp mq]
      exact ht0
    · rintro i x σ H1 hx ⟨fl, qs, y2, y3, rfl, s1, h1, st, eq⟩
      rw [List.getElem?_map] at hx
      obtain ⟨z, hz, rfl⟩ := Option.map_eq_some_iff.mp hx
      have lt := (List.getElem?_eq_some_iff.mp hz).1
      have ql : qs.length ≤ 256 := by
        have e := congrArg List.length eq
        rw [List.length_map, subs_len, List.length_take] at e
        have : 2 ^ min i ns.length ≤ 2 ^ 8 := Nat.pow_le_pow_right (by decide) (by omega)
        omega
      have short : ∀ q ∈ qs, q.2.length ≤ 8 := fun q mq => by
        have ms : q.2 ∈ subs (ns.take i) := by rw [← eq]; exact List.mem_map.mpr ⟨q, mq, rfl⟩
        exact Nat.le_trans (subs_short ms) (by rw [List.length_take]; omega)
      refine ⟨.ref fl, rfl, .ref fl, rfl, fl, rfl, ⟨_, SqL.of h1⟩, fun D nD => lc_list (K := K) (a := fl) (xs := qs.map fun q => V.ref q.1) (fun j H2 => Same H1 H2 ∧ ∃ rs : List Nset, H2 D = some (.lst (rs.map fun q => V.ref q.1)) ∧ SetsAt H2 rs ∧ rs.map (·.2) = ((qs.take j).map (·.2)).map (· ++ [z])) ?_ (fun j H2 _ h => SqL.of (h.1 _ _ h1)) ?_ ?_⟩
      · exact ⟨same_new nD, [], upd_same, fun q mq => by simp at mq, rfl⟩
      · rintro j y H2 hy ⟨s2, rs, hD, rt, er⟩
        obtain ⟨q, hq, rfl⟩ := ref_at hy
        have mq := List.mem_of_getElem? hq
        have lj := (List.getElem?_eq_some_iff.mp hq).1
        have hqt := s2 _ _ (st q mq)
        have rl : rs.length ≤ 256 := by
          have e := congrArg List.length er
          rw [List.length_map, List.length_map, List.length_map, List.length_take] at e
          omega
        refine ⟨rfl, .ref q.1, rfl, q.1, _, rfl, .inl (SqT.of hqt), .str z, rfl, ?_, fun t nt => ⟨_, same_new nt _ _ hD, ?_, fun d o e => ?_, rs ++ [(t, q.2 ++ [z])], ?_, fun r mr => ?_, ?_⟩⟩
        · rw [List.length_append, List.length_map]
          exact Nat.le_of_lt (small1000 (by have := short q mq; show q.2.length + 1 ≤ 1000; omega))
        · rw [List.length_map]
          exact small1000 (by omega)
        · rw [upd_ne (ne_of_none e nD), upd_ne (ne_of_none (s2 d o e) nt)]
          exact s2 d o e
        · rw [upd_same, List.map_append]
          rfl
        · have tD : t ≠ D := (ne_of_none hD nt).symm
          rcases List.mem_append.mp mr with mr | mr
          · have hr := rt r mr
            rw [upd_ne (fun c => by rw [c, hD] at hr; cases hr), upd_ne (ne_of_none hr nt)]
            exact hr
          · rw [List.mem_singleton.mp mr]
            show upd (upd H2 t _) D _ t = _
            rw [upd_ne tD, upd_same, List.map_append]
            rfl
        · rw [List.map_append, er, List.take_add_one, hq, List.map_append, List.map_append]
          rfl
      · rintro H2 ⟨s2, rs, hD, rt, er⟩
        rw [List.length_map, List.take_length] at er
        have rl : rs.length ≤ 256 := by
          have e := congrArg List.length er
          rw [List.length_map, List.length_map, List.length_map] at e
          omega
        refine ⟨fl, D, _, _, rfl, rfl, s2 _ _ h1, hD, ?_, fun l2 nl2 => ?_⟩
        · rw [List.length_map, List.length_map]
          exact Nat.le_of_lt (small1000 (by omega))
        · have s3 := same_new (o := .lst (qs.map (fun q => V.ref q.1) ++ rs.map fun q => V.ref q.1)) nl2
          refine ⟨l2, qs ++ rs, _, _, rfl, (s1.trans s2).trans s3, by rw [upd_same, List.map_append], fun q mq => ?_, ?_⟩
          · rcases List.mem_append.mp mq with mq | mq
            · exact s3 _ _ (s2 _ _ (st q mq))
            · exact s3 _ _ (rt q mq)
          · rw [List.map_append, er, eq, subs_take hz]
            rfl
    · rintro σ H1 ⟨fl, qs, y2, y3, rfl, s1, h1, st, eq⟩
      rw [List.length_map, List.take_length] at eq
      have ql : qs.length ≤ 256 := by
        have e := congrArg List.length eq
        rw [List.length_map, subs_len] at e
        have : 2 ^ ns.length ≤ 2 ^ 8 := Nat.pow_le_pow_right (by decide) few
        omega
      refine ⟨.ref fl, rfl, fl, qs, rfl, rfl, SqL.of h1, st, by omega, fun l2 H2 s2 nl2 h2 => ?_⟩
      refine ⟨l2, _, rfl, .inl ⟨SqL.of h2, fun t nt => ?_⟩⟩
      have s3 := same_new (o := .tup ((qs.mergeSort ordLe).map fun q => V.ref q.1)) nt
      refine q t (qs.mergeSort ordLe) _ ((s1.trans s2).trans s3) upd_same (fun r mr => ?_) ?_
      · exact s3 _ _ (s2 _ _ (st r ((List.mergeSort_perm qs _).mem_iff.mp mr)))
      · rw [srt_map, eq]
/-! minimal_sets -/
abbrev sMin : Stmt := top 14
abbrev nMin : List Str := ["sets", "kept", "nodes", "smaller"]
theorem scMin : FnScope nMin ["sets"] (defScope sMin) := ⟨rfl, rfl, rfl, by decide +kernel, rfl, by decide +kernel, by decide +kernel⟩
def spMin : Sp := fun vs H Q _ => ∃ (l : Addr) (qs : List Nset), vs = [.ref l] ∧ H l = some (.lst (qs.map fun q => V.ref q.1)) ∧ SetsAt H qs ∧ qs.length ≤ 300 ∧ (∀ q ∈ qs, q.2.length ≤ 900) ∧
  ∀ (p : Addr) (rs : List Nset) (H' : Hp), Same H H' → H' p = some (.tup (rs.map fun q => V.ref q.1)) → SetsAt H' rs → rs.map (·.2) = mins (qs.map (·.2)) → Q (.ref p) H'
theorem ok_min {f fW : Addr} {fd fdW : FuncData} {k : Nat} (F : Fun K "minimal_sets" "minimal_sets" sMin f fd) (FW : Fun K "is_within" "is_within" sWit fW fdW) (bW : Binds K fdW ["small", "large"] []) (gW : mg "is_within" = some (.ref fW)) (GW : FnOk P w K mg base CX0 k fW fdW ["small", "large"] spWit) (T : Blt mg) (T2 : Blt2 mg) :
    FnOk P w K mg base CX0 (k + 1) f fd ["sets"] spMin := by
  refine F.ok scMin (fun vs H Q E h => ?_) (fun cdv A outer s H vs Q E hr h => ?_)
  · obtain ⟨l, qs, rfl, _⟩ := h
    rfl
  · obtain ⟨l, qs, rfl, hl, st, few, short, q⟩ := h
    refine ⟨_, pss_cons (ps_set (i := 1) scMin.nd rfl (Or.inl rfl) (pe_lst pa_nil))
      (pss_cons (ps_for PassesOwn.never rfl (pi_list (pv 0)) (pg_name (i := 2) scMin.nd rfl (Or.inr rfl))
        (pss_one (ps_if (pt_not (pt_val (pe_callB (cr_any rfl) (by rfl) T2.any (by decide +kernel) (pa_cons (pe_lc (own := [("smaller", 3)]) (g := gName 3) (tt := tYes) (by rfl) scMin.nd (pi_list (pv 1)) (blkOk_by (N := nMin) (sc := defScope sMin) (by decide +kernel))
            (fun _ _ _ _ _ => pg_name (i := 3) scMin.nd rfl (Or.inl rfl)) (fun _ _ _ _ _ => pts_nil) (fun _ _ _ _ _ => pe_call GW hr (by rfl) gW FW.kp bW .nil pass0 (pa_cons (pv 3) (pa_cons (pv 2) pa_nil)))) pa_nil))))
          (pss_one (ps_expr (pe_bm PySem.F.plainAttrs_list PySem.F.slot_list_append PySem.F.type_list_append mt_append (pv 1) (pa_cons (pv 2) pa_nil)))) pss_nil)))
      (pss_one (ps_ret (pe_callTy call_tuple_of (by rfl) T.tup (by decide +kernel) (pa_cons (pv 1) pa_nil))))), ?_⟩
    refine ⟨Nat.zero_le _, fun kp nk => ?_⟩
    have s0 := same_new (o := .lst []) nk
    refine ⟨.ref l, rfl, l, rfl, ⟨_, SqL.of (s0 _ _ hl)⟩, for_list (K := K) (a := l) (xs := qs.map fun q => V.ref q.1) (fun i σ H1 => ∃ (rs : List Nset) (y2 y3 : Option V), σ = [some (.ref l), some (.ref kp), y2, y3] ∧ Same H H1 ∧ H1 kp = some (.lst (rs.map fun q => V.ref q.1)) ∧ (∀ r ∈ rs, r ∈ qs) ∧ rs.map (·.2) = mins ((qs.take i).map (·.2)) ∧ rs.length ≤ i) ?_ (fun i σ H1 _ ⟨_, _, _, _, s1, _⟩ => SqL.of (s1 _ _ hl)) ?_ ?_⟩
    · exact ⟨[], none, none, rfl, s0, upd_same, fun r mr => by simp at mr, rfl, Nat.le_refl _⟩
    · rintro i x σ H1 hx ⟨rs, y2, y3, rfl, s1, hk, sub, er, rl⟩
      obtain ⟨c, hc, rfl⟩ := ref_at hx
      have mc := List.mem_of_getElem? hc
      have lt := (List.getElem?_eq_some_iff.mp hc).1
      have hct := s1 _ _ (st c mc)
      have step : mins ((qs.take (i + 1)).map (·.2)) = minStep (mins ((qs.take i).map (·.2))) c.2 := by
        have e := mins_take (l := qs.map (·.2)) (i := i) (s := c.2) (by rw [List.getElem?_map, hc]; rfl)
        rw [← List.map_take, ← List.map_take] at e
        exact e
      refine ⟨.ref kp, rfl, kp, rfl, ⟨_, SqL.of hk⟩, fun D nD => lc_list (K := K) (a := kp) (xs := rs.map fun q => V.ref q.1) (fun j H2 => Same H1 H2 ∧ H2 D = some (.lst (((rs.take j).map fun r => r.2.all fun x => decide (x ∈ c.2)).map V.bl))) ?_ (fun j H2 _ h => SqL.of (h.1 _ _ hk)) ?_ ?_⟩
      · exact ⟨same_new nD, upd_same⟩
      · rintro j y H2 hy ⟨s2, hD⟩
        obtain ⟨r, hr', rfl⟩ := ref_at hy
        have mr := List.mem_of_getElem? hr'
        have lj := (List.getElem?_eq_some_iff.mp hr').1
        refine ⟨rfl, .ref r.1, rfl, .ref c.1, rfl, r.1, c.1, r.2, c.2, rfl, s2 _ _ (s1 _ _ (st r (sub r mr))), s2 _ _ hct, short r (sub r mr), fun H3 s3 => ⟨_, s3 _ _ hD, ?_, fun d o e => ?_, ?_⟩⟩
        · rw [List.length_map, List.length_map, List.length_take]
          exact small1000 (by omega)
        · rw [upd_ne (ne_of_none e nD)]
          exact s3 _ _ (s2 d o e)
        · rw [upd_same, List.take_add_one, hr', List.map_append, List.map_append]
          rfl
      · rintro H2 ⟨s2, hD⟩
        rw [List.length_map, List.take_length] at hD
        refine ⟨D, _, rfl, SqL.of hD, _, rfl, ?_⟩
        have ea : ((rs.map fun r => r.2.all fun x => decide (x ∈ c.2)).any id) = (mins ((qs.take i).map (·.2))).any fun m => m.all fun x => decide (x ∈ c.2) := by
          rw [← er, List.any_map, List.any_map]
          rfl
        rw [ea]
        cases cs : (mins ((qs.take i).map (·.2))).any fun m => m.all fun x => decide (x ∈ c.2) with
        | true =>
          refine iteF ⟨rs, _, _, rfl, s1.trans s2, s2 _ _ hk, sub, ?_, by omega⟩
          rw [er, step]
          unfold minStep
          rw [cs, if_pos rfl]
        | false =>
          refine iteT ⟨.ref kp, rfl, .inl ⟨rfl, _, SqL.of (s2 _ _ hk)⟩, .ref c.1, rfl, kp, _, _, rfl, rfl, s2 _ _ hk, ?_, rs ++ [c], _, _, rfl, fun d o e => ?_, ?_, fun r mr => ?_, ?_, ?_⟩
          · rw [List.length_map]
            exact small1000 (by omega)
          · rw [upd_ne (ne_of_none e nk)]
            exact s2 _ _ (s1 d o e)
          · rw [upd_same, List.map_append]
            rfl
          · rcases List.mem_append.mp mr with mr | mr
            · exact sub r mr
            · rw [List.mem_singleton.mp mr]
              exact mc
          · rw [List.map_append, er, step]
            unfold minStep
            rw [cs, if_neg Bool.false_ne_true]
            rfl
          · rw [List.length_append]
            exact Nat.succ_le_succ rl
    · rintro σ H1 ⟨rs, y2, y3, rfl, s1, hk, sub, er, rl⟩
      rw [List.length_map, List.take_length] at er
      refine ⟨.ref kp, rfl, kp, _, rfl, .inl ⟨SqL.of hk, fun t nt => ?_⟩⟩
      have s2 := same_new (o := .tup (rs.map fun q => V.ref q.1)) nt
      exact q t rs _ (s1.trans s2) upd_same (fun r mr => s2 _ _ (s1 _ _ (st r (sub r mr)))) er
end
end Moot
namespace Moot
open PySem PySem.Spec PyProof.Rows L2
/-- lists of names, each at its place -/
def ListsAt (H : Hp) (qs : List Nset) : Prop := ∀ q ∈ qs, H q.1 = some (.lst (q.2.map V.str))
section
variable {P : Program} {w : World} {K : PySem.W.Frag} {mg : Str → Option Value} {base : Heap}
/-! _law_subsets -/
abbrev sLsub : Stmt := top 61
abbrev nLsub : List Str := ["_law_names_here", "_law_found", "_law_name", "_law_some"]
theorem scLsub : FnScope nLsub ["_law_names_here"] (defScope sLsub) := ⟨rfl, rfl, rfl, by decide +kernel, rfl, by decide +kernel, by decide +kernel⟩
def spLsub : Sp := fun vs H Q _ => ∃ (a : Addr) (ns : List Str), vs = [.ref a] ∧ H a = some (.lst (ns.map V.str)) ∧ ns.length ≤ 8 ∧
  ∀ (p : Addr) (qs : List Nset) (H' : Hp), Same H H' → H p = none → (∀ q ∈ qs, H q.1 = none) → H' p = some (.lst (qs.map fun q => V.ref q.1)) → ListsAt H' qs → qs.map (·.2) = subs ns → Q (.ref p) H'
theorem ok_lsub {f : Addr} {fd : FuncData} {k : Nat} (F : Fun K "_law_subsets" "_law_subsets" sLsub f fd) : FnOk P w K mg base CX0 (k + 1) f fd ["_law_names_here"] spLsub := by
  refine F.ok scLsub (fun vs H Q E h => ?_) (fun cdv A outer s H vs Q E hr h => ?_)
  · obtain ⟨a, ns, rfl, _⟩ := h
    rfl
  · obtain ⟨a, ns, rfl, ha, few, q⟩ := h
    refine ⟨_, pss_cons (ps_set (i := 1) scLsub.nd rfl (Or.inl rfl) (pe_lst (pa_cons (pe_lst pa_nil) pa_nil)))
      (pss_cons (ps_for PassesOwn.never rfl (pi_list (pv 0)) (pg_name (i := 2) scLsub.nd rfl (Or.inr rfl))
        (pss_one (ps_set (i := 1) scLsub.nd rfl (Or.inl rfl) (pe_op op_cat (pv 1) (pe_lc (own := [("_law_some", 3)]) (g := gName 3) (tt := tYes) (by rfl) scLsub.nd (pi_list (pv 1)) (blkOk_by (N := nLsub) (sc := defScope sLsub) (by decide +kernel))
          (fun _ _ _ _ _ => pg_name (i := 3) scLsub.nd rfl (Or.inl rfl)) (fun _ _ _ _ _ => pts_nil) (fun _ _ _ _ _ => pe_op op_cat (pv 3) (pe_lst (pa_cons (pv 2) pa_nil))))))))
      (pss_one (ps_ret (pv 1)))), ?_⟩
    refine ⟨by show 0 ≤ sizeLine; decide, fun t0 nt0 => ⟨by show 1 ≤ sizeLine; decide, fun l0 nl0 => ?_⟩⟩
    have s0 := (same_new (o := .lst []) nt0).trans (same_new (o := .lst [.ref t0]) nl0)
    have t0l : t0 ≠ l0 := ne_of_none (upd_same (H := H) (o := .lst [])) nl0
    have ht0 : upd (upd H t0 (.lst [])) l0 (.lst [.ref t0]) t0 = some (.lst []) := by rw [upd_ne t0l, upd_same]
    refine ⟨.ref a, rfl, a, rfl, ⟨_, SqL.of (s0 _ _ ha)⟩, for_list (K := K) (a := a) (xs := ns.map V.str) (fun i σ H1 => ∃ (fl : Addr) (qs : List Nset) (y2 y3 : Option V), σ = [some (.ref a), some (.ref fl), y2, y3] ∧ Same H H1 ∧ H1 fl = some (.lst (qs.map fun q => V.ref q.1)) ∧ ListsAt H1 qs ∧ qs.map (·.2) = subs (ns.take i) ∧ H fl = none ∧ ∀ q ∈ qs, H q.1 = none) ?_ (fun i σ H1 _ ⟨_, _, _, _, _, s1, _⟩ => SqL.of (s1 _ _ ha)) ?_ ?_⟩
    · refine ⟨l0, [(t0, [])], none, none, rfl, s0, upd_same, fun q mq => ?_, rfl, (same_new (o := .lst []) nt0).free nl0, fun q mq => ?_⟩
      · rw [List.mem_singleton.mp mq]
        exact ht0
      · rw [List.mem_singleton.mp mq]
        exact nt0
    · rintro i x σ H1 hx ⟨fl, qs, y2, y3, rfl, s1, h1, st, eq, nfl, nqs⟩
      rw [List.getElem?_map] at hx
      obtain ⟨z, hz, rfl⟩ := Option.map_eq_some_iff.mp hx
      have lt := (List.getElem?_eq_some_iff.mp hz).1
      have ql : qs.length ≤ 256 := by
        have e := congrArg List.length eq
        rw [List.length_map, subs_len, List.length_take] at e
        have : 2 ^ min i ns.length ≤ 2 ^ 8 := Nat.pow_le_pow_right (by decide) (by omega)
        omega
      have short : ∀ q ∈ qs, q.2.length ≤ 8 := fun q mq => by
        have ms : q.2 ∈ subs (ns.take i) := by rw [← eq]; exact List.mem_map.mpr ⟨q, mq, rfl⟩
        exact Nat.le_trans (subs_short ms) (by rw [List.length_take]; omega)
      refine ⟨.ref fl, rfl, .ref fl, rfl, fl, rfl, ⟨_, SqL.of h1⟩, fun D nD => lc_list (K := K) (a := fl) (xs := qs.map fun q => V.ref q.1) (fun j H2 => Same H1 H2 ∧ ∃ rs : List Nset, H2 D = some (.lst (rs.map fun q => V.ref q.1)) ∧ (∀ r ∈ rs, r.1 ≠ D) ∧ ListsAt H2 rs ∧ rs.map (·.2) = ((qs.take j).map (·.2)).map (· ++ [z]) ∧ ∀ r ∈ rs, H1 r.1 = none) ?_ (fun j H2 _ h => SqL.of (h.1 _ _ h1)) ?_ ?_⟩
      · exact ⟨same_new nD, [], upd_same, fun q mq => by simp at mq, fun q mq => by simp at mq, rfl, fun q mq => by simp at mq⟩
      · rintro j y H2 hy ⟨s2, rs, hD, rD, rt, er, nrs⟩
        obtain ⟨q, hq, rfl⟩ := ref_at hy
        have mq := List.mem_of_getElem? hq
        have lj := (List.getElem?_eq_some_iff.mp hq).1
        have hqt := s2 _ _ (st q mq)
        have rl : rs.length ≤ 256 := by
          have e := congrArg List.length er
          rw [List.length_map, List.length_map, List.length_map, List.length_take] at e
          omega
        refine ⟨rfl, .ref q.1, rfl, .str z, rfl, by show 1 ≤ sizeLine; decide, fun l1 nl1 => ⟨q.1, l1, _, _, rfl, rfl, same_new nl1 _ _ hqt, upd_same, ?_, fun t nt => ⟨rs.map fun q => V.ref q.1, ?_, ?_, ?_, rs ++ [(t, q.2 ++ [z])], ?_, ?_, ?_, ?_, ?_⟩⟩⟩
        · rw [List.length_map]
          exact Nat.le_of_lt (small1000 (by have := short q mq; show q.2.length + 1 ≤ 1000; omega))
        · exact (same_new (o := .lst [.str z]) nl1).trans (same_new nt) _ _ hD
        · rw [List.length_map]
          exact small1000 (by omega)
        · intro d o e
          rw [upd_ne (ne_of_none e nD)]
          exact (same_new (o := .lst [.str z]) nl1).trans (same_new nt) _ _ (s2 d o e)
        · rw [upd_same, List.map_append]
          rfl
        · intro r mr
          rcases List.mem_append.mp mr with mr | mr
          · exact rD r mr
          · rw [List.mem_singleton.mp mr]
            exact (ne_of_none (same_new (o := .lst [.str z]) nl1 _ _ hD) nt).symm
        · intro r mr
          rcases List.mem_append.mp mr with mr | mr
          · rw [upd_ne (rD r mr)]
            exact (same_new (o := .lst [.str z]) nl1).trans (same_new nt) _ _ (rt r mr)
          · rw [List.mem_singleton.mp mr]
            show upd (upd _ t _) D _ t = _
            rw [upd_ne (ne_of_none (same_new (o := .lst [.str z]) nl1 _ _ hD) nt).symm, upd_same, List.map_append]
            rfl
        · rw [List.map_append, er, List.take_add_one, hq, List.map_append, List.map_append]
          rfl
        · intro r mr
          rcases List.mem_append.mp mr with mr | mr
          · exact nrs r mr
          · rw [List.mem_singleton.mp mr]
            exact s2.free ((same_new (o := .lst [.str z]) nl1).free nt)
      · rintro H2 ⟨s2, rs, hD, rD, rt, er, nrs⟩
        rw [List.length_map, List.take_length] at er
        have rl : rs.length ≤ 256 := by
          have e := congrArg List.length er
          rw [List.length_map, List.length_map, List.length_map] at e
          omega
        refine ⟨fl, D, _, _, rfl, rfl, s2 _ _ h1, hD, ?_, fun l2 nl2 => ?_⟩
        · rw [List.length_map, List.length_map]
          exact Nat.le_of_lt (small1000 (by omega))
        · have s3 := same_new (o := .lst (qs.map (fun q => V.ref q.1) ++ rs.map fun q => V.ref q.1)) nl2
          refine ⟨l2, qs ++ rs, _, _, rfl, (s1.trans s2).trans s3, by rw [upd_same, List.map_append], fun q mq => ?_, ?_, (s1.trans s2).free nl2, fun q mq => ?_⟩
          · rcases List.mem_append.mp mq with mq | mq
            · exact s3 _ _ (s2 _ _ (st q mq))
            · exact s3 _ _ (rt q mq)
          · rw [List.map_append, er, eq, subs_take hz]
            rfl
          · rcases List.mem_append.mp mq with mq | mq
            · exact nqs q mq
            · exact s1.free (nrs q mq)
    · rintro σ H1 ⟨fl, qs, y2, y3, rfl, s1, h1, st, eq, nfl, nqs⟩
      rw [List.length_map, List.take_length] at eq
      exact ⟨.ref fl, rfl, q fl qs H1 s1 nfl nqs h1 st eq⟩
end
end Moot
namespace Moot
open PySem PySem.Spec PyProof.Rows L2
/-- tolerated, by its size -/
def tolP (c n : Int) (s : List Str) : Bool := decide (tword c n s.length = "tolerated")
def tolL (c n : Int) (ns : List Str) : List (List Str) := (srt (subs ns)).filter (tolP c n)
theorem NetAt.keysnd {C : Addr} {H : Hp} {net D : Addr} {c : Int} {xs : List Str} {rs : Rws} (N : NetAt C H net D c xs rs) : (rs.map (·.1)).Nodup := N.fit.keys.nodup_iff.mpr N.fit.nd
theorem NetAt.subFl {C : Addr} {H : Hp} {net D : Addr} {c : Int} {xs : List Str} {rs : Rws} (N : NetAt C H net D c xs rs) {s : List Str} (h : s ∈ subs (rs.map (·.1))) : Fl xs s :=
  ⟨sub_nodup N.keysnd h, fun x m => N.fit.keys.mem_iff.mp (subs_in h x m)⟩
theorem sets_few {ns : List Str} {qs : List Nset} (n8 : ns.length ≤ 8) (e : qs.map (·.2) = srt (subs ns)) : qs.length ≤ 256 := by
  have e := congrArg List.length e
  rw [List.length_map, srt_len, subs_len] at e
  have : 2 ^ ns.length ≤ 2 ^ 8 := Nat.pow_le_pow_right (by decide) n8
  omega
theorem sets_short {ns : List Str} {qs : List Nset} (n8 : ns.length ≤ 8) (e : qs.map (·.2) = srt (subs ns)) : ∀ q ∈ qs, q.2 ∈ subs ns ∧ q.2.length ≤ 8 := fun q mq => by
  have ms : q.2 ∈ srt (subs ns) := by rw [← e]; exact List.mem_map.mpr ⟨q, mq, rfl⟩
  exact ⟨srt_mem.mp ms, Nat.le_trans (subs_short (srt_mem.mp ms)) n8⟩
section
variable {P : Program} {w : World} {K : PySem.W.Frag} {mg : Str → Option Value} {base : Heap}
/-! is_within, of a list or a tuple -/
def spWitN (K : PySem.W.Frag) : Sp := fun vs H Q _ => ∃ (a b : Addr) (m s : List Str), vs = [.ref a, .ref b] ∧ NodesAt K H a m ∧ H b = some (.tup (s.map V.str)) ∧ m.length ≤ 900 ∧ ∀ H', Same H H' → Q (.bl (m.all fun x => decide (x ∈ s))) H'
theorem ok_witN {f : Addr} {fd : FuncData} {k : Nat} (F : Fun K "is_within" "is_within" sWit f fd) (T : Blt mg) (T2 : Blt2 mg) : FnOk P w K mg base CX0 (k + 1) f fd ["small", "large"] (spWitN K) := by
  refine F.ok scWit (fun vs H Q E h => ?_) (fun cdv A outer s H vs Q E hr h => ?_)
  · obtain ⟨a, b, m, s, rfl, _⟩ := h
    rfl
  · obtain ⟨a, b, m, s, rfl, ha, hb, few, q⟩ := h
    refine ⟨_, pss_one (ps_ret (pe_callB (cr_all rfl) (by rfl) T2.all (by decide +kernel) (pa_cons (pe_lc (own := [("name", 2)]) (g := gName 2) (tt := tYes) (by rfl) scWit.nd (pi_or (pi_list (pv 0)) (pi_tup (pv 0))) (blkOk_by (N := nWit) (sc := defScope sWit) (by decide +kernel))
      (fun _ _ _ _ _ => pg_name (i := 2) scWit.nd rfl (Or.inl rfl)) (fun _ _ _ _ _ => pts_nil) (fun _ _ _ _ _ => pe_cmpR (show OpR _ (compareOp .In) (rIn K false) from op_in_seq) (pv 2) (pv 1) (by rfl))) pa_nil))), ?_⟩
    have body : ∀ (D : Addr), H D = none → ∀ (i : Nat) (z : Str) (H1 : Hp), m[i]? = some z → (Same H H1 ∧ H1 D = some (.lst (((m.take i).map fun x => decide (x ∈ s)).map V.bl))) → ∃ b', V.ref b = .ref b' ∧ True := fun D nD i z H1 _ _ => ⟨b, rfl, trivial⟩
    rcases ha with ha | ha
    · refine .inl ⟨.ref a, rfl, a, rfl, ⟨_, ha⟩, fun D nD => lc_list (K := K) (a := a) (xs := m.map V.str) (fun i H1 => Same H H1 ∧ H1 D = some (.lst (((m.take i).map fun x => decide (x ∈ s)).map V.bl))) ?_ (fun i H1 _ h => Same.seq h.1 ha) ?_ ?_⟩
      · exact ⟨same_new nD, upd_same⟩
      · rintro i x H1 hx ⟨s1, hD⟩
        rw [List.getElem?_map] at hx
        obtain ⟨z, hz, rfl⟩ := Option.map_eq_some_iff.mp hx
        have lt := (List.getElem?_eq_some_iff.mp hz).1
        refine ⟨rfl, .str z, rfl, .ref b, rfl, b, _, rfl, .inr (SqT.of (s1 _ _ hb)), rfl, flats s, _, hD, ?_, fun d o e => ?_, ?_⟩
        · rw [List.length_map, List.length_map, List.length_take]
          exact small1000 (by omega)
        · rw [upd_ne (ne_of_none e nD)]
          exact s1 d o e
        · rw [upd_same, List.take_add_one, hz, List.map_append, List.map_append]
          show some (HO.lst (_ ++ [V.bl (if false = true then _ else inV (.str z) (s.map V.str))])) = _
          rw [if_neg Bool.false_ne_true, inV_str]
          rfl
      · rintro H1 ⟨s1, hD⟩
        rw [List.length_map, List.take_length] at hD
        refine ⟨D, _, rfl, SqL.of hD, ?_⟩
        have e : (m.map fun x => decide (x ∈ s)).all id = m.all fun x => decide (x ∈ s) := by rw [List.all_map]; rfl
        rw [e]
        exact q H1 s1
    · refine .inr ⟨.ref a, rfl, a, rfl, ⟨_, ha⟩, fun D nD => lc_tup (K := K) (a := a) (xs := m.map V.str) (fun i H1 => Same H H1 ∧ H1 D = some (.lst (((m.take i).map fun x => decide (x ∈ s)).map V.bl))) ?_ (fun i H1 _ h => Same.seqT h.1 ha) ?_ ?_⟩
      · exact ⟨same_new nD, upd_same⟩
      · rintro i x H1 hx ⟨s1, hD⟩
        rw [List.getElem?_map] at hx
        obtain ⟨z, hz, rfl⟩ := Option.map_eq_some_iff.mp hx
        have lt := (List.getElem?_eq_some_iff.mp hz).1
        refine ⟨rfl, .str z, rfl, .ref b, rfl, b, _, rfl, .inr (SqT.of (s1 _ _ hb)), rfl, flats s, _, hD, ?_, fun d o e => ?_, ?_⟩
        · rw [List.length_map, List.length_map, List.length_take]
          exact small1000 (by omega)
        · rw [upd_ne (ne_of_none e nD)]
          exact s1 d o e
        · rw [upd_same, List.take_add_one, hz, List.map_append, List.map_append]
          show some (HO.lst (_ ++ [V.bl (if false = true then _ else inV (.str z) (s.map V.str))])) = _
          rw [if_neg Bool.false_ne_true, inV_str]
          rfl
      · rintro H1 ⟨s1, hD⟩
        rw [List.length_map, List.take_length] at hD
        refine ⟨D, _, rfl, SqL.of hD, ?_⟩
        have e : (m.map fun x => decide (x ∈ s)).all id = m.all fun x => decide (x ∈ s) := by rw [List.all_map]; rfl
        rw [e]
        exact q H1 s1
/-! tolerated_sets -/
abbrev sTs : Stmt := top 43
abbrev nTs : List Str := ["network", "nodes"]
theorem scTs : FnScope nTs ["network"] (defScope sTs) := ⟨rfl, rfl, rfl, by decide +kernel, rfl, by decide +kernel, by decide +kernel⟩
def spTs (C : Addr) : Sp := fun vs H Q _ => ∃ (net D : Addr) (c : Int) (xs : List Str) (rs : Rws), vs = [.ref net] ∧ NetAt C H net D c xs rs ∧
  ∀ (p : Addr) (qs : List Nset) (H' : Hp), Same H H' → H' p = some (.tup (qs.map fun q => V.ref q.1)) → SetsAt H' qs → qs.map (·.2) = tolL c xs.length (rs.map (·.1)) → Q (.ref p) H'
theorem ok_ts {f f1 f2 f3 C : Addr} {fd fd1 fd2 fd3 : FuncData} {k : Nat} (F : Fun K "tolerated_sets" "tolerated_sets" sTs f fd) (T : Bq mg) (X : Txt K mg C)
    (FS : Fun K "subsets" "subsets" sSub f1 fd1) (bS : Binds K fd1 ["names"] []) (gS : mg "subsets" = some (.ref f1)) (GS : FnOk P w K mg base CX0 k f1 fd1 ["names"] spSub)
    (M2 : Meth K C "node_names" f2) (b2 : Binds K fd2 ["self"] []) (G2 : FnOk P w K mg base CX0 k f2 fd2 ["self"] (spNn C))
    (F3 : Fun K "tolerates" "tolerates" sTls f3 fd3) (b3 : Binds K fd3 pHn []) (g3 : mg "tolerates" = some (.ref f3)) (G3 : FnOk P w K mg base CX0 k f3 fd3 pHn (spTls K C)) : FnOk P w K mg base CX0 (k + 1) f fd ["network"] (spTs C) := by
  refine F.ok scTs (fun vs H Q E h => ?_) (fun cdv A outer s H vs Q E hr h => ?_)
  · obtain ⟨net, D, c, xs, rs, rfl, _⟩ := h
    rfl
  · obtain ⟨net, D, c, xs, rs, rfl, N, q⟩ := h
    obtain ⟨dx, hn⟩ := N.ob
    refine ⟨_, pss_one (ps_ret (pe_callTy call_tuple_of (by rfl) T.T.tup (by decide +kernel) (pa_cons (pe_lc (own := [("nodes", 1)]) (g := gName 1) (by rfl) scTs.nd (pi_tup (pe_call GS hr (by rfl) gS FS.kp bS .nil pass0 (pa_cons (pe_meth0 (pv 0) X.cl M2 G2 hr b2 .nil pass0) pa_nil))) (blkOk_by (N := nTs) (sc := defScope sTs) (by decide +kernel))
        (fun _ _ _ _ _ => pg_name (i := 1) scTs.nd rfl (Or.inl rfl)) (fun _ _ _ _ _ => pts_one (pt_val (pe_call G3 hr (by rfl) g3 F3.kp b3 .nil pass0 (pa_cons (pv 0) (pa_cons (pv 1) pa_nil))))) (fun _ _ _ _ _ => pv 1)) pa_nil))), ?_⟩
    have rl := N.fit.len
    have r8 := N.fit.few
    have n8 : (rs.map (·.1)).length ≤ 8 := by rw [List.length_map]; omega
    refine ⟨.ref net, rfl, net, dx, _, rfl, hn, fld_no D (by decide +kernel), net, D, c, xs, rs, rfl, N, fun p1 H1 s1 np1 hp1 => ?_⟩
    refine ⟨p1, rs.map (·.1), rfl, hp1, n8, fun sp qs H2 s2 hsp st eq => ?_⟩
    have ql := sets_few n8 eq
    have qs8 := sets_short n8 eq
    have s12 := s1.trans s2
    refine ⟨sp, rfl, ⟨_, SqT.of hsp⟩, fun D' nD => lc_tup (K := K) (a := sp) (xs := qs.map fun q => V.ref q.1) (fun i H3 => Same H2 H3 ∧ H3 D' = some (.lst (((qs.take i).filter fun q => tolP c xs.length q.2).map fun q => V.ref q.1))) ?_ (fun i H3 _ h => SqT.of (h.1 _ _ hsp)) ?_ ?_⟩
    · exact ⟨same_new nD, upd_same⟩
    · rintro i x H3 hx ⟨s3, hD⟩
      obtain ⟨t, ht, rfl⟩ := ref_at hx
      have mt := List.mem_of_getElem? ht
      have lt := (List.getElem?_eq_some_iff.mp ht).1
      have tk : (qs.take (i + 1)).filter (fun q => tolP c xs.length q.2) = (qs.take i).filter (fun q => tolP c xs.length q.2) ++ [t].filter fun q => tolP c xs.length q.2 := by
        rw [List.take_add_one, ht, List.filter_append]
        rfl
      have N3 := N.same (s12.trans s3)
      refine ⟨rfl, .ref net, rfl, .ref t.1, rfl, net, D, t.1, c, xs, rs, t.2, rfl, N3, .inr (SqT.of (s3 _ _ (st t mt))), N.subFl (qs8 t mt).1, fun H4 s4 => ⟨_, rfl, ?_⟩⟩
      show if _ then _ else _
      cases e : tolP c xs.length t.2 with
      | true =>
        rw [show decide (tword c xs.length t.2.length = "tolerated") = true from e]
        refine iteT ⟨.ref t.1, rfl, _, s4 _ _ hD, ?_, fun d o eo => ?_, ?_⟩
        · rw [List.length_map]
          refine small1000 (Nat.le_trans (List.length_filter_le _ _) ?_)
          rw [List.length_take]
          omega
        · rw [upd_ne (ne_of_none eo nD)]
          exact s4 _ _ (s3 d o eo)
        · rw [upd_same, tk, List.map_append, show List.filter _ [t] = [t] from List.filter_cons_of_pos (p := fun q => tolP c xs.length q.2) e]
          rfl
      | false =>
        rw [show decide (tword c xs.length t.2.length = "tolerated") = false from e]
        refine iteF ⟨s3.trans s4, ?_⟩
        rw [s4 _ _ hD, tk, List.filter_cons_of_neg (by rw [e]; exact Bool.false_ne_true)]
        simp
    · rintro H3 ⟨s3, hD⟩
      rw [List.length_map, List.take_length] at hD
      have ef : (qs.filter fun q => tolP c xs.length q.2).map (·.2) = tolL c xs.length (rs.map (·.1)) := by
        unfold tolL
        rw [← eq, List.filter_map]
        rfl
      refine ⟨D', _, rfl, .inl ⟨SqL.of hD, fun t nt => ?_⟩⟩
      have s5 := same_new (o := .tup ((qs.filter fun q => tolP c xs.length q.2).map fun q => V.ref q.1)) nt
      exact q t _ _ ((s12.trans s3).trans s5) upd_same (fun q' mq => s5 _ _ (s3 _ _ (st q' (List.mem_filter.mp mq).1))) ef
end
end Moot
namespace Moot
open PySem PySem.Spec PyProof.Rows L2
/-- the sets that hold the nodes, the minimal ones of them -/
def mcL (m : List Str) (l : List (List Str)) : List (List Str) := mins (l.filter fun s => m.all fun x => decide (x ∈ s))
section
variable {P : Program} {w : World} {K : PySem.W.Frag} {mg : Str → Option Value} {base : Heap}
/-! minimal_containing -/
abbrev sMc : Stmt := top 44
abbrev nMc : List Str := ["sets", "nodes", "larger"]
theorem scMc : FnScope nMc ["sets", "nodes"] (defScope sMc) := ⟨rfl, rfl, rfl, by decide +kernel, rfl, by decide +kernel, by decide +kernel⟩
def spMc (K : PySem.W.Frag) : Sp := fun vs H Q _ => ∃ (a b : Addr) (qs : List Nset) (m : List Str), vs = [.ref a, .ref b] ∧ H a = some (.tup (qs.map fun q => V.ref q.1)) ∧ SetsAt H qs ∧ qs.length ≤ 300 ∧ (∀ q ∈ qs, q.2.length ≤ 900) ∧ NodesAt K H b m ∧ m.length ≤ 900 ∧
  ∀ (p : Addr) (rs : List Nset) (H' : Hp), Same H H' → H' p = some (.tup (rs.map fun q => V.ref q.1)) → SetsAt H' rs → rs.map (·.2) = mcL m (qs.map (·.2)) → Q (.ref p) H'
theorem ok_mc {f f1 f2 : Addr} {fd fd1 fd2 : FuncData} {k : Nat} (F : Fun K "minimal_containing" "minimal_containing" sMc f fd)
    (FM : Fun K "minimal_sets" "minimal_sets" sMin f1 fd1) (bM : Binds K fd1 ["sets"] []) (gM : mg "minimal_sets" = some (.ref f1)) (GM : FnOk P w K mg base CX0 k f1 fd1 ["sets"] spMin)
    (FW : Fun K "is_within" "is_within" sWit f2 fd2) (bW : Binds K fd2 ["small", "large"] []) (gW : mg "is_within" = some (.ref f2)) (GW : FnOk P w K mg base CX0 k f2 fd2 ["small", "large"] (spWitN K)) : FnOk P w K mg base CX0 (k + 1) f fd ["sets", "nodes"] (spMc K) := by
  refine F.ok scMc (fun vs H Q E h => ?_) (fun cdv A outer s H vs Q E hr h => ?_)
  · obtain ⟨a, b, qs, m, rfl, _⟩ := h
    rfl
  · obtain ⟨a, b, qs, m, rfl, ha, st, ql, qsh, hb, ml, q⟩ := h
    refine ⟨_, pss_one (ps_ret (pe_call GM hr (by rfl) gM FM.kp bM .nil pass0 (pa_cons (pe_lc (own := [("larger", 2)]) (g := gName 2) (by rfl) scMc.nd (pi_tup (pv 0)) (blkOk_by (N := nMc) (sc := defScope sMc) (by decide +kernel))
        (fun _ _ _ _ _ => pg_name (i := 2) scMc.nd rfl (Or.inl rfl)) (fun _ _ _ _ _ => pts_one (pt_val (pe_call GW hr (by rfl) gW FW.kp bW .nil pass0 (pa_cons (pv 1) (pa_cons (pv 2) pa_nil))))) (fun _ _ _ _ _ => pv 2)) pa_nil))), ?_⟩
    refine ⟨.ref a, rfl, a, rfl, ⟨_, SqT.of ha⟩, fun D nD => lc_tup (K := K) (a := a) (xs := qs.map fun q => V.ref q.1) (fun i H3 => Same H H3 ∧ H3 D = some (.lst (((qs.take i).filter fun q => m.all fun x => decide (x ∈ q.2)).map fun q => V.ref q.1))) ?_ (fun i H3 _ h => SqT.of (h.1 _ _ ha)) ?_ ?_⟩
    · exact ⟨same_new nD, upd_same⟩
    · rintro i x H3 hx ⟨s3, hD⟩
      obtain ⟨t, ht, rfl⟩ := ref_at hx
      have mt := List.mem_of_getElem? ht
      have lt := (List.getElem?_eq_some_iff.mp ht).1
      have tk : (qs.take (i + 1)).filter (fun q => m.all fun x => decide (x ∈ q.2)) = (qs.take i).filter (fun q => m.all fun x => decide (x ∈ q.2)) ++ [t].filter fun q => m.all fun x => decide (x ∈ q.2) := by
        rw [List.take_add_one, ht, List.filter_append]
        rfl
      refine ⟨rfl, .ref b, rfl, .ref t.1, rfl, b, t.1, m, t.2, rfl, hb.same s3, s3 _ _ (st t mt), ml, fun H4 s4 => ⟨_, rfl, ?_⟩⟩
      cases e : (m.all fun x => decide (x ∈ t.2)) with
      | true =>
        refine iteT ⟨.ref t.1, rfl, _, s4 _ _ hD, ?_, fun d o eo => ?_, ?_⟩
        · rw [List.length_map]
          refine small1000 (Nat.le_trans (List.length_filter_le _ _) ?_)
          rw [List.length_take]
          omega
        · rw [upd_ne (ne_of_none eo nD)]
          exact s4 _ _ (s3 d o eo)
        · rw [upd_same, tk, List.map_append, show List.filter _ [t] = [t] from List.filter_cons_of_pos (p := fun q : Nset => m.all fun x => decide (x ∈ q.2)) e]
          rfl
      | false =>
        refine iteF ⟨s3.trans s4, ?_⟩
        rw [s4 _ _ hD, tk, List.filter_cons_of_neg (by rw [e]; exact Bool.false_ne_true)]
        simp
    · rintro H3 ⟨s3, hD⟩
      rw [List.length_map, List.take_length] at hD
      have ef : (qs.filter fun q => m.all fun x => decide (x ∈ q.2)).map (·.2) = (qs.map (·.2)).filter fun s => m.all fun x => decide (x ∈ s) := by
        rw [List.filter_map]
        rfl
      refine ⟨D, _, rfl, hD, fun q' mq => s3 _ _ (st q' (List.mem_filter.mp mq).1), Nat.le_trans (List.length_filter_le _ _) ql, fun q' mq => qsh q' (List.mem_filter.mp mq).1, fun p rs H4 s4 hp rt er => ?_⟩
      rw [ef] at er
      exact q p rs H4 (s3.trans s4) hp rt er
/-! minimal_tolerated -/
abbrev sMt : Stmt := top 45
theorem scMt : FnScope pHn pHn (defScope sMt) := ⟨rfl, rfl, rfl, by decide +kernel, rfl, by decide +kernel, by decide +kernel⟩
def spMt (K : PySem.W.Frag) (C : Addr) : Sp := fun vs H Q _ => ∃ (net D e : Addr) (c : Int) (xs : List Str) (rs : Rws) (Fs : List Str), vs = [.ref net, .ref e] ∧ NetAt C H net D c xs rs ∧ NodesAt K H e Fs ∧ (∀ x ∈ Fs, x ∈ xs) ∧ Fs.length ≤ 900 ∧
  ∀ (p : Addr) (qs : List Nset) (H' : Hp), Same H H' → H' p = some (.tup (qs.map fun q => V.ref q.1)) → SetsAt H' qs → qs.map (·.2) = mcL Fs (tolL c xs.length (rs.map (·.1))) → Q (.ref p) H'
theorem tol_len {c n : Int} {ns : List Str} {qs : List Nset} (n8 : ns.length ≤ 8) (e : qs.map (·.2) = tolL c n ns) : qs.length ≤ 256 ∧ ∀ q ∈ qs, q.2 ∈ subs ns ∧ q.2.length ≤ 8 := by
  constructor
  · have e := congrArg List.length e
    rw [List.length_map] at e
    have h1 : (tolL c n ns).length ≤ (srt (subs ns)).length := List.length_filter_le _ _
    rw [srt_len, subs_len] at h1
    have : 2 ^ ns.length ≤ 2 ^ 8 := Nat.pow_le_pow_right (by decide) n8
    omega
  · intro q mq
    have ms : q.2 ∈ tolL c n ns := by rw [← e]; exact List.mem_map.mpr ⟨q, mq, rfl⟩
    have mm := srt_mem.mp (List.mem_filter.mp ms).1
    exact ⟨mm, Nat.le_trans (subs_short mm) n8⟩
theorem ok_mt {f f1 f2 f3 C : Addr} {fd fd1 fd2 fd3 : FuncData} {k : Nat} (F : Fun K "minimal_tolerated" "minimal_tolerated" sMt f fd) (X : Txt K mg C)
    (M1 : Meth K C "check_nodes" f1) (b1 : Binds K fd1 ["self", "names"] []) (G1 : FnOk P w K mg base CX0 k f1 fd1 ["self", "names"] (spCn K C))
    (F2 : Fun K "tolerated_sets" "tolerated_sets" sTs f2 fd2) (b2 : Binds K fd2 ["network"] []) (g2 : mg "tolerated_sets" = some (.ref f2)) (G2 : FnOk P w K mg base CX0 k f2 fd2 ["network"] (spTs C))
    (F3 : Fun K "minimal_containing" "minimal_containing" sMc f3 fd3) (b3 : Binds K fd3 ["sets", "nodes"] []) (g3 : mg "minimal_containing" = some (.ref f3)) (G3 : FnOk P w K mg base CX0 k f3 fd3 ["sets", "nodes"] (spMc K)) : FnOk P w K mg base CX0 (k + 1) f fd pHn (spMt K C) := by
  refine F.ok scMt (fun vs H Q E h => ?_) (fun cdv A outer s H vs Q E hr h => ?_)
  · obtain ⟨net, D, e, c, xs, rs, Fs, rfl, _⟩ := h
    rfl
  · obtain ⟨net, D, e, c, xs, rs, Fs, rfl, N, he, inn, fs9, q⟩ := h
    obtain ⟨dx, hn⟩ := N.ob
    refine ⟨_, pss_cons (ps_expr (pe_meth (pv 0) X.cl M1 G1 hr b1 .nil pass0 (pa_cons (pv 1) pa_nil)))
      (pss_one (ps_ret (pe_call G3 hr (by rfl) g3 F3.kp b3 .nil pass0 (pa_cons (pe_call G2 hr (by rfl) g2 F2.kp b2 .nil pass0 (pa_cons (pv 0) pa_nil)) (pa_cons (pv 1) pa_nil))))), ?_⟩
    have rl := N.fit.len
    have r8 := N.fit.few
    have n8 : (rs.map (·.1)).length ≤ 8 := by rw [List.length_map]; omega
    refine ⟨.ref net, rfl, net, dx, _, rfl, hn, fld_no D (by decide +kernel), .ref e, rfl, net, D, e, c, xs, rs, Fs, rfl, N, he, inn, ?_⟩
    refine ⟨.ref net, rfl, net, D, c, xs, rs, rfl, N, fun p1 qs H1 s1 hp1 st eq => ?_⟩
    obtain ⟨ql, qsh⟩ := tol_len n8 eq
    refine ⟨.ref e, rfl, p1, e, qs, Fs, rfl, hp1, st, by omega, fun q' mq => by have := (qsh q' mq).2; omega, he.same s1, fs9, fun p2 ts H2 s2 hp2 rt er => ?_⟩
    rw [eq] at er
    exact q p2 ts H2 (s1.trans s2) hp2 rt er
end
end Moot
namespace PySem.W
open PySem PySem.Calls PyProof.Rows
section
variable {prog : Program} {w : World} {A : Around} {s : Shared}
/-- one empty tuple alone can be sorted -/
theorem SortsAt.lone {v : Value} {as : List Addr} (r : Reads s.heap v (.tuple []) as) (hu : A.units + 1 < cLine) : SortsAt prog w A s (dataKind s.heap [.tuple []]) [v] := by
  have hal : AllAlike [PyData.tuple []] := by
    intro d hd d' hd'
    rw [List.mem_singleton.mp hd, List.mem_singleton.mp hd']
    rfl
  refine ⟨fun u hv => ?_, tuples' true, ?_, fun h2 => absurd h2 (by simp)⟩
  · rw [List.mem_singleton.mp hv]
    exact ⟨_, dataKind_some hal List.mem_cons_self r⟩
  · intro E x y a b Q ha hb hq
    obtain ⟨d, as, hd, ra, rfl⟩ := dataKind_inv ha
    obtain ⟨d', as', hd', rb, rfl⟩ := dataKind_inv hb
    have e1 := List.mem_singleton.mp hd
    have e2 := List.mem_singleton.mp hd'
    subst e1
    subst e2
    have hq' : Q (dataLt (.tuple []) (.tuple [])) s := hq
    rw [dataLt_tuple] at hq'
    cases ra with
    | @tuple l o xs n _ _ h1 h2 h3 h4 =>
      cases rb with
      | @tuple l' o' xs' n' _ _ k1 k2 k3 k4 =>
        have n1 : xs.size = ([] : List PyData).length := by simpa using SeqAt.ReadsAll.length _ _ _ h4
        have n2 : xs'.size = ([] : List PyData).length := by simpa using SeqAt.ReadsAll.length _ _ _ k4
        exact kat_lt h1 h3 k1 k3 (katLex_alike [] [] 0 _ _ _ _ h4 k4 rfl (by simp [PyData.depthAll]; omega) (fun hb _ x r t ex => by cases ex) (by rw [n1, n2]) hq')
end
end PySem.W
namespace Moot
open PySem PySem.Spec PyProof.Rows L2 PySem.W
def txD (p : Nset) : PyData := .tuple (p.2.map PyData.str)
def txLe : Nset → Nset → Bool := dataLe false txD
theorem alike_txts : ∀ a b : List Str, alikeAll (a.map PyData.str) (b.map PyData.str) = true
  | [], [] => rfl
  | [], _ :: _ => rfl
  | _ :: _, [] => rfl
  | x :: a, y :: b => by
    show alikeAll (.str x :: a.map PyData.str) (.str y :: b.map PyData.str) = true
    have := alike_txts a b
    simpa [alikeAll, alike] using this
theorem tx_alike (p q : Nset) : alike (txD p) (txD q) = true := by
  show alikeAll _ _ = true
  exact alike_txts _ _
section
variable {X : Cx}
/-- sorted(xs), a list of tuples of texts: none of them empty, or one alone -/
def rSortTx (K : PySem.W.Frag) : List V → Hp → VK → Prop := fun vs H Q =>
  ∃ (l : Addr) (ps : List Nset), vs = [.ref l] ∧ SqL K H l (ps.map fun p => V.ref p.1) ∧ (∀ p ∈ ps, H p.1 = some (.tup (p.2.map V.str))) ∧ ps.length ≤ 1000 ∧ ((∀ p ∈ ps, p.2 ≠ []) ∨ ∃ p, ps = [p] ∧ p.2 = []) ∧
    ∀ q, H q = none → Q (.ref q) (upd H q (.lst ((ps.mergeSort txLe).map fun p => V.ref p.1)))
theorem tx_depth (p : Nset) : (txD p).depth ≤ 1 := by
  have go : ∀ l : List Str, PyData.depthAll (l.map PyData.str) = 0 := by
    intro l
    induction l with
    | nil => rfl
    | cons x l ih => simp [PyData.depthAll, PyData.depth, ih]
  show (PyData.tuple (p.2.map PyData.str)).depth ≤ 1
  simp [PyData.depth, go]
theorem cr_sortTx (hu : X.A.units + 64 < cLine) : CallR X (.builtin "sorted") (rSortTx X.K) := by
  intro pins s σ H vs us Q I r h
  obtain ⟨l, ps, rfl, hs, tups, few, kinds, q⟩ := h
  obtain ⟨its, rv, hl, hz⟩ := I.list hs
  obtain ⟨u, rfl, ru⟩ := vals1 r
  obtain rfl : u = Value.ref l := ru
  obtain rfl := vals_refs rv
  have small : ps.length ≤ sizeLine := Nat.le_of_lt (small1000 few)
  have e : EachIs (fun v p => v = Value.ref p.1) (ps.map fun p => Value.ref p.1) ps := by
    have go : ∀ ps : List Nset, EachIs (fun v p => v = Value.ref p.1) (ps.map fun p => Value.ref p.1) ps := by
      intro ps
      induction ps with
      | nil => exact .nil
      | cons p ps ih => exact .cons rfl ih
    exact go ps
  have er : EachIs (fun v p => ∃ as, Reads s.heap v (txD p) as) (ps.map fun p => Value.ref p.1) ps := by
    have go : ∀ ps : List Nset, (∀ p ∈ ps, H p.1 = some (.tup (p.2.map V.str))) → EachIs (fun v p => ∃ as, Reads s.heap v (txD p) as) (ps.map fun p => Value.ref p.1) ps := by
      intro ps
      induction ps with
      | nil => intro _; exact .nil
      | cons p ps ih =>
        intro ht
        exact .cons (Dp.reads I (txD p) (.ref p.1) (.ref p.1) (.tup (SqT.of (ht p List.mem_cons_self)) (dp_txts p.2)) rfl) (ih fun p' m => ht p' (List.mem_cons_of_mem _ m))
    exact go ps tups
  have eo : ∀ {vs : List Value} {qs : List Nset}, EachIs (fun v p => v = Value.ref p.1) vs qs → vs = qs.map fun p => Value.ref p.1 := by
    intro vs qs h
    induction h with
    | nil => rfl
    | cons a _ ih => rw [a, ih]; rfl
  have fin : ∀ out, EachIs (fun v p => v = Value.ref p.1) out (ps.mergeSort txLe) → EP X pins σ Q (.ref (s.heap.objs.size + 1)) { s with heap := sortedAll s.heap (ps.map fun p => Value.ref p.1) (List.toArray out) } := fun out ho => by
    obtain ⟨ep, he'⟩ := PyProof.Rows.sortedAll_at s.heap (ps.map fun p => Value.ref p.1) (List.toArray out)
    have klen : (ps.mergeSort txLe).length = ps.length := (List.mergeSort_perm ps _).length_eq
    refine ⟨.ref _, upd H (s.heap.objs.size + 1) (.lst ((ps.mergeSort txLe).map fun p => V.ref p.1)), I.laid (t' := s.toks) (fun _ _ => PyProof.Rows.sortedAll_old) (Nat.le_succ _) ⟨by rw [List.length_map, klen]; exact small, out, ep, by rw [eo ho]; exact refs_vals _, he'⟩, rfl, q _ (I.hok.fresh (Nat.le_succ _))⟩
  have hal : AllAlike (ps.map txD) := AllAlike.of tx_alike
  rcases kinds with full | ⟨p, rfl, ep⟩
  · have can : Sortable (ps.map txD) := .inl fun d hd => by
      obtain ⟨p, mp, rfl⟩ := List.mem_map.mp hd
      have := full p mp
      cases e2 : p.2 with
      | nil => exact absurd e2 this
      | cons x r => exact ⟨.str x, r.map PyData.str, by show PyData.tuple (p.2.map PyData.str) = _; rw [e2]; rfl⟩
    exact sorted_data hl.isList e er hal can small (fun p _ => by have := tx_depth p; omega) fun out _ ho => fin out ho
  · have er' : EachIs (fun v b => ∃ as, Reads (sortingHeap (copyHeap s.heap [Value.ref p.1]) (s.heap.objs.size + 1) [Value.ref p.1]) v (txD b) as) [Value.ref p.1] [p] := er.mono fun _ _ ⟨as, r⟩ => ⟨as, PyProof.Rows.Reads.keeps (fun _ _ => sorting_copy_old) r⟩
    have et : txD p = .tuple [] := by
      show PyData.tuple (p.2.map PyData.str) = _
      rw [ep]
      rfl
    have S : SortsAt X.prog X.w X.A.in1.in1 { s with heap := sortingHeap (copyHeap s.heap [Value.ref p.1]) (s.heap.objs.size + 1) [Value.ref p.1] } (dataKind (sortingHeap (copyHeap s.heap [Value.ref p.1]) (s.heap.objs.size + 1) [Value.ref p.1]) ([p].map txD)) [Value.ref p.1] := by
      cases er' with
      | cons h _ =>
        obtain ⟨as, r⟩ := h
        rw [et] at r
        show SortsAt _ _ _ _ (dataKind _ [txD p]) _
        rw [et]
        exact SortsAt.lone (s := { s with heap := sortingHeap (copyHeap s.heap [Value.ref p.1]) (s.heap.objs.size + 1) [Value.ref p.1] }) r (by show X.A.units + 1 + 1 + 1 < cLine; omega)
    exact sorted_vals hl.isList S small (fin _ (sortVals_data false e er' hal))
end
end Moot
namespace Moot
open PySem PySem.Spec PyProof.Rows L2
/-! tuples of tuples of texts, as data -/
def setD (s : List Str) : PyData := .tuple (s.map PyData.str)
def setsD (l : List (List Str)) : PyData := .tuple (l.map setD)
theorem eqv_txts : ∀ a b : List Str, PyData.eqvAll (a.map PyData.str) (b.map PyData.str) = decide (a = b)
  | [], [] => by simp [PyData.eqvAll]
  | [], _ :: _ => by simp [PyData.eqvAll]
  | _ :: _, [] => by simp [PyData.eqvAll]
  | x :: a, y :: b => by
    show PyData.eqvAll (.str x :: a.map PyData.str) (.str y :: b.map PyData.str) = _
    rw [PyData.eqvAll, eqv_txts a b, PyData.eqv]
    by_cases h : x = y
    · subst h
      simp
    · simp [h]
theorem eqv_set (a b : List Str) : PyData.eqv (setD a) (setD b) = decide (a = b) := by
  show PyData.eqv (.tuple _) (.tuple _) = _
  rw [PyData.eqv]
  exact eqv_txts a b
theorem eqv_sets : ∀ a b : List (List Str), PyData.eqvAll (a.map setD) (b.map setD) = decide (a = b)
  | [], [] => by simp [PyData.eqvAll]
  | [], _ :: _ => by simp [PyData.eqvAll]
  | _ :: _, [] => by simp [PyData.eqvAll]
  | x :: a, y :: b => by
    show PyData.eqvAll (setD x :: a.map setD) (setD y :: b.map setD) = _
    rw [PyData.eqvAll, eqv_sets a b, eqv_set]
    by_cases h : x = y
    · subst h
      simp
    · simp [h]
theorem lay_txts : ∀ {a : List Str}, (∀ x ∈ a, PyData.strOk x = true) → PyData.canLayAll0 (a.map PyData.str) = true
  | [], _ => rfl
  | x :: a, h => by
    show PyData.canLayAll0 (.str x :: a.map PyData.str) = true
    rw [PyData.canLayAll0, lay_txts fun y m => h y (List.mem_cons_of_mem _ m), PyData.canLay0, h x List.mem_cons_self]
    rfl
theorem lay_sets : ∀ {l : List (List Str)}, (∀ s ∈ l, ∀ x ∈ s, PyData.strOk x = true) → PyData.canLayAll0 (l.map setD) = true
  | [], _ => rfl
  | s :: l, h => by
    show PyData.canLayAll0 (setD s :: l.map setD) = true
    rw [PyData.canLayAll0, lay_sets fun y m => h y (List.mem_cons_of_mem _ m)]
    show (PyData.canLay0 (.tuple _) && true) = true
    rw [PyData.canLay0, lay_txts (h s List.mem_cons_self)]
    rfl
theorem depth_txts : ∀ l : List Str, PyData.depthAll (l.map PyData.str) = 0
  | [] => rfl
  | x :: l => by simp [PyData.depthAll, PyData.depth, depth_txts l]
theorem depth_sets : ∀ l : List (List Str), PyData.depthAll (l.map setD) ≤ 1
  | [] => by simp [PyData.depthAll]
  | s :: l => by
    have := depth_sets l
    simp only [List.map_cons, PyData.depthAll, setD, PyData.depth, depth_txts]
    omega
theorem sh_set {a : List Str} (h : ∀ x ∈ a, PyData.strOk x = true) : SeqAt.shaped (setD a) = true := by
  unfold SeqAt.shaped setD
  rw [PyData.canLay0, lay_txts h, PyData.depth, depth_txts]
  rfl
theorem sh_sets {l : List (List Str)} (h : ∀ s ∈ l, ∀ x ∈ s, PyData.strOk x = true) : SeqAt.shaped (setsD l) = true := by
  unfold SeqAt.shaped setsD
  rw [PyData.canLay0, lay_sets h, PyData.depth]
  have := depth_sets l
  rw [Bool.true_and]
  exact decide_eq_true (by omega)
theorem dp_sets {K : PySem.W.Frag} {H : Hp} : ∀ {qs : List Nset}, SetsAt H qs → DpAll K H (qs.map fun q => V.ref q.1) ((qs.map (·.2)).map setD)
  | [], _ => .nil
  | q :: qs, h => .cons (.tup (SqT.of (h q List.mem_cons_self)) (dp_txts q.2)) (dp_sets fun q' m => h q' (List.mem_cons_of_mem _ m))
theorem dp_all {K : PySem.W.Frag} {H : Hp} {p : Addr} {qs : List Nset} (h : H p = some (.tup (qs.map fun q => V.ref q.1))) (st : SetsAt H qs) : Dp K H (.ref p) (setsD (qs.map (·.2))) := .tup (SqT.of h) (dp_sets st)
def okN (xs : List Str) : Prop := ∀ x ∈ xs, PyData.strOk x = true
/-! what the functions give -/
def fatL (c n : Int) (ns : List Str) : List (List Str) := mins ((srt (subs ns)).filter fun s => decide (mcL s (tolL c n ns) = [ns]))
def grdL (c n : Int) (ns : List Str) : List (List Str) := mins ((srt (subs ns)).filter fun s => met s (fatL c n ns))
section
variable {P : Program} {w : World} {K : PySem.W.Frag} {mg : Str → Option Value} {base : Heap}
/-! check_intersection -/
abbrev sCi : Stmt := top 46
abbrev nCi : List Str := ["network", "found"]
theorem scCi : FnScope nCi ["network"] (defScope sCi) := ⟨rfl, rfl, rfl, by decide +kernel, rfl, by decide +kernel, by decide +kernel⟩
def spCi (C : Addr) : Sp := fun vs H Q _ => ∃ (net D : Addr) (c : Int) (xs : List Str) (rs : Rws), vs = [.ref net] ∧ NetAt C H net D c xs rs ∧ (xs.length : Int) < 2 * c ∧ ∀ H', Same H H' → Q .non H'
theorem ok_ci {f f1 C d : Addr} {fd fd1 : FuncData} {ds : List Value} {k : Nat} (F : Fun K "check_intersection" "check_intersection" sCi f fd)
    (F1 : Fun K "intersection" "intersection" sIt f1 fd1) (b1 : Binds K fd1 ["network", "faulty"] ds) (vd : Vals [.ref d] ds) (hd : ∀ H, SqT K H d []) (g1 : mg "intersection" = some (.ref f1)) (G1 : FnOk P w K mg base CX0 k f1 fd1 ["network", "faulty"] (spIt K C)) : FnOk P w K mg base CX0 (k + 1) f fd ["network"] (spCi C) := by
  refine F.ok scCi (fun vs H Q E h => ?_) (fun cdv A outer s H vs Q E hr h => ?_)
  · obtain ⟨net, D, c, xs, rs, rfl, _⟩ := h
    rfl
  · obtain ⟨net, D, c, xs, rs, rfl, N, big, q⟩ := h
    refine ⟨_, pss_cons (ps_set (i := 1) scCi.nd rfl (Or.inl rfl) (pe_call G1 hr (by rfl) g1 F1.kp b1 vd pass0 (pa_cons (pv 0) pa_nil)))
      (pss_one (ps_if (pt_cmpR op_eq (pe_ix ix_tup (pv 1) pe_int (fun _ _ => rfl)) pe_str (nomark _)) (pss_one ps_never) pss_nil)), ?_⟩
    have fl : Fl xs [] := ⟨List.nodup_nil, fun x m => by cases m⟩
    have hl := hon_len N fl
    have hon := N.hon []
    have r8 := N.fit.few
    refine ⟨.ref net, rfl, net, D, d, c, xs, rs, [], rfl, N, .inr (hd H), fl, fun p H1 s1 R => ?_⟩
    cases hc : cq c 0 17 (honL rs []) (honL rs []) with
    | disj a b =>
      exfalso
      have le := (verdict (c := c) (f := 0) (n := 17) hon.nd (by rw [List.length_nil] at hl; omega)).mp ⟨a, b, hc⟩
      rw [List.length_nil] at hl
      split at le <;> omega
    | crt t =>
      rw [show cq c ([] : List Str).length 17 (honL rs []) (honL rs []) = .crt t from hc] at R
      obtain ⟨p', hp, _⟩ := R
      refine ⟨.ref p, rfl, p, _, 0, .str "intersecting", rfl, rfl, SqT.of hp, atI_nat (j := 0) rfl, rfl, _, rfl, ?_⟩
      exact iteF (q H1 s1)
/-! closure -/
abbrev sCl : Stmt := top 47
theorem scCl : FnScope pHn pHn (defScope sCl) := ⟨rfl, rfl, rfl, by decide +kernel, rfl, by decide +kernel, by decide +kernel⟩
def spCl (K : PySem.W.Frag) (C : Addr) : Sp := fun vs H Q _ => ∃ (net D e : Addr) (c : Int) (xs : List Str) (rs : Rws) (Fs : List Str), vs = [.ref net, .ref e] ∧ NetAt C H net D c xs rs ∧ (xs.length : Int) < 2 * c ∧ NodesAt K H e Fs ∧ (∀ x ∈ Fs, x ∈ xs) ∧ Fs.length ≤ 900 ∧ mcL Fs (tolL c xs.length (rs.map (·.1))) ≠ [] ∧
  ∀ (p : Addr) (H' : Hp) (s : List Str) (r : List (List Str)), Same H H' → H' p = some (.tup (s.map V.str)) → mcL Fs (tolL c xs.length (rs.map (·.1))) = s :: r → Q (.ref p) H'
theorem ok_cl {f f1 f2 f3 C : Addr} {fd fd1 fd2 fd3 : FuncData} {k : Nat} (F : Fun K "closure" "closure" sCl f fd) (X : Txt K mg C)
    (M1 : Meth K C "check_nodes" f1) (b1 : Binds K fd1 ["self", "names"] []) (G1 : FnOk P w K mg base CX0 k f1 fd1 ["self", "names"] (spCn K C))
    (F2 : Fun K "check_intersection" "check_intersection" sCi f2 fd2) (b2 : Binds K fd2 ["network"] []) (g2 : mg "check_intersection" = some (.ref f2)) (G2 : FnOk P w K mg base CX0 k f2 fd2 ["network"] (spCi C))
    (F3 : Fun K "minimal_tolerated" "minimal_tolerated" sMt f3 fd3) (b3 : Binds K fd3 pHn []) (g3 : mg "minimal_tolerated" = some (.ref f3)) (G3 : FnOk P w K mg base CX0 k f3 fd3 pHn (spMt K C)) : FnOk P w K mg base CX0 (k + 1) f fd pHn (spCl K C) := by
  refine F.ok scCl (fun vs H Q E h => ?_) (fun cdv A outer s H vs Q E hr h => ?_)
  · obtain ⟨net, D, e, c, xs, rs, Fs, rfl, _⟩ := h
    rfl
  · obtain ⟨net, D, e, c, xs, rs, Fs, rfl, N, big, he, inn, fs9, ne, q⟩ := h
    obtain ⟨dx, hn⟩ := N.ob
    refine ⟨_, pss_cons (ps_expr (pe_meth (pv 0) X.cl M1 G1 hr b1 .nil pass0 (pa_cons (pv 1) pa_nil)))
      (pss_cons (ps_expr (pe_call G2 hr (by rfl) g2 F2.kp b2 .nil pass0 (pa_cons (pv 0) pa_nil)))
      (pss_one (ps_ret (pe_ix ix_tup (pe_call G3 hr (by rfl) g3 F3.kp b3 .nil pass0 (pa_cons (pv 0) (pa_cons (pv 1) pa_nil))) pe_int (fun _ _ => rfl))))), ?_⟩
    refine ⟨.ref net, rfl, net, dx, _, rfl, hn, fld_no D (by decide +kernel), .ref e, rfl, net, D, e, c, xs, rs, Fs, rfl, N, he, inn, ?_⟩
    refine ⟨.ref net, rfl, net, D, c, xs, rs, rfl, N, big, fun H1 s1 => ?_⟩
    refine ⟨.ref net, rfl, .ref e, rfl, net, D, e, c, xs, rs, Fs, rfl, N.same s1, he.same s1, inn, fs9, fun p qs H2 s2 hp st eq => ?_⟩
    cases qs with
    | nil => exact absurd eq.symm ne
    | cons q0 qs =>
      exact ⟨p, _, 0, .ref q0.1, rfl, rfl, SqT.of hp, atI_nat (j := 0) rfl, q q0.1 H2 q0.2 (qs.map fun (z : Nset) => z.2) (s1.trans s2) (st q0 List.mem_cons_self) eq.symm⟩
end
end Moot
namespace Moot
open PySem PySem.Spec PyProof.Rows L2
theorem mins_in {l : List (List Str)} {s : List Str} (h : s ∈ mins l) : s ∈ l := by
  rcases mins_mem (kept := []) h with z | z
  · cases z
  · exact z
theorem mins_many (l : List (List Str)) : (mins l).length ≤ l.length := by
  have := mins_len l []
  rw [List.length_nil, Nat.zero_add] at this
  exact this
section
variable {P : Program} {w : World} {K : PySem.W.Frag} {mg : Str → Option Value} {base : Heap}
/-! fatal_sets -/
abbrev sFs : Stmt := top 48
abbrev nFs : List Str := ["network", "names", "tolerated", "nodes"]
theorem scFs : FnScope nFs ["network"] (defScope sFs) := ⟨rfl, rfl, rfl, by decide +kernel, rfl, by decide +kernel, by decide +kernel⟩
def spFs (C : Addr) : Sp := fun vs H Q _ => ∃ (net D : Addr) (c : Int) (xs : List Str) (rs : Rws), vs = [.ref net] ∧ NetAt C H net D c xs rs ∧ (xs.length : Int) < 2 * c ∧ okN xs ∧
  ∀ (p : Addr) (qs : List Nset) (H' : Hp), Same H H' → H' p = some (.tup (qs.map fun q => V.ref q.1)) → SetsAt H' qs → qs.map (·.2) = fatL c xs.length (rs.map (·.1)) → Q (.ref p) H'
theorem ok_fs {f f1 f2 f3 f4 f5 f6 C : Addr} {fd fd1 fd2 fd3 fd4 fd5 fd6 : FuncData} {k : Nat} (F : Fun K "fatal_sets" "fatal_sets" sFs f fd) (X : Txt K mg C)
    (F1 : Fun K "check_intersection" "check_intersection" sCi f1 fd1) (b1 : Binds K fd1 ["network"] []) (g1 : mg "check_intersection" = some (.ref f1)) (G1 : FnOk P w K mg base CX0 k f1 fd1 ["network"] (spCi C))
    (M2 : Meth K C "node_names" f2) (b2 : Binds K fd2 ["self"] []) (G2 : FnOk P w K mg base CX0 k f2 fd2 ["self"] (spNn C))
    (F3 : Fun K "tolerated_sets" "tolerated_sets" sTs f3 fd3) (b3 : Binds K fd3 ["network"] []) (g3 : mg "tolerated_sets" = some (.ref f3)) (G3 : FnOk P w K mg base CX0 k f3 fd3 ["network"] (spTs C))
    (FM : Fun K "minimal_sets" "minimal_sets" sMin f4 fd4) (bM : Binds K fd4 ["sets"] []) (gM : mg "minimal_sets" = some (.ref f4)) (GM : FnOk P w K mg base CX0 k f4 fd4 ["sets"] spMin)
    (FS : Fun K "subsets" "subsets" sSub f5 fd5) (bS : Binds K fd5 ["names"] []) (gS : mg "subsets" = some (.ref f5)) (GS : FnOk P w K mg base CX0 k f5 fd5 ["names"] spSub)
    (F6 : Fun K "minimal_containing" "minimal_containing" sMc f6 fd6) (b6 : Binds K fd6 ["sets", "nodes"] []) (g6 : mg "minimal_containing" = some (.ref f6)) (G6 : FnOk P w K mg base CX0 k f6 fd6 ["sets", "nodes"] (spMc K)) : FnOk P w K mg base CX0 (k + 1) f fd ["network"] (spFs C) := by
  refine F.ok scFs (fun vs H Q E h => ?_) (fun cdv A outer s H vs Q E hr h => ?_)
  · obtain ⟨net, D, c, xs, rs, rfl, _⟩ := h
    rfl
  · obtain ⟨net, D, c, xs, rs, rfl, N, big, ok, q⟩ := h
    obtain ⟨dx, hn⟩ := N.ob
    have hu := hr.units
    refine ⟨_, pss_cons (ps_expr (pe_call G1 hr (by rfl) g1 F1.kp b1 .nil pass0 (pa_cons (pv 0) pa_nil)))
      (pss_cons (ps_set (i := 1) scFs.nd rfl (Or.inr rfl) (pe_meth0 (pv 0) X.cl M2 G2 hr b2 .nil pass0))
      (pss_cons (ps_set (i := 2) scFs.nd rfl (Or.inr rfl) (pe_call G3 hr (by rfl) g3 F3.kp b3 .nil pass0 (pa_cons (pv 0) pa_nil)))
      (pss_one (ps_ret (pe_call GM hr (by rfl) gM FM.kp bM .nil pass0 (pa_cons (pe_lc (own := [("nodes", 3)]) (g := gName 3) (by rfl) scFs.nd (pi_tup (pe_call GS hr (by rfl) gS FS.kp bS .nil pass0 (pa_cons (pv 1) pa_nil))) (blkOk_by (N := nFs) (sc := defScope sFs) (by decide +kernel))
        (fun _ _ _ _ _ => pg_name (i := 3) scFs.nd rfl (Or.inl rfl)) (fun _ _ _ _ _ => pts_one (pt_cmpR (show OpR _ (compareOp .Eq) (rEqD K) from op_eqD hu) (pe_call G6 hr (by rfl) g6 F6.kp b6 .nil pass0 (pa_cons (pv 2) (pa_cons (pv 3) pa_nil))) (pe_tup (pa_cons (pv 1) pa_nil)) (by rfl))) (fun _ _ _ _ _ => pv 3)) pa_nil)))))), ?_⟩
    have rl := N.fit.len
    have r8 := N.fit.few
    have n8 : (rs.map (·.1)).length ≤ 8 := by rw [List.length_map]; omega
    have okr : okN (rs.map (·.1)) := fun x m => ok x (N.fit.keys.mem_iff.mp m)
    refine ⟨.ref net, rfl, net, D, c, xs, rs, rfl, N, big, fun H0 s0 => ?_⟩
    have N0 := N.same s0
    obtain ⟨dx0, hn0⟩ := N0.ob
    refine ⟨.ref net, rfl, net, dx0, _, rfl, hn0, fld_no D (by decide +kernel), net, D, c, xs, rs, rfl, N0, fun np H1 s1 np1 hnp => ?_⟩
    refine ⟨.ref net, rfl, net, D, c, xs, rs, rfl, N0.same s1, fun tp ts H2 s2 htp tst teq => ?_⟩
    obtain ⟨tl, tsh⟩ := tol_len n8 teq
    have hnp2 := s2 _ _ hnp
    refine ⟨.ref np, rfl, np, rs.map (·.1), rfl, hnp2, n8, fun sp qs H3 s3 hsp st eq => ?_⟩
    have ql := sets_few n8 eq
    have qs8 := sets_short n8 eq
    have s03 := ((s0.trans s1).trans s2).trans s3
    refine ⟨sp, rfl, ⟨_, SqT.of hsp⟩, fun D' nD => lc_tup (K := K) (a := sp) (xs := qs.map fun q => V.ref q.1) (fun i H4 => Same H3 H4 ∧ H4 D' = some (.lst (((qs.take i).filter fun q => decide (mcL q.2 (tolL c xs.length (rs.map (·.1))) = [rs.map (·.1)])).map fun q => V.ref q.1))) ?_ (fun i H4 _ h => SqT.of (h.1 _ _ hsp)) ?_ ?_⟩
    · exact ⟨same_new nD, upd_same⟩
    · rintro i x H4 hx ⟨s4, hD⟩
      obtain ⟨t, ht, rfl⟩ := ref_at hx
      have mt := List.mem_of_getElem? ht
      have lt := (List.getElem?_eq_some_iff.mp ht).1
      generalize hp : (fun q : Nset => decide (mcL q.2 (tolL c xs.length (rs.map (·.1))) = [rs.map (·.1)])) = pr at hD ⊢
      have tk : (qs.take (i + 1)).filter pr = (qs.take i).filter pr ++ [t].filter pr := by
        rw [List.take_add_one, ht, List.filter_append]
        rfl
      have s34 := s3.trans s4
      refine ⟨rfl, .ref tp, rfl, .ref t.1, rfl, tp, t.1, ts, t.2, rfl, s34 _ _ htp, tst.same s34, by omega, fun q' mq => by have := (tsh q' mq).2; omega, .inr (SqT.of (s4 _ _ (st t mt))), by have := (qs8 t mt).2; omega, fun p5 ms H5 s5 hp5 mst meq => ?_⟩
      refine ⟨.ref np, rfl, by show 1 ≤ sizeLine; decide, fun t6 nt6 => ?_⟩
      have s6 := same_new (o := .tup [.ref np]) nt6
      have ht6 : (upd H5 t6 (.tup [.ref np])) t6 = some (.tup [.ref np]) := upd_same
      generalize upd H5 t6 (.tup [.ref np]) = H6 at s6 ht6 ⊢
      have hnp6 := s6 _ _ (s5 _ _ (s34 _ _ hnp2))
      have s46 := s5.trans s6
      rw [teq] at meq
      refine ⟨setsD (ms.map (·.2)), setsD [rs.map (·.1)], dp_all (s6 _ _ hp5) (mst.same s6), .tup (SqT.of ht6) (.cons (.tup (SqT.of hnp6) (dp_txts _)) .nil), sh_sets ?_, sh_sets ?_, _, rfl, ?_⟩
      · intro s' ms' x mx
        rw [meq] at ms'
        have m1 := (List.mem_filter.mp (mins_in ms')).1
        have m2 := srt_mem.mp (List.mem_filter.mp m1).1
        exact okr x (subs_in m2 x mx)
      · intro s' ms' x mx
        rw [List.mem_singleton.mp ms'] at mx
        exact okr x mx
      have ev : PyData.eqv (setsD (ms.map (·.2))) (setsD [rs.map (·.1)]) = pr t := by
        show PyData.eqv (.tuple _) (.tuple _) = _
        rw [PyData.eqv, eqv_sets, meq, ← hp]
      rw [ev]
      cases e : pr t with
      | true =>
        refine iteT ⟨.ref t.1, rfl, _, s46 _ _ hD, ?_, fun d o eo => ?_, ?_⟩
        · rw [List.length_map]
          refine small1000 (Nat.le_trans (List.length_filter_le _ _) ?_)
          rw [List.length_take]
          omega
        · rw [upd_ne (ne_of_none eo nD)]
          exact s46 _ _ (s4 d o eo)
        · rw [upd_same, tk, List.map_append, List.filter_cons_of_pos (p := pr) e]
          rfl
      | false =>
        refine iteF ⟨s4.trans s46, ?_⟩
        rw [s46 _ _ hD, tk, List.filter_cons_of_neg (by rw [e]; exact Bool.false_ne_true)]
        simp
    · rintro H4 ⟨s4, hD⟩
      rw [List.length_map, List.take_length] at hD
      refine ⟨D', _, rfl, hD, fun q' mq => s4 _ _ (st q' (List.mem_filter.mp mq).1), Nat.le_trans (List.length_filter_le _ _) (by omega), fun q' mq => by have := (qs8 q' (List.mem_filter.mp mq).1).2; omega, fun p rs' H5 s5 hp rt er => ?_⟩
      have ef : (qs.filter fun q => decide (mcL q.2 (tolL c xs.length (rs.map (·.1))) = [rs.map (·.1)])).map (·.2) = (srt (subs (rs.map (·.1)))).filter fun s => decide (mcL s (tolL c xs.length (rs.map (·.1))) = [rs.map (·.1)]) := by
        rw [← eq, List.filter_map]
        rfl
      rw [ef] at er
      exact q p rs' H5 ((s03.trans s4).trans s5) hp rt er
/-! meets_all -/
abbrev sMa : Stmt := top 49
abbrev nMa' : List Str := ["nodes", "sets", "met", "name"]
end
end Moot
namespace Moot
open PySem PySem.Spec PyProof.Rows L2
section
variable {P : Program} {w : World} {K : PySem.W.Frag} {mg : Str → Option Value} {base : Heap}
/-! meets_all -/
def spTest (test : List Str → List (List Str) → Bool) : Sp := fun vs H Q _ => ∃ (sp tp : Addr) (s : List Str) (rs : List Nset), vs = [.ref sp, .ref tp] ∧ H sp = some (.tup (s.map V.str)) ∧ H tp = some (.tup (rs.map fun q => V.ref q.1)) ∧ SetsAt H rs ∧ rs.length ≤ 300 ∧ (∀ r ∈ rs, r.2.length ≤ 900) ∧ ∀ H', Same H H' → Q (.bl (test s (rs.map (·.2)))) H'
abbrev sMet : Stmt := top 49
abbrev nMet : List Str := ["nodes", "sets", "met", "name"]
theorem scMet : FnScope nMet ["nodes", "sets"] (defScope sMet) := ⟨rfl, rfl, rfl, by decide +kernel, rfl, by decide +kernel, by decide +kernel⟩
/-- the scope of the outer comprehension: its own name, the built-in it calls, the name it captures -/
abbrev inner (blt : Str) : Scope := { kind := .function, names := [(".0", .local), ("met", .local), (blt, .globalImplicit), ("nodes", .cell)], isGenerator := false, isCoroutine := false }
abbrev innerer : Scope := { kind := .function, names := [(".0", .local), ("name", .local), ("nodes", .free)], isGenerator := false, isCoroutine := false }
theorem ok_met {f : Addr} {fd : FuncData} {k : Nat} (F : Fun K "meets_all" "meets_all" sMet f fd) (T2 : Blt2 mg) : FnOk P w K mg base CX0 (k + 1) f fd ["nodes", "sets"] (spTest met) := by
  refine F.ok scMet (fun vs H Q E h => ?_) (fun cdv A outer s H vs Q E hr h => ?_)
  · obtain ⟨sp, tp, s, rs, rfl, _⟩ := h
    rfl
  · obtain ⟨sp, tp, ss, rs, rfl, hs, ht, st, few, short, q⟩ := h
    refine ⟨_, pss_one (ps_ret (pe_callB (cr_all rfl) (by rfl) T2.all (by decide +kernel) (pa_cons (pe_lc (own := [("met", 2)]) (g := gName 2) (tt := tYes) (by rfl) scMet.nd (pi_tup (pv 1)) (blkOk_by (N := nMet) (sc := defScope sMet) (by decide +kernel))
      (fun _ _ _ _ _ => pg_name (i := 2) scMet.nd rfl (Or.inl rfl)) (fun _ _ _ _ _ => pts_nil)
      (fun _ _ _ _ _ => pe_callB (show CallR _ (.builtin "any") (rAny K) from cr_any rfl) (by rfl) T2.any (by decide +kernel) (pa_cons (pe_lc (own := [("name", 3)]) (g := gName 3) (tt := tYes) (by rfl) scMet.nd (show PI _ _ _ (iTup K (tVar 2)) from pi_tup (pv 2)) (blkOk_by (N := nMet) (sc := inner "any") (scope := innerer) (own := [("name", 3)]) (by decide +kernel))
        (fun _ _ _ _ _ => pg_name (i := 3) scMet.nd rfl (Or.inl rfl)) (fun _ _ _ _ _ => pts_nil) (fun _ _ _ _ _ => pe_cmpR (show OpR _ (compareOp .In) (rIn K false) from op_in_seq) (pv 3) (pv 0) (by rfl))) pa_nil))) pa_nil))), ?_⟩
    refine ⟨.ref tp, rfl, tp, rfl, ⟨_, SqT.of ht⟩, fun D nD => lc_tup (K := K) (a := tp) (xs := rs.map fun q => V.ref q.1) (fun i H1 => Same H H1 ∧ H1 D = some (.lst (((rs.take i).map fun r => r.2.any fun x => decide (x ∈ ss)).map V.bl))) ?_ (fun i H1 _ h => SqT.of (h.1 _ _ ht)) ?_ ?_⟩
    · exact ⟨same_new nD, upd_same⟩
    · rintro i x H1 hx ⟨s1, hD⟩
      obtain ⟨r, hr0, rfl⟩ := ref_at hx
      have mr := List.mem_of_getElem? hr0
      have lt := (List.getElem?_eq_some_iff.mp hr0).1
      have hrt := s1 _ _ (st r mr)
      refine ⟨rfl, .ref r.1, rfl, r.1, rfl, ⟨_, SqT.of hrt⟩, fun D2 nD2 => lc_tup (K := K) (a := r.1) (xs := r.2.map V.str) (fun j H2 => Same H1 H2 ∧ H2 D2 = some (.lst (((r.2.take j).map fun x => decide (x ∈ ss)).map V.bl))) ?_ (fun j H2 _ h => SqT.of (h.1 _ _ hrt)) ?_ ?_⟩
      · exact ⟨same_new nD2, upd_same⟩
      · rintro j y H2 hy ⟨s2, hD2⟩
        rw [List.getElem?_map] at hy
        obtain ⟨z, hz, rfl⟩ := Option.map_eq_some_iff.mp hy
        have ltz := (List.getElem?_eq_some_iff.mp hz).1
        have r9 := short r mr
        refine ⟨rfl, .str z, rfl, .ref sp, rfl, sp, _, rfl, .inr (SqT.of (s2 _ _ (s1 _ _ hs))), rfl, flats ss, _, hD2, ?_, fun d o e => ?_, ?_⟩
        · rw [List.length_map, List.length_map, List.length_take]
          exact small1000 (by omega)
        · rw [upd_ne (ne_of_none e nD2)]
          exact s2 d o e
        · rw [upd_same, List.take_add_one, hz, List.map_append, List.map_append]
          show some (HO.lst (_ ++ [V.bl (if false = true then _ else inV (.str z) (ss.map V.str))])) = _
          rw [if_neg Bool.false_ne_true, inV_str]
          rfl
      · rintro H2 ⟨s2, hD2⟩
        rw [List.length_map, List.take_length] at hD2
        refine ⟨D2, _, rfl, SqL.of hD2, _, s2 _ _ hD, ?_, fun d o e => ?_, ?_⟩
        · rw [List.length_map, List.length_map, List.length_take]
          exact small1000 (by omega)
        · rw [upd_ne (ne_of_none e nD)]
          exact s2 _ _ (s1 d o e)
        · rw [upd_same, List.take_add_one, hr0, List.map_append, List.map_append, show (r.2.map fun x => decide (x ∈ ss)).any id = r.2.any fun x => decide (x ∈ ss) from by rw [List.any_map]; rfl]
          rfl
    · rintro H1 ⟨s1, hD⟩
      rw [List.length_map, List.take_length] at hD
      refine ⟨D, _, rfl, SqL.of hD, ?_⟩
      have e : (rs.map fun r => r.2.any fun x => decide (x ∈ ss)).all id = met ss (rs.map (·.2)) := by
        unfold met
        rw [List.all_map, List.all_map]
        rfl
      rw [e]
      exact q H1 s1
/-! guardian_sets -/
abbrev sGs : Stmt := top 50
abbrev nGs : List Str := ["network", "fatal", "nodes"]
theorem scGs : FnScope nGs ["network"] (defScope sGs) := ⟨rfl, rfl, rfl, by decide +kernel, rfl, by decide +kernel, by decide +kernel⟩
def spGs (C : Addr) : Sp := fun vs H Q _ => ∃ (net D : Addr) (c : Int) (xs : List Str) (rs : Rws), vs = [.ref net] ∧ NetAt C H net D c xs rs ∧ (xs.length : Int) < 2 * c ∧ okN xs ∧
  ∀ (p : Addr) (qs : List Nset) (H' : Hp), Same H H' → H' p = some (.tup (qs.map fun q => V.ref q.1)) → SetsAt H' qs → qs.map (·.2) = grdL c xs.length (rs.map (·.1)) → Q (.ref p) H'
theorem ok_gs {f f1 f2 f4 f5 f6 C : Addr} {fd fd1 fd2 fd4 fd5 fd6 : FuncData} {k : Nat} (F : Fun K "guardian_sets" "guardian_sets" sGs f fd) (X : Txt K mg C)
    (F1 : Fun K "fatal_sets" "fatal_sets" sFs f1 fd1) (b1 : Binds K fd1 ["network"] []) (g1 : mg "fatal_sets" = some (.ref f1)) (G1 : FnOk P w K mg base CX0 k f1 fd1 ["network"] (spFs C))
    (M2 : Meth K C "node_names" f2) (b2 : Binds K fd2 ["self"] []) (G2 : FnOk P w K mg base CX0 k f2 fd2 ["self"] (spNn C))
    (FM : Fun K "minimal_sets" "minimal_sets" sMin f4 fd4) (bM : Binds K fd4 ["sets"] []) (gM : mg "minimal_sets" = some (.ref f4)) (GM : FnOk P w K mg base CX0 k f4 fd4 ["sets"] spMin)
    (FS : Fun K "subsets" "subsets" sSub f5 fd5) (bS : Binds K fd5 ["names"] []) (gS : mg "subsets" = some (.ref f5)) (GS : FnOk P w K mg base CX0 k f5 fd5 ["names"] spSub)
    (F6 : Fun K "meets_all" "meets_all" sMet f6 fd6) (b6 : Binds K fd6 ["nodes", "sets"] []) (g6 : mg "meets_all" = some (.ref f6)) (G6 : FnOk P w K mg base CX0 k f6 fd6 ["nodes", "sets"] (spTest met)) : FnOk P w K mg base CX0 (k + 1) f fd ["network"] (spGs C) := by
  refine F.ok scGs (fun vs H Q E h => ?_) (fun cdv A outer s H vs Q E hr h => ?_)
  · obtain ⟨net, D, c, xs, rs, rfl, _⟩ := h
    rfl
  · obtain ⟨net, D, c, xs, rs, rfl, N, big, ok, q⟩ := h
    refine ⟨_, pss_cons (ps_set (i := 1) scGs.nd rfl (Or.inr rfl) (pe_call G1 hr (by rfl) g1 F1.kp b1 .nil pass0 (pa_cons (pv 0) pa_nil)))
      (pss_one (ps_ret (pe_call GM hr (by rfl) gM FM.kp bM .nil pass0 (pa_cons (pe_lc (own := [("nodes", 2)]) (g := gName 2) (by rfl) scGs.nd (pi_tup (pe_call GS hr (by rfl) gS FS.kp bS .nil pass0 (pa_cons (pe_meth0 (pv 0) X.cl M2 G2 hr b2 .nil pass0) pa_nil))) (blkOk_by (N := nGs) (sc := defScope sGs) (by decide +kernel))
        (fun _ _ _ _ _ => pg_name (i := 2) scGs.nd rfl (Or.inl rfl)) (fun _ _ _ _ _ => pts_one (pt_val (pe_call G6 hr (by rfl) g6 F6.kp b6 .nil pass0 (pa_cons (pv 2) (pa_cons (pv 1) pa_nil))))) (fun _ _ _ _ _ => pv 2)) pa_nil)))), ?_⟩
    have rl := N.fit.len
    have r8 := N.fit.few
    have n8 : (rs.map (·.1)).length ≤ 8 := by rw [List.length_map]; omega
    refine ⟨.ref net, rfl, net, D, c, xs, rs, rfl, N, big, ok, fun fp fs H0 s0 hfp fst feq => ?_⟩
    have N0 := N.same s0
    obtain ⟨dx0, hn0⟩ := N0.ob
    have fin : ∀ q ∈ fs, q.2 ∈ subs (rs.map (·.1)) := fun q mq => by
      have m0 : q.2 ∈ fatL c xs.length (rs.map (·.1)) := by rw [← feq]; exact List.mem_map.mpr ⟨q, mq, rfl⟩
      exact srt_mem.mp (List.mem_filter.mp (mins_in m0)).1
    have fl : fs.length ≤ 256 := by
      have e := congrArg List.length feq
      rw [List.length_map] at e
      have h1 : (fatL c xs.length (rs.map (·.1))).length ≤ (srt (subs (rs.map (·.1)))).length := Nat.le_trans (mins_many _) (List.length_filter_le _ _)
      rw [srt_len, subs_len] at h1
      have : 2 ^ (rs.map (·.1)).length ≤ 2 ^ 8 := Nat.pow_le_pow_right (by decide) n8
      omega
    refine ⟨.ref net, rfl, net, dx0, _, rfl, hn0, fld_no D (by decide +kernel), net, D, c, xs, rs, rfl, N0, fun np H1 s1 np1 hnp => ?_⟩
    refine ⟨np, rs.map (·.1), rfl, hnp, n8, fun sp qs H3 s3 hsp st eq => ?_⟩
    have ql := sets_few n8 eq
    have qs8 := sets_short n8 eq
    have s03 := (s0.trans s1).trans s3
    have s13 := s1.trans s3
    refine ⟨sp, rfl, ⟨_, SqT.of hsp⟩, fun D' nD => lc_tup (K := K) (a := sp) (xs := qs.map fun q => V.ref q.1) (fun i H4 => Same H3 H4 ∧ H4 D' = some (.lst (((qs.take i).filter fun q => met q.2 (fatL c xs.length (rs.map (·.1)))).map fun q => V.ref q.1))) ?_ (fun i H4 _ h => SqT.of (h.1 _ _ hsp)) ?_ ?_⟩
    · exact ⟨same_new nD, upd_same⟩
    · rintro i x H4 hx ⟨s4, hD⟩
      obtain ⟨t, ht, rfl⟩ := ref_at hx
      have mt := List.mem_of_getElem? ht
      have lt := (List.getElem?_eq_some_iff.mp ht).1
      generalize hp : (fun q : Nset => met q.2 (fatL c xs.length (rs.map (·.1)))) = pr at hD ⊢
      have tk : (qs.take (i + 1)).filter pr = (qs.take i).filter pr ++ [t].filter pr := by
        rw [List.take_add_one, ht, List.filter_append]
        rfl
      refine ⟨rfl, .ref t.1, rfl, .ref fp, rfl, t.1, fp, t.2, fs, rfl, s4 _ _ (st t mt), (s13.trans s4) _ _ hfp, fst.same (s13.trans s4), by omega, fun q' mq => by have := subs_short (fin q' mq); omega, fun H5 s5 => ⟨_, rfl, ?_⟩⟩
      have ev : met t.2 (fs.map (·.2)) = pr t := by rw [feq, ← hp]
      rw [ev]
      cases e : pr t with
      | true =>
        refine iteT ⟨.ref t.1, rfl, _, s5 _ _ hD, ?_, fun d o eo => ?_, ?_⟩
        · rw [List.length_map]
          refine small1000 (Nat.le_trans (List.length_filter_le _ _) ?_)
          rw [List.length_take]
          omega
        · rw [upd_ne (ne_of_none eo nD)]
          exact s5 _ _ (s4 d o eo)
        · rw [upd_same, tk, List.map_append, List.filter_cons_of_pos (p := pr) e]
          rfl
      | false =>
        refine iteF ⟨s4.trans s5, ?_⟩
        rw [s5 _ _ hD, tk, List.filter_cons_of_neg (by rw [e]; exact Bool.false_ne_true)]
        simp
    · rintro H4 ⟨s4, hD⟩
      rw [List.length_map, List.take_length] at hD
      refine ⟨D', _, rfl, hD, fun q' mq => s4 _ _ (st q' (List.mem_filter.mp mq).1), Nat.le_trans (List.length_filter_le _ _) (by omega), fun q' mq => by have := (qs8 q' (List.mem_filter.mp mq).1).2; omega, fun p rs' H5 s5 hp rt er => ?_⟩
      have ef : (qs.filter fun q => met q.2 (fatL c xs.length (rs.map (·.1)))).map (·.2) = (srt (subs (rs.map (·.1)))).filter fun s => met s (fatL c xs.length (rs.map (·.1))) := by
        rw [← eq, List.filter_map]
        rfl
      rw [ef] at er
      exact q p rs' H5 ((s03.trans s4).trans s5) hp rt er
end
end Moot
namespace Moot
open PySem PySem.Spec PyProof.Rows L2
theorem walk_zipT {K : PySem.W.Frag} {a b : Addr} {xs ys : List V} (hl : xs.length = ys.length) : Walk (RZ.ItzT K a b) xs.length (fun H => SqT K H a xs ∧ SqT K H b ys) (YPair (fun i => xs[i]?) (fun i => ys[i]?)) := by
  refine ⟨fun i _ hi q => ?_, fun _ q => ⟨xs, ys, q.1, q.2, .inl (Nat.le_refl _)⟩, fun i H v H' _ q y => ?_⟩
  · have h2 : i < ys.length := by omega
    exact ⟨xs, ys, xs[i], ys[i], q.1, q.2, by simp [hi], by simp [h2]⟩
  · obtain ⟨T, x, z, h1, h2, h3, h4, h5⟩ := y
    exact ⟨T, x, z, h1, h2, h3, h4 xs q.1, h5 ys q.2⟩
theorem tl_yes {K : PySem.W.Frag} : PySem.W.kitAny K (.type "tuple") [.type "tuple", .type "list"] = some true := kitAny_cons (b := true) (kit_ty (by decide +kernel)) (fun h => by cases h) fun _ => rfl
theorem tl_no {K : PySem.W.Frag} : PySem.W.kitAny K (.type "str") [.type "tuple", .type "list"] = some false := kitAny_cons (b := false) (kit_ty (by decide +kernel)) (fun _ => kitAny_cons (b := false) (kit_ty (by decide +kernel)) (fun _ => rfl) fun h => by cases h) fun h => by cases h
theorem tl_cl : Paired ClsV [V.ty "tuple", V.ty "list"] [.type "tuple", .type "list"] := .cons (.ty _) (.cons (.ty _) .nil)
/-- equal and built alike: texts, tuples of such -/
def SmV (H : Hp) : Nat → V → V → Prop
  | 0, _, _ => False
  | n + 1, x, y => (∃ z : Str, x = .str z ∧ y = .str z) ∨ ∃ (a b : Addr) (us vs : List V), x = .ref a ∧ y = .ref b ∧ H a = some (.tup us) ∧ H b = some (.tup vs) ∧ us.length = vs.length ∧ us.length ≤ 300 ∧ ∀ (i : Nat) (u v : V), us[i]? = some u → vs[i]? = some v → SmV H n u v
theorem SmV.same {H H' : Hp} (s : Same H H') : ∀ {n : Nat} {x y : V}, SmV H n x y → SmV H' n x y
  | 0, _, _, h => h
  | n + 1, x, y, h => by
    rcases h with h | ⟨a, b, us, vs, e1, e2, h1, h2, hl, h3, h4⟩
    · exact .inl h
    · exact .inr ⟨a, b, us, vs, e1, e2, s _ _ h1, s _ _ h2, hl, h3, fun i u v eu ev => SmV.same s (h4 i u v eu ev)⟩
theorem all_true' : ∀ l : List V, (l.map fun _ => true).all id = true
  | [] => rfl
  | _ :: l => by
    show (true && (l.map fun _ => true).all id) = true
    rw [all_true' l]
    rfl
section
variable {P : Program} {w : World} {K : PySem.W.Frag} {mg : Str → Option Value} {base : Heap}
/-! _law_same -/
abbrev sSm : Stmt := top 62
abbrev pSm : List Str := ["_law_found", "_law_due"]
abbrev nSm : List Str := ["_law_found", "_law_due", "_law_one", "_law_other"]
theorem scSm : FnScope nSm pSm (defScope sSm) := ⟨rfl, rfl, rfl, by decide +kernel, rfl, by decide +kernel, by decide +kernel⟩
def spSm (n : Nat) : Sp := fun vs H Q _ => ∃ x y, vs = [x, y] ∧ SmV H n x y ∧ ∀ H', Same H H' → Q (.bl true) H'
theorem ok_same {f : Addr} {fd : FuncData} {k n : Nat} (F : Fun K "_law_same" "_law_same" sSm f fd) (b0 : Binds K fd pSm []) (g0 : mg "_law_same" = some (.ref f)) (T : Bq mg) (mz : mg "zip" = none) (G0 : FnOk P w K mg base CX0 k f fd pSm (spSm n)) : FnOk P w K mg base CX0 (k + 1) f fd pSm (spSm (n + 1)) := by
  refine F.ok scSm (fun vs H Q E h => ?_) (fun cdv A outer s H vs Q E hr h => ?_)
  · obtain ⟨x, y, rfl, _⟩ := h
    rfl
  · obtain ⟨x, y, rfl, sm, q⟩ := h
    refine ⟨_, pss_cons (ps_if (pt_val (pe_callB call_isiT (by rfl) T.T.isi (by decide +kernel) (pa_cons (pv 1) (pa_cons (pe_tup (pa_cons (pe_bltn (v := .ty "tuple") (by rfl) T.T.tup (by decide +kernel) rfl) (pa_cons (pe_bltn (v := .ty "list") (by rfl) T.T.lst (by decide +kernel) rfl) pa_nil))) pa_nil))))
        (pss_cons (ps_if (PW.pt (pw_or (pt_not (pt_val (pe_callB call_isiT (by rfl) T.T.isi (by decide +kernel) (pa_cons (pv 0) (pa_cons (pe_tup (pa_cons (pe_bltn (v := .ty "tuple") (by rfl) T.T.tup (by decide +kernel) rfl) (pa_cons (pe_bltn (v := .ty "list") (by rfl) T.T.lst (by decide +kernel) rfl) pa_nil))) pa_nil)))))
            (pw_or1 (pt_cmpR op_ne (pe_callB call_isi (by rfl) T.T.isi (by decide +kernel) (pa_cons (pv 0) (pa_cons (pe_bltn (v := .ty "list") (by rfl) T.T.lst (by decide +kernel) rfl) pa_nil))) (pe_callB call_isi (by rfl) T.T.isi (by decide +kernel) (pa_cons (pv 1) (pa_cons (pe_bltn (v := .ty "list") (by rfl) T.T.lst (by decide +kernel) rfl) pa_nil))) (nomark _))))) (pss_one (ps_ret pe_bl)) pss_nil)
        (pss_one (ps_ret (pe_and (pe_cmpR op_eq (pe_callB call_len_seq (by rfl) T.T.len PySem.boot_len (pa_cons (pv 0) pa_nil)) (pe_callB call_len_seq (by rfl) T.T.len PySem.boot_len (pa_cons (pv 1) pa_nil)) (nomark _))
          (pe_one (pe_callB (cr_all rfl) (by rfl) T.all (by decide +kernel) (pa_cons (pe_lc (own := [("_law_one", 2), ("_law_other", 3)]) (g := gTup K 2 (gCons (gName 2) (gCons (gName 3) gNil))) (tt := tYes) (by rfl) scSm.nd (RZ.pi_zipA (by rfl) mz (pa_cons (pv 0) (pa_cons (pv 1) pa_nil))) (blkOk_by (N := nSm) (sc := defScope sSm) (by decide +kernel))
            (fun _ _ _ _ _ => pg_tup (by rfl) (pgs_cons (pg_name (i := 2) scSm.nd rfl (Or.inl rfl)) (pgs_cons (pg_name (i := 3) scSm.nd rfl (Or.inl rfl)) pgs_nil))) (fun _ _ _ _ _ => pts_nil) (fun _ _ _ _ _ => pe_call G0 hr (by rfl) g0 F.kp b0 .nil pass0 (pa_cons (pv 2) (pa_cons (pv 3) pa_nil)))) pa_nil))))))) pss_nil)
      (pss_one (ps_ret (pe_and (pe_cmpR op_eq (pe_callB call_isi (by rfl) T.T.isi (by decide +kernel) (pa_cons (pv 0) (pa_cons (pe_bltn (v := .ty "bool") (by rfl) T.T.bool (by decide +kernel) rfl) pa_nil))) (pe_callB call_isi (by rfl) T.T.isi (by decide +kernel) (pa_cons (pv 1) (pa_cons (pe_bltn (v := .ty "bool") (by rfl) T.T.bool (by decide +kernel) rfl) pa_nil))) (nomark _))
        (pe_one (pe_cmpR op_eq (pv 0) (pv 1) (nomark _)))))), ?_⟩
    rcases sm with ⟨z, rfl, rfl⟩ | ⟨a, b, us, vs, rfl, rfl, ha, hb, hl, l3, items⟩
    · refine ⟨.str z, rfl, by show 2 ≤ sizeLine; decide, fun t nt => ?_⟩
      have s1 := same_new (o := .tup [.ty "tuple", .ty "list"]) nt
      have ht : (upd H t (.tup [.ty "tuple", .ty "list"])) t = some (.tup [.ty "tuple", .ty "list"]) := upd_same
      generalize upd H t (.tup [.ty "tuple", .ty "list"]) = H1 at s1 ht ⊢
      refine ⟨_, t, _, .type "str", _, false, rfl, ht, tl_cl, .base (.str z), tl_no, _, rfl, iteF ?_⟩
      refine ⟨.str z, rfl, _, _, .type "str", .type "bool", false, rfl, .ty _, .base (.str z), kit_ty (r := false) (by decide +kernel), .str z, rfl, _, _, .type "str", .type "bool", false, rfl, .ty _, .base (.str z), kit_ty (r := false) (by decide +kernel), rfl, _, rfl, ?_⟩
      refine iteT ⟨.str z, rfl, .str z, rfl, rfl, ?_⟩
      rw [decide_eq_true rfl]
      exact q H1 s1
    · refine ⟨.ref b, rfl, by show 2 ≤ sizeLine; decide, fun t nt => ?_⟩
      have s1 := same_new (o := .tup [.ty "tuple", .ty "list"]) nt
      have ht : (upd H t (.tup [.ty "tuple", .ty "list"])) t = some (.tup [.ty "tuple", .ty "list"]) := upd_same
      generalize upd H t (.tup [.ty "tuple", .ty "list"]) = H1 at s1 ht ⊢
      refine ⟨_, t, _, .type "tuple", _, true, rfl, ht, tl_cl, .base (.tup (s1 _ _ hb)), tl_yes, _, rfl, iteT ?_⟩
      refine ⟨.ref a, rfl, by show 2 ≤ sizeLine; decide, fun t2 nt2 => ?_⟩
      have s2 := same_new (o := .tup [.ty "tuple", .ty "list"]) nt2
      have ht2 : (upd H1 t2 (.tup [.ty "tuple", .ty "list"])) t2 = some (.tup [.ty "tuple", .ty "list"]) := upd_same
      generalize upd H1 t2 (.tup [.ty "tuple", .ty "list"]) = H2 at s2 ht2 ⊢
      have s02 := s1.trans s2
      have ha2 := s02 _ _ ha
      have hb2 := s02 _ _ hb
      refine ⟨_, t2, _, .type "tuple", _, true, rfl, ht2, tl_cl, .base (.tup ha2), tl_yes, _, rfl, iteF ?_⟩
      refine ⟨.ref a, rfl, _, _, .type "tuple", .type "list", false, rfl, .ty _, .base (.tup ha2), kit_ty (r := false) (by decide +kernel), .ref b, rfl, _, _, .type "tuple", .type "list", false, rfl, .ty _, .base (.tup hb2), kit_ty (r := false) (by decide +kernel), rfl, _, rfl, ?_⟩
      refine iteF ?_
      refine ⟨.ref a, rfl, a, _, rfl, .inr (SqT.of ha2), .ref b, rfl, b, _, rfl, .inr (SqT.of hb2), rfl, _, rfl, ?_⟩
      rw [decide_eq_true (by rw [hl])]
      refine iteT ?_
      refine ⟨.ref a, rfl, .ref b, rfl, a, b, us, vs, rfl, .inr ⟨SqT.of ha2, SqT.of hb2, fun D nD => ?_⟩⟩
      refine lc_it (walk_zipT (K := K) (a := a) (b := b) (xs := us) (ys := vs) hl) (fun i H3 => Same H2 H3 ∧ H3 D = some (.lst (((us.take i).map fun _ => true).map V.bl))) ⟨same_new nD, upd_same⟩ (fun i H3 _ h => ⟨SqT.of (h.1 _ _ ha2), SqT.of (h.1 _ _ hb2)⟩) ?_ ?_
      · rintro i x H3 H4 hi ⟨s3, hD⟩ ⟨Tt, u, v, rfl, nT, rfl, eu, ev⟩
        have tk : us.take (i + 1) = us.take i ++ [u] := by
          rw [List.take_add_one, show us[i]? = some u from eu]
          rfl
        have s4 := same_new (o := .tup [u, v]) nT
        have hT : (upd H3 Tt (.tup [u, v])) Tt = some (.tup [u, v]) := upd_same
        generalize upd H3 Tt (.tup [u, v]) = H4 at s4 hT ⊢
        refine ⟨Tt, [u, v], rfl, SqT.of hT, rfl, u, [v], rfl, v, [], rfl, rfl, rfl, u, rfl, v, rfl, u, v, rfl, SmV.same ((s02.trans s3).trans s4) (items i u v eu ev), fun H5 s5 => ⟨_, s5 _ _ (s4 _ _ hD), ?_, fun d o eb => ?_, ?_⟩⟩
        · rw [List.length_map, List.length_map, List.length_take]
          exact small1000 (by omega)
        · rw [upd_ne (ne_of_none eb nD)]
          exact s5 _ _ (s4 _ _ (s3 d o eb))
        · rw [upd_same, tk, List.map_append, List.map_append]
          rfl
      · rintro H3 ⟨s3, hD⟩
        refine ⟨D, _, rfl, SqL.of hD, ?_⟩
        rw [all_true']
        exact q H3 (s02.trans s3)
end
end Moot
namespace Moot
open PySem PySem.Spec PyProof.Rows L2
/-! the sets of one size -/
def sized (m : Nat) (ns : List Str) : List (List Str) := (srt (subs ns)).filter fun s => decide (s.length = m)
abbrev tLe : List Str → List Str → Bool := PySem.W.dataLe false setD
theorem kLe_tLe {a b : List Str} (h : a.length = b.length) : kLe a b = tLe a b := by
  show PySem.W.dataLe false keyD a b = PySem.W.dataLe false setD a b
  rw [PySem.W.dataLe_eq, PySem.W.dataLe_eq]
  show (!PySem.W.dataLt (keyD b) (keyD a)) = (!PySem.W.dataLt (setD b) (setD a))
  have al : PySem.W.alike (setD b) (setD a) = true := by
    show PySem.W.alikeAll _ _ = true
    exact alike_txts _ _
  show (!PySem.W.dataLt (.tuple [.int b.length, setD b]) (.tuple [.int a.length, setD a])) = _
  rw [PySem.W.dataLt_pair rfl al, h, if_pos (by simp [PyData.eqv]), eqv_set]
  by_cases e : b = a
  · subst e
    rw [if_pos (by simp)]
    have : PySem.W.dataLt (setD b) (setD b) = false := by
      unfold PySem.W.dataLt
      exact PyProof.Rows.lex_irrefl _
    rw [this]
  · rw [if_neg (by simpa using e)]
theorem sub_len_le {ns : List Str} : ∀ {s}, s ∈ subs ns → s.length ≤ ns.length := fun h => subs_short h
theorem subs_srt_nodup {ns : List Str} (nd : ns.Nodup) : (srt (subs ns)).Nodup := (List.mergeSort_perm (subs ns) _).nodup_iff.mpr (subs_nodup nd)
theorem srt_filter {ns : List Str} (nd : ns.Nodup) (p : List Str → Bool) : srt ((subs ns).filter p) = (srt (subs ns)).filter p := by
  refine List.Perm.eq_of_pairwise (le := fun a b => kLe a b = true) (fun a b _ _ h1 h2 => kLe_anti h1 h2) (srt_pairs _) ((srt_pairs _).sublist List.filter_sublist) ?_
  refine (List.perm_ext_iff_of_nodup ((List.mergeSort_perm _ _).nodup_iff.mpr ((subs_nodup nd).filter _)) ((subs_srt_nodup nd).filter _)).mpr fun s => ?_
  show s ∈ srt ((subs ns).filter p) ↔ _
  rw [srt_mem, List.mem_filter, List.mem_filter, srt_mem]
/-- sorted as tuples: the same as by size and tuple -/
theorem sized_sort {ns : List Str} (nd : ns.Nodup) (m : Nat) : ((subs ns).filter fun s => decide (s.length = m)).mergeSort tLe = sized m ns := by
  have len : ∀ {s : List Str}, s ∈ (subs ns).filter (fun s => decide (s.length = m)) → s.length = m := fun h => of_decide_eq_true (List.mem_filter.mp h).2
  have e : ((subs ns).filter fun s => decide (s.length = m)).mergeSort tLe = srt ((subs ns).filter fun s => decide (s.length = m)) := by
    refine List.Perm.eq_of_pairwise (le := fun a b => kLe a b = true) (fun a b _ _ h1 h2 => kLe_anti h1 h2) ?_ (srt_pairs _) ((List.mergeSort_perm _ _).trans (List.mergeSort_perm _ _).symm)
    have pw : (((subs ns).filter fun s => decide (s.length = m)).mergeSort tLe).Pairwise fun a b => tLe a b = true := by
      have T := PySem.W.sortLe_total (listOrd itemOrd) false fun b : List Str => PySem.W.keyToks (setD b)
      exact List.pairwise_mergeSort (le := tLe) (fun a b c h1 h2 => T.trans a b c h1 h2) (fun a b => Bool.or_eq_true_iff.mpr (T.total a b)) _
    refine List.Pairwise.imp_of_mem (fun {a b} ma mb h => ?_) pw
    rw [kLe_tLe ((len ((List.mergeSort_perm _ _).mem_iff.mp ma)).trans (len ((List.mergeSort_perm _ _).mem_iff.mp mb)).symm)]
    exact h
  rw [e, srt_filter nd]
  rfl
/-! by sizes -/
theorem srt_lens (l : List (List Str)) : (srt l).Pairwise fun a b => a.length ≤ b.length := (srt_pairs l).imp fun h => kLe_len h
theorem cut_size {l : List (List Str)} (h : l.Pairwise fun a b => a.length ≤ b.length) (P : Nat → Bool) (m : Nat) :
    l.filter (fun s => decide (s.length < m + 1) && P s.length) = l.filter (fun s => decide (s.length < m) && P s.length) ++ if P m = true then l.filter (fun s => decide (s.length = m)) else [] := by
  induction l with
  | nil => simp
  | cons x l ih =>
    obtain ⟨hx, hl⟩ := List.pairwise_cons.mp h
    have ih := ih hl
    rcases Nat.lt_trichotomy x.length m with c | c | c
    · rw [List.filter_cons, List.filter_cons, ih]
      rw [show decide (x.length < m + 1) = true from decide_eq_true (by omega), show decide (x.length < m) = true from decide_eq_true c]
      have e : (x :: l).filter (fun s => decide (s.length = m)) = l.filter (fun s => decide (s.length = m)) := List.filter_cons_of_neg (by simp; omega)
      rw [e]
      cases P x.length <;> simp
    · have none : l.filter (fun s => decide (s.length < m) && P s.length) = [] := List.filter_eq_nil_iff.mpr fun y my => by
        have := hx y my
        simp
        intro z
        omega
      rw [none] at ih
      have e2 : (x :: l).filter (fun s => decide (s.length < m) && P s.length) = [] := by
        rw [List.filter_cons_of_neg (by simp; intro z; omega), none]
      rw [e2, List.filter_cons, ih, show decide (x.length < m + 1) = true from decide_eq_true (by omega), c]
      have e3 : (x :: l).filter (fun s => decide (s.length = m)) = x :: l.filter (fun s => decide (s.length = m)) := List.filter_cons_of_pos (by simpa using c)
      rw [e3]
      cases P m <;> simp
    · have bigs : ∀ y ∈ x :: l, m < y.length := fun y my => by
        rcases List.mem_cons.mp my with e | e
        · rw [e]; exact c
        · have := hx y e
          omega
      have z1 : (x :: l).filter (fun s => decide (s.length < m + 1) && P s.length) = [] := List.filter_eq_nil_iff.mpr fun y my => by
        have := bigs y my
        simp
        intro z
        omega
      have z2 : (x :: l).filter (fun s => decide (s.length < m) && P s.length) = [] := List.filter_eq_nil_iff.mpr fun y my => by
        have := bigs y my
        simp
        intro z
        omega
      have z3 : (x :: l).filter (fun s => decide (s.length = m)) = [] := List.filter_eq_nil_iff.mpr fun y my => by
        have := bigs y my
        simp
        omega
      rw [z1, z2, z3]
      simp
/-- what the law lays together, size by size -/
def upTo (c n : Int) (ns : List Str) (m : Nat) : List (List Str) := (srt (subs ns)).filter fun s => decide (s.length < m) && decide (tword c n s.length = "tolerated")
theorem upTo_zero (c n : Int) (ns : List Str) : upTo c n ns 0 = [] := List.filter_eq_nil_iff.mpr fun y _ => by simp
theorem upTo_succ (c n : Int) (ns : List Str) (m : Nat) : upTo c n ns (m + 1) = upTo c n ns m ++ if decide (tword c n m = "tolerated") = true then sized m ns else [] :=
  cut_size (srt_lens _) (fun k => decide (tword c n k = "tolerated")) m
theorem upTo_all (c n : Int) (ns : List Str) : upTo c n ns (ns.length + 1) = tolL c n ns := by
  unfold upTo tolL
  refine List.filter_congr fun s ms => ?_
  have := subs_short (srt_mem.mp ms)
  rw [decide_eq_true (by omega : s.length < ns.length + 1), Bool.true_and]
  rfl
/-! the majority: who is tolerated -/
theorem tw_most {c n f : Int} (c1 : 1 ≤ c) (cn : c ≤ n) (big : n < 2 * c) (f0 : 0 ≤ f) (fn : f ≤ n) : tword c n f = "tolerated" ↔ f ≤ (if 2 * c - n - 1 < n - c then 2 * c - n - 1 else n - c) ∨ f = n := by
  unfold tword
  by_cases d : 0 < n - f ∧ n - f < c
  · rw [if_pos d]
    constructor
    · intro h
      exact absurd h (by decide +kernel)
    · rintro h
      exfalso
      split at h <;> omega
  · rw [if_neg d]
    by_cases g : 2 * (if c - f > 1 then c - f else 1) ≤ n - f
    · rw [if_pos g]
      constructor
      · intro h
        exact absurd h (by decide +kernel)
      · intro h
        exfalso
        split at g <;> split at h <;> omega
    · rw [if_neg g]
      refine ⟨fun _ => ?_, fun _ => rfl⟩
      split at g <;> split <;> omega
end Moot
namespace Moot
open PySem PySem.Spec PyProof.Rows L2
theorem fillN {s h : List Str} (ns : s.Nodup) (nh : h.Nodup) (sub : ∀ x ∈ s, x ∈ h) (le : h.length ≤ s.length) : ∀ x ∈ h, x ∈ s := fun g mg => by
  by_cases c : g ∈ s
  · exact c
  · exfalso
    have := nd_len (g :: s) h (List.nodup_cons.mpr ⟨c, ns⟩) fun y my => by
      rcases List.mem_cons.mp my with e | e
      · rw [e]; exact mg
      · exact sub y e
    rw [List.length_cons] at this
    omega
theorem mins_stay {s : List Str} : ∀ {r : List (List Str)}, (∀ x ∈ r, ∀ y ∈ s, y ∈ x) → r.foldl minStep [s] = [s]
  | [], _ => rfl
  | x :: r, h => by
    show r.foldl minStep (minStep [s] x) = [s]
    have e : minStep [s] x = [s] := by
      unfold minStep
      rw [if_pos]
      rw [List.any_cons]
      have : (s.all fun y => decide (y ∈ x)) = true := List.all_eq_true.mpr fun y my => decide_eq_true (h x List.mem_cons_self y my)
      rw [this]
      rfl
    rw [e]
    exact mins_stay fun x m => h x (List.mem_cons_of_mem _ m)
theorem mins_lone {ns : List Str} (nd : ns.Nodup) {l : List (List Str)} {s : List Str} (hs : s ∈ l) (all : ∀ x ∈ l, ∀ y ∈ s, y ∈ x) (pw : l.Pairwise fun a b => a.length ≤ b.length) (inS : ∀ x ∈ l, x ∈ subs ns) : mins l = [s] := by
  cases l with
  | nil => cases hs
  | cons h r =>
    have e : h = s := by
      rcases List.mem_cons.mp hs with e | m
      · exact e.symm
      · have le := (List.pairwise_cons.mp pw).1 s m
        have ih := inS h List.mem_cons_self
        have is := inS s hs
        exact (sub_one nd is ih fun x => ⟨fun mx => all h List.mem_cons_self x mx, fun mx => fillN (sub_nodup nd is) (sub_nodup nd ih) (all h List.mem_cons_self) le x mx⟩).symm
    subst e
    show r.foldl minStep (minStep [] h) = [h]
    have e0 : minStep [] h = [h] := rfl
    rw [e0]
    exact mins_stay fun x m => all x (List.mem_cons_of_mem _ m)
theorem self_sub (ns : List Str) : ns ∈ subs ns := by
  have := subs_filter (fun _ => true) ns
  rwa [List.filter_eq_self.mpr fun _ _ => rfl] at this
structure Maj (c : Int) (ns : List Str) (t : Nat) : Prop where
  nd : ns.Nodup
  tn : t < ns.length
  tol : ∀ s ∈ subs ns, tolP c ns.length s = true ↔ s.length ≤ t ∨ s.length = ns.length
theorem Maj.low {c : Int} {ns : List Str} {t : Nat} (M : Maj c ns t) {s : List Str} (hs : s ∈ subs ns) (h : s.length ≤ t) : mcL s (tolL c ns.length ns) = [s] := by
  unfold mcL
  refine mins_lone M.nd ?_ ?_ ?_ ?_
  · exact List.mem_filter.mpr ⟨List.mem_filter.mpr ⟨srt_mem.mpr hs, (M.tol s hs).mpr (.inl h)⟩, List.all_eq_true.mpr fun x mx => decide_eq_true mx⟩
  · intro x mx y my
    exact of_decide_eq_true (List.all_eq_true.mp (List.mem_filter.mp mx).2 y my)
  · exact (srt_lens _).sublist (List.filter_sublist.trans List.filter_sublist)
  · exact fun x mx => srt_mem.mp (List.mem_filter.mp (List.mem_filter.mp mx).1).1
theorem Maj.high {c : Int} {ns : List Str} {t : Nat} (M : Maj c ns t) {s : List Str} (hs : s ∈ subs ns) (h : t < s.length) : mcL s (tolL c ns.length ns) = [ns] := by
  unfold mcL
  have self := self_sub ns
  refine mins_lone M.nd ?_ ?_ ?_ ?_
  · exact List.mem_filter.mpr ⟨List.mem_filter.mpr ⟨srt_mem.mpr self, (M.tol ns self).mpr (.inr rfl)⟩, List.all_eq_true.mpr fun x mx => decide_eq_true (subs_in hs x mx)⟩
  · intro x mx
    obtain ⟨m1, m2⟩ := List.mem_filter.mp mx
    obtain ⟨m3, m4⟩ := List.mem_filter.mp m1
    have ix := srt_mem.mp m3
    have sx : ∀ y ∈ s, y ∈ x := fun y my => of_decide_eq_true (List.all_eq_true.mp m2 y my)
    have le := nd_len s x (sub_nodup M.nd hs) sx
    rcases (M.tol x ix).mp m4 with e | e
    · omega
    · exact fillN (sub_nodup M.nd ix) M.nd (subs_in ix) (by omega)
  · exact (srt_lens _).sublist (List.filter_sublist.trans List.filter_sublist)
  · exact fun x mx => srt_mem.mp (List.mem_filter.mp (List.mem_filter.mp mx).1).1
theorem drop_one {s : List Str} {g : Str} (nd : s.Nodup) (h : g ∈ s) : (s.filter fun x => decide (x ≠ g)).length + 1 = s.length := by
  have a := filter_lt h
  have b := nd_len s (g :: s.filter fun x => decide (x ≠ g)) nd fun y my => by
    by_cases e : y = g
    · rw [e]; exact List.mem_cons_self
    · exact List.mem_cons_of_mem _ (List.mem_filter.mpr ⟨my, decide_eq_true e⟩)
  rw [List.length_cons] at b
  omega
theorem mins_size {ns : List Str} (nd : ns.Nodup) {m : Nat} (m1 : 1 ≤ m) : mins ((srt (subs ns)).filter fun s => decide (m ≤ s.length)) = sized m ns := by
  rw [kept_is nd (p := fun s => decide (m ≤ s.length)) fun s hs t ht sub h => decide_eq_true (Nat.le_trans (of_decide_eq_true h) (nd_len s t (sub_nodup nd hs) sub)), srt_filter nd]
  unfold sized
  refine List.filter_congr fun s ms => ?_
  have hs := srt_mem.mp ms
  have nS := sub_nodup nd hs
  rw [Bool.eq_iff_iff, minimal_iff, decide_eq_true_iff, decide_eq_true_iff]
  constructor
  · rintro ⟨h1, h2⟩
    cases e : s with
    | nil =>
      rw [e, List.length_nil] at h1
      omega
    | cons g r =>
      have mg : g ∈ s := by rw [e]; exact List.mem_cons_self
      have k := of_decide_eq_false (h2 g mg)
      have := drop_one nS mg
      rw [← e]
      omega
  · intro h
    refine ⟨by omega, fun g mg => decide_eq_false ?_⟩
    have := drop_one nS mg
    omega
theorem Maj.fatal {c : Int} {ns : List Str} {t : Nat} (M : Maj c ns t) : fatL c ns.length ns = sized (t + 1) ns := by
  unfold fatL
  rw [← mins_size M.nd (Nat.le_add_left 1 t)]
  congr 1
  refine List.filter_congr fun s ms => ?_
  have hs := srt_mem.mp ms
  rw [Bool.eq_iff_iff, decide_eq_true_iff, decide_eq_true_iff]
  by_cases h : s.length ≤ t
  · rw [M.low hs h]
    constructor
    · intro e
      have e2 : s = ns := (List.cons.inj e).1
      rw [e2] at h
      have := M.tn
      omega
    · intro k
      omega
  · rw [M.high hs (by omega)]
    exact ⟨fun _ => by omega, fun _ => rfl⟩
theorem take_own {C : List Str} (nd : C.Nodup) (k : Nat) : C.filter (fun x => decide (x ∈ C.take k)) = C.take k := by
  have nd2 := nd
  rw [← List.take_append_drop k C] at nd2
  obtain ⟨_, _, dj⟩ := List.nodup_append.mp nd2
  have e : C.filter (fun x => decide (x ∈ C.take k)) = (C.take k ++ C.drop k).filter (fun x => decide (x ∈ C.take k)) := by rw [List.take_append_drop]
  rw [e, List.filter_append, List.filter_eq_self.mpr fun x m => decide_eq_true m, List.filter_eq_nil_iff.mpr fun x m => by simpa using fun z => dj x z x m rfl, List.append_nil]
theorem out_len {ns s : List Str} (nd : ns.Nodup) (nS : s.Nodup) (sub : ∀ x ∈ s, x ∈ ns) : (ns.filter fun x => decide (x ∉ s)).length + s.length = ns.length := by
  have e1 := cnt_len nd nS sub
  have e2 : (ns.filter fun x => decide (x ∉ s)).length + cnt ns s = ns.length := by
    unfold cnt
    rw [← List.countP_eq_length_filter, List.length_eq_countP_add_countP (fun x => decide (x ∈ s)) (l := ns), Nat.add_comm]
    congr 1
    exact List.countP_congr fun x _ => by simp
  omega
theorem Maj.guard {c : Int} {ns : List Str} {t : Nat} (M : Maj c ns t) : grdL c ns.length ns = sized (ns.length - t) ns := by
  have tn := M.tn
  unfold grdL
  rw [← mins_size M.nd (by omega : 1 ≤ ns.length - t), M.fatal]
  congr 1
  refine List.filter_congr fun s ms => ?_
  have hs := srt_mem.mp ms
  have nS := sub_nodup M.nd hs
  have ol := out_len M.nd nS (subs_in hs)
  rw [Bool.eq_iff_iff, decide_eq_true_iff]
  unfold met
  rw [List.all_eq_true]
  constructor
  · intro h
    by_cases k : ns.length - t ≤ s.length
    · exact k
    · exfalso
      have cs : (ns.filter fun x => decide (x ∉ s)) ∈ subs ns := subs_filter _ ns
      have nC : (ns.filter fun x => decide (x ∉ s)).Nodup := M.nd.filter _
      have us : (ns.filter fun x => decide (x ∉ s)).take (t + 1) ∈ subs ns := by
        rw [← take_own nC (t + 1)]
        exact sub_filter M.nd cs _
      have ul : ((ns.filter fun x => decide (x ∉ s)).take (t + 1)).length = t + 1 := by
        rw [List.length_take]
        omega
      have := h _ (List.mem_filter.mpr ⟨srt_mem.mpr us, decide_eq_true ul⟩)
      obtain ⟨x, mx, hx⟩ := List.any_eq_true.mp this
      exact of_decide_eq_true (List.mem_filter.mp (List.mem_of_mem_take mx)).2 (of_decide_eq_true hx)
  · intro h m mm
    obtain ⟨m1, m2⟩ := List.mem_filter.mp mm
    have im := srt_mem.mp m1
    have lm := of_decide_eq_true m2
    cases e : m.any fun x => decide (x ∈ s) with
    | true => rfl
    | false =>
      exfalso
      have no := List.any_eq_false.mp e
      have := nd_len (m ++ s) ns (List.nodup_append.mpr ⟨sub_nodup M.nd im, nS, fun a ma b mb z => no a ma (decide_eq_true (z ▸ mb))⟩) fun y my => (List.mem_append.mp my).elim (subs_in im y) (subs_in hs y)
      rw [List.length_append] at this
      omega
end Moot
namespace Moot
open PySem PySem.Spec PyProof.Rows L2
abbrev rTupOf (K : PySem.W.Frag) : List V → Hp → VK → Prop := fun xs H Q => ∃ p ys, xs = [.ref p] ∧ ((SqL K H p ys ∧ ∀ l, H l = none → Q (.ref l) (upd H l (.tup ys))) ∨ (SqT K H p ys ∧ Q (.ref p) H))
abbrev rLn (K : PySem.W.Frag) : List V → Hp → VK → Prop := fun xs H Q => ∃ p ys, xs = [.ref p] ∧ (SqL K H p ys ∨ SqT K H p ys) ∧ Q (.int ys.length) H
theorem lone_of {l : List (List Str)} {a : List Str} (nd : l.Nodup) (h : ∀ x ∈ l, x = a) (m : a ∈ l) : l = [a] := by
  cases l with
  | nil => cases m
  | cons x r =>
    have ex := h x List.mem_cons_self
    subst ex
    cases r with
    | nil => rfl
    | cons y r =>
      exfalso
      have ey := h y (List.mem_cons_of_mem _ List.mem_cons_self)
      subst ey
      exact (List.nodup_cons.mp nd).1 List.mem_cons_self
theorem tx_map (ps : List Nset) : (ps.mergeSort txLe).map (·.2) = (ps.map (·.2)).mergeSort tLe := List.map_mergeSort fun a _ b _ => rfl
theorem perm_sets {H : Hp} {ps qs : List Nset} (h : SetsAt H ps) (p : qs.Perm ps) : SetsAt H qs := fun q m => h q (p.mem_iff.mp m)
section
variable {P : Program} {w : World} {K : PySem.W.Frag} {mg : Str → Option Value} {base : Heap}
/-! _law_choices -/
abbrev sCh : Stmt := top 63
abbrev pCh : List Str := ["_law_names_here", "_law_many"]
abbrev nCh : List Str := ["_law_names_here", "_law_many", "_law_some"]
theorem scCh : FnScope nCh pCh (defScope sCh) := ⟨rfl, rfl, rfl, by decide +kernel, rfl, by decide +kernel, by decide +kernel⟩
def spCh : Sp := fun vs H Q _ => ∃ (a : Addr) (m : Nat) (xs : List Str), vs = [.ref a, .int (m : Int)] ∧ H a = some (.lst (xs.map V.str)) ∧ xs.Nodup ∧ xs.length ≤ 8 ∧
  ∀ (p : Addr) (qs : List Nset) (ys : List Str) (H' : Hp), Same H H' → H' p = some (.tup (qs.map fun q => V.ref q.1)) → SetsAt H' qs → ys.Perm xs → Srt ys → qs.map (·.2) = sized m ys → Q (.ref p) H'
theorem ok_choices {f f1 : Addr} {fd fd1 : FuncData} {k : Nat} (F : Fun K "_law_choices" "_law_choices" sCh f fd) (T : Bq mg)
    (F1 : Fun K "_law_subsets" "_law_subsets" sLsub f1 fd1) (b1 : Binds K fd1 ["_law_names_here"] []) (g1 : mg "_law_subsets" = some (.ref f1)) (G1 : FnOk P w K mg base CX0 k f1 fd1 ["_law_names_here"] spLsub) : FnOk P w K mg base CX0 (k + 1) f fd pCh spCh := by
  refine F.ok scCh (fun vs H Q E h => ?_) (fun cdv A outer s H vs Q E hr h => ?_)
  · obtain ⟨a, m, xs, rfl, _⟩ := h
    rfl
  · obtain ⟨a, m, xs, rfl, ha, nd, x8, q⟩ := h
    have hu := hr.units
    refine ⟨_, pss_one (ps_ret (pe_callTy call_tuple_of (by rfl) T.T.tup (by decide +kernel) (pa_cons (pe_callB (cr_sortTx hu) (by rfl) T.T.srt (by decide +kernel) (pa_cons
      (pe_lc (own := [("_law_some", 2)]) (g := gName 2) (by rfl) scCh.nd (pi_list (pe_call G1 hr (by rfl) g1 F1.kp b1 .nil pass0 (pa_cons (pe_callB cr_sortedS (by rfl) T.T.srt (by decide +kernel) (pa_cons (pv 0) pa_nil)) pa_nil))) (blkOk_by (N := nCh) (sc := defScope sCh) (by decide +kernel))
        (fun _ _ _ _ _ => pg_name (i := 2) scCh.nd rfl (Or.inl rfl)) (fun _ _ _ _ _ => pts_one (pt_cmpR op_eq (pe_callB (show CallR _ (.builtin "len") (rLn K) from call_len_seq) (by rfl) T.T.len PySem.boot_len (pa_cons (pv 2) pa_nil)) (pv 1) (nomark _))) (fun _ _ _ _ _ => pe_callTy (show CallR _ (.type "tuple") (rTupOf K) from call_tuple_of) (by rfl) T.T.tup (by decide +kernel) (pa_cons (pv 2) pa_nil))) pa_nil)) pa_nil))), ?_⟩
    refine ⟨.ref a, rfl, a, xs, rfl, SqL.of ha, by omega, fun ys p0 pm srtd np0 => ?_⟩
    have s0 := same_new (o := .lst (ys.map V.str)) np0
    have hp0 : (upd H p0 (.lst (ys.map V.str))) p0 = some (.lst (ys.map V.str)) := upd_same
    generalize upd H p0 (.lst (ys.map V.str)) = H0 at s0 hp0 ⊢
    have yl := pm.length_eq
    have ynd : ys.Nodup := pm.nodup_iff.mpr nd
    refine ⟨p0, ys, rfl, hp0, by omega, fun lp qs H1 s1 nlp nqs hlp st eq => ?_⟩
    have ql : qs.length ≤ 256 := by
      have e := congrArg List.length eq
      rw [List.length_map, subs_len] at e
      have : 2 ^ ys.length ≤ 2 ^ 8 := Nat.pow_le_pow_right (by decide) (by omega)
      omega
    have qin : ∀ q ∈ qs, q.2 ∈ subs ys := fun q mq => by rw [← eq]; exact List.mem_map.mpr ⟨q, mq, rfl⟩
    refine ⟨lp, rfl, ⟨_, SqL.of hlp⟩, fun D nD => lc_list (K := K) (a := lp) (xs := qs.map fun q => V.ref q.1) (fun i H2 => Same H1 H2 ∧ ∃ ts : List Nset, H2 D = some (.lst (ts.map fun q => V.ref q.1)) ∧ SetsAt H2 ts ∧ ts.map (·.2) = ((qs.take i).map (·.2)).filter fun s => decide (s.length = m)) ?_ (fun i H2 _ h => SqL.of (h.1 _ _ hlp)) ?_ ?_⟩
    · exact ⟨same_new nD, [], upd_same, (fun q mq => by cases mq), rfl⟩
    · rintro i x H2 hx ⟨s2, ts, hD, tst, teq⟩
      obtain ⟨t, ht, rfl⟩ := ref_at hx
      have mt := List.mem_of_getElem? ht
      have lt := (List.getElem?_eq_some_iff.mp ht).1
      have htl := s2 _ _ (st t mt)
      have tk : ((qs.take (i + 1)).map (·.2)).filter (fun s => decide (s.length = m)) = ((qs.take i).map (·.2)).filter (fun s => decide (s.length = m)) ++ [t.2].filter fun s => decide (s.length = m) := by
        rw [List.take_add_one, ht, List.map_append, List.filter_append]
        rfl
      have tl : ts.length ≤ 256 := by
        have e := congrArg List.length teq
        rw [List.length_map] at e
        have h1 : (((qs.take i).map (·.2)).filter fun s => decide (s.length = m)).length ≤ ((qs.take i).map (·.2)).length := List.length_filter_le _ _
        rw [List.length_map, List.length_take] at h1
        omega
      refine ⟨rfl, .ref t.1, rfl, t.1, _, rfl, .inl (SqL.of htl), .int (m : Int), rfl, rfl, _, rfl, ?_⟩
      have et : decide (V.int (((t.2.map V.str).length : Nat) : Int) = V.int (m : Int)) = decide (t.2.length = m) := decide_eq_decide.mpr ⟨fun z => by
        have := V.int.inj z
        rw [List.length_map] at this
        omega, fun z => by rw [List.length_map, z]⟩
      rw [et]
      by_cases e : t.2.length = m
      · rw [decide_eq_true e]
        refine iteT ⟨.ref t.1, rfl, t.1, _, rfl, .inl ⟨SqL.of htl, fun n nn => ⟨ts.map fun q => V.ref q.1, ?_, ?_, fun d o eo => ?_, ts ++ [(n, t.2)], ?_, ?_, ?_⟩⟩⟩
        · exact (same_new (o := .tup (t.2.map V.str)) nn) _ _ hD
        · rw [List.length_map]
          exact small1000 (by omega)
        · rw [upd_ne (ne_of_none eo nD)]
          exact (same_new nn) _ _ (s2 d o eo)
        · rw [upd_same, List.map_append]
          rfl
        · have nD' : n ≠ D := (ne_of_none hD nn).symm
          intro q' mq
          rcases List.mem_append.mp mq with mq | mq
          · have hq' := tst q' mq
            rw [upd_ne (ne_of hq' hD (by intro z; cases z))]
            exact (same_new nn) _ _ hq'
          · rw [List.mem_singleton.mp mq]
            show upd (upd _ n _) D _ n = _
            rw [upd_ne nD', upd_same]
        · rw [List.map_append, teq, tk, List.filter_cons_of_pos (by simpa using e)]
          rfl
      · rw [decide_eq_false e]
        refine iteF ⟨s2, ts, hD, tst, ?_⟩
        rw [teq, tk, List.filter_cons_of_neg (by simpa using e)]
        simp
    · rintro H2 ⟨s2, ts, hD, tst, teq⟩
      rw [List.length_map, List.take_length, eq] at teq
      have tl : ts.length ≤ 256 := by
        have e := congrArg List.length teq
        rw [List.length_map] at e
        have h1 : ((subs ys).filter fun s => decide (s.length = m)).length ≤ (subs ys).length := List.length_filter_le _ _
        have h2 := congrArg List.length eq
        rw [List.length_map] at h2
        omega
      have tin : ∀ q ∈ ts, q.2.length = m ∧ q.2 ∈ subs ys := fun q mq => by
        have : q.2 ∈ (subs ys).filter fun s => decide (s.length = m) := by rw [← teq]; exact List.mem_map.mpr ⟨q, mq, rfl⟩
        obtain ⟨m1, m2⟩ := List.mem_filter.mp this
        exact ⟨of_decide_eq_true m2, m1⟩
      refine ⟨D, ts, rfl, SqL.of hD, tst, by omega, ?_, fun n nn => ?_⟩
      · rcases Nat.eq_zero_or_pos m with z | z
        · right
          subst z
          have l1 : ts.map (·.2) = [[]] := by
            rw [teq]
            refine lone_of ((subs_nodup ynd).filter _) (fun x mx => List.length_eq_zero_iff.mp (of_decide_eq_true (List.mem_filter.mp mx).2)) (List.mem_filter.mpr ⟨?_, rfl⟩)
            have := subs_filter (fun _ => false) ys
            rwa [List.filter_eq_nil_iff.mpr fun _ _ => by simp] at this
          cases ts with
          | nil => cases l1
          | cons p r =>
            cases r with
            | nil => exact ⟨p, rfl, (List.cons.inj l1).1⟩
            | cons p' r => cases (List.cons.inj l1).2
        · left
          intro p mp e
          have := (tin p mp).1
          rw [e, List.length_nil] at this
          omega
      · refine ⟨n, _, rfl, .inl ⟨SqL.of upd_same, fun n2 nn2 => ?_⟩⟩
        have s3 := same_new (o := .lst ((ts.mergeSort txLe).map fun p => V.ref p.1)) nn
        have s4 := same_new (o := .tup ((ts.mergeSort txLe).map fun p => V.ref p.1)) nn2
        have s24 := s3.trans s4
        refine q n2 (ts.mergeSort txLe) ys _ (((s0.trans s1).trans s2).trans s24) upd_same (perm_sets (tst.same s24) (List.mergeSort_perm _ _)) pm (sorted_pairs srtd) ?_
        rw [tx_map, teq]
        exact sized_sort ynd m
end
end Moot
namespace Moot
open PySem PySem.Spec PyProof.Rows L2
theorem Uni.tups {H H' : Hp} {r : Addr} {c : Int} {xs : List Str} (h : Uni H r c xs) (t : Tups H H') : Uni H' r c xs := let ⟨p, zs, h1, h2, h3⟩ := h; ⟨p, zs, t _ _ h1, t _ _ h2, h3⟩
theorem RowsAt.tups {H H' : Hp} {ts : List Addr} {rs : Rws} (h : RowsAt H ts rs) (t : Tups H H') : RowsAt H' ts rs := ⟨h.1, fun i a e => let ⟨x, r, h1, h2⟩ := h.2 i a e; ⟨x, r, h1, t _ _ h2⟩⟩
theorem Fit.tups {H H' : Hp} {c : Int} {xs : List Str} {rs : Rws} (h : Fit H c xs rs) (t : Tups H H') : Fit H' c xs rs := { h with each := fun q m => (h.each q m).tups t }
theorem Box.lsts {H : Hp} {b g m : Addr} {n : Nat} (B : Box H b g m n) {p : Addr} {o : HO} (h : H p = some o) (no : ∀ xs, o ≠ .lst xs) : p ≠ b ∧ p ≠ g := by
  obtain ⟨x, k, gs, ms, hb, hg, _⟩ := B.ex
  refine ⟨fun e => ?_, fun e => ?_⟩
  · rw [e, hb] at h
    exact no _ (Option.some.inj h).symm
  · rw [e, hg] at h
    exact no _ (Option.some.inj h).symm
theorem NetAt.keep {C : Addr} {H H' : Hp} {net D : Addr} {c : Int} {xs : List Str} {rs : Rws} {b g m : Addr} {n : Nat} (h : NetAt C H net D c xs rs) (k : Keep b g H H') (B : Box H b g m n) : NetAt C H' net D c xs rs := by
  obtain ⟨dx, hn⟩ := h.ob
  obtain ⟨n1, n2⟩ := B.lsts h.dc (fun _ z => by cases z)
  obtain ⟨n3, n4⟩ := B.lsts hn (fun _ z => by cases z)
  exact ⟨⟨dx, k _ _ hn n3 n4⟩, k _ _ h.dc n1 n2, h.fit.tups (k.tups B), h.srt⟩
theorem merge_kvs : ∀ (rs qs : Rws), ((qs ++ rs).map (·.1)).Nodup → mergeK (kvs qs) (kvs rs) = kvs (qs ++ rs)
  | [], qs, _ => by rw [List.append_nil]; rfl
  | (x, r) :: rs, qs, nd => by
    have new : x ∉ qs.map (·.1) := by
      rw [List.map_append] at nd
      intro m
      exact (List.nodup_append.mp nd).2.2 x m x (by simp) rfl
    show mergeK (putK (kvs qs) (Sum.inr x : L2.Key) (V.ref r)) (kvs rs) = _
    rw [putK_new _ (val_out new)]
    have e : kvs qs ++ [((Sum.inr x : L2.Key), V.ref r)] = kvs (qs ++ [(x, r)]) := by
      unfold kvs
      rw [List.map_append]
      rfl
    rw [e]
    have e2 : qs ++ (x, r) :: rs = (qs ++ [(x, r)]) ++ rs := by rw [List.append_assoc]; rfl
    rw [e2] at nd ⊢
    exact merge_kvs rs (qs ++ [(x, r)]) nd
theorem rows_paired {K : PySem.W.Frag} {H : Hp} : ∀ (ts : List Addr) (rs : Rws), RowsAt H ts rs → Paired (fun p kv => SqT K H p [kV kv.1, kv.2]) ts (kvs rs)
  | [], rs, h => by
    have : rs = [] := List.length_eq_zero_iff.mp h.1.symm
    subst this
    exact .nil
  | t :: ts, [], h => by cases h.1
  | t :: ts, q :: rs, h => by
    obtain ⟨x, r, e, ht⟩ := h.2 0 t rfl
    have e' : q = (x, r) := Option.some.inj e
    subst e'
    exact .cons (SqT.of ht) (rows_paired ts rs ⟨Nat.succ.inj h.1, fun i a ea => h.2 (i + 1) a ea⟩)
theorem cut_take (ys : List Str) {v : Int} (h0 : 0 ≤ v) (h1 : v ≤ (ys.length : Int)) : cutV (ys.map V.str) none (some v) = (ys.take v.toNat).map V.str := by
  show (List.drop (HT.sIx (ys.map V.str).length 0 none) (ys.map V.str)).take (HT.sIx (ys.map V.str).length (ys.map V.str).length (some v) - HT.sIx (ys.map V.str).length 0 none) = _
  have e1 : HT.sIx (ys.map V.str).length 0 none = 0 := rfl
  have e2 : HT.sIx (ys.map V.str).length (ys.map V.str).length (some v) = min v.toNat (ys.map V.str).length := by
    show (if v < 0 then _ else _) = _
    rw [if_neg (by omega)]
  rw [e1, e2, List.drop_zero, Nat.sub_zero, List.length_map, List.map_take]
  rw [show min v.toNat ys.length = v.toNat from by omega]
abbrev rListOf (K : PySem.W.Frag) : List V → Hp → VK → Prop := fun xs H Q => ∃ p ys, xs = [.ref p] ∧ (SqL K H p ys ∨ SqT K H p ys) ∧ ∀ l, H l = none → Q (.ref l) (upd H l (.lst ys))
section
variable {P : Program} {w : World} {K : PySem.W.Frag} {mg : Str → Option Value} {base : Heap}
/-! _law_shuffled -/
abbrev sShu : Stmt := top 60
abbrev nShu : List Str := ["_law_box_here", "_law_values", "_law_left", "_law_k"]
theorem scShu : FnScope nShu ["_law_box_here", "_law_values"] (defScope sShu) := ⟨rfl, rfl, rfl, by decide +kernel, rfl, by decide +kernel, by decide +kernel⟩
def spShu (K : PySem.W.Frag) : Sp := fun vs H Q _ => ∃ (b g m vp : Addr) (n : Nat) (xs : List Str), vs = [.ref b, .ref vp] ∧ Box H b g m n ∧ n ≤ 900000 ∧ SqL K H vp (xs.map V.str) ∧ xs.length ≤ 100 ∧
  ∀ (p : Addr) (ys : List Str) (H' : Hp), H p = none → H' p = some (.lst (ys.map V.str)) → ys.Perm xs → Box H' b g m (n + xs.length) → Keep b g H H' → Q (.ref p) H'
theorem ok_shuffled {f fT : Addr} {fd fdT : FuncData} {k : Nat} (F : Fun K "_law_shuffled" "_law_shuffled" sShu f fd) (FT : Fun K "_law_take" "_law_take" sTake fT fdT) (bT : Binds K fdT ["_law_box_here", "_law_size"] []) (gT : mg "_law_take" = some (.ref fT))
    (GT : FnOk P w K mg base CX0 k fT fdT ["_law_box_here", "_law_size"] spTake) (T : Bq mg) : FnOk P w K mg base CX0 (k + 1) f fd ["_law_box_here", "_law_values"] (spShu K) := by
  have mr := T.T.rng
  have ml := T.T.len
  have mls := T.T.lst
  refine F.ok scShu (fun vs H Q E h => ?_) (fun cdv A outer s H vs Q E hr h => ?_)
  · obtain ⟨b, g, m, vp, n, xs, rfl, _⟩ := h
    rfl
  · obtain ⟨b, g, m, vp, n, xs, rfl, B, hn, hv, x2, q⟩ := h
    refine ⟨_, pss_cons (ps_set (i := 2) scShu.nd rfl (Or.inr rfl) (pe_callTy call_list_of (by rfl) mls (by decide +kernel) (pa_cons (pv 1) pa_nil)))
      (pss_one (ps_ret (pe_lc (own := [("_law_k", 3)]) (g := gName 3) (tt := tYes) (by rfl) scShu.nd
        (pi_range1 rfl mr (pa_cons (pe_callB call_len_seq (by rfl) ml PySem.boot_len (pa_cons (pv 2) pa_nil)) pa_nil)) (blkOk_by (N := nShu) (sc := defScope sShu) (by decide +kernel))
        (fun _ _ _ _ _ => pg_name (i := 3) scShu.nd rfl (Or.inl rfl)) (fun _ _ _ _ _ => pts_nil)
        (fun _ _ _ _ _ => (show PE _ _ (tBM K "list" rPopAt _ _) from pe_bm PySem.F.plainAttrs_list PySem.F.slot_list_pop PySem.F.type_list_pop mt_popAt (pv 2) (pa_cons (pe_call GT hr (by rfl) gT FT.kp bT .nil pass0 (pa_cons (pv 0) (pa_cons
          (pe_callB (show CallR _ (.builtin "len") (rLen K) from call_len_seq) (by rfl) ml PySem.boot_len (pa_cons (pv 2) pa_nil)) pa_nil))) pa_nil)))))), ?_⟩
    refine ⟨.ref vp, rfl, vp, _, rfl, .inl hv, fun l nl => ?_⟩
    obtain ⟨lb, lg, lm⟩ := B.ne nl
    have s1 : Same H (upd H l (.lst (xs.map V.str))) := same_new nl
    have lx : (xs.map V.str).length = xs.length := List.length_map _
    have hl1 : (upd H l (.lst (xs.map V.str))) l = some (.lst (xs.map V.str)) := upd_same
    generalize upd H l (.lst (xs.map V.str)) = H1 at s1 hl1 ⊢
    have B1 := B.same s1
    refine ⟨.ref l, rfl, l, _, rfl, .inl (SqL.of hl1), ((xs.map V.str).length : Int), rfl, by omega, by omega, fun D nD => ?_⟩
    obtain ⟨Db, Dg, Dm⟩ := B1.ne nD
    have Dl : D ≠ l := (ne_of_none hl1 nD).symm
    have K01 : Keep b g H H1 := Same.keep s1
    have fD : H D = none := K01.free Db Dg nD
    refine lc_range (lo := 0) (n := (((xs.map V.str).length : Nat) : Int).toNat) (fun j H4 => Box H4 b g m (n + j) ∧ Keep b g H H4 ∧ ∃ ys zs : List Str, H4 D = some (.lst (ys.map V.str)) ∧ H4 l = some (.lst (zs.map V.str)) ∧ ys.length = j ∧ (ys ++ zs).Perm xs) ?_ ?_ ?_
    · refine ⟨B1.store Db Dg Dm, K01.trans (Same.keep (same_new nD)), [], xs, upd_same, ?_, rfl, List.Perm.refl _⟩
      rw [upd_ne Dl.symm]
      exact hl1
    · rintro j H4 hj ⟨B4, K4, ys, zs, hD, hl, ly, pm⟩
      have total := pm.length_eq
      rw [List.length_append] at total
      have lz : (zs.map V.str).length = zs.length := List.length_map _
      refine ⟨rfl, .ref l, rfl, .inl ⟨rfl, _, SqL.of hl⟩, .ref b, rfl, .ref l, rfl, l, _, rfl, .inl (SqL.of hl), b, g, m, _, _, rfl, B4, by omega, by omega, by omega, fun v H5 c0 c1 B5 K5 => ?_⟩
      have hl5 := K5 _ _ hl lb lg
      have hD5 := K5 _ _ hD Db Dg
      have hv : v.toNat < zs.length := by omega
      refine ⟨l, _, v, v.toNat, .str zs[v.toNat], rfl, rfl, hl5, by omega, by omega, seq_at c0 c1, ?_, ys.map V.str, ?_, ?_, ?_⟩
      · rw [List.getElem?_map, List.getElem?_eq_getElem hv]
        rfl
      · rw [upd_ne Dl]
        exact hD5
      · rw [List.length_map]
        exact small1000 (by omega)
      · refine ⟨((B5.store lb lg lm).store Db Dg Dm).more (by omega), fun d o e n1 n2 => ?_, ys ++ [zs[v.toNat]], zs.eraseIdx v.toNat, ?_, ?_, ?_, ?_⟩
        · rw [upd_ne (ne_of_none e fD), upd_ne (ne_of_none e nl)]
          exact K5 _ _ (K4 _ _ e n1 n2) n1 n2
        · rw [upd_same, List.map_append]
          rfl
        · rw [upd_ne Dl.symm, upd_same, erase_map]
        · rw [List.length_append, ly]
          rfl
        · refine List.Perm.trans ?_ pm
          rw [List.append_assoc]
          exact List.Perm.append_left ys (erase_perm zs v.toNat _ (List.getElem?_eq_getElem hv))
    · rintro H4 ⟨B4, K4, ys, zs, hD, hl, ly, pm⟩
      have total := pm.length_eq
      rw [List.length_append] at total
      have z0 : zs = [] := List.length_eq_zero_iff.mp (by omega)
      subst z0
      rw [List.append_nil] at pm
      exact q D ys H4 fD hD pm (B4.more (by omega)) K4
/-! _law_word -/
abbrev sWd : Stmt := top 64
abbrev nWd : List Str := ["_law_many", "_law_count", "_law_failed"]
theorem scWd : FnScope nWd nWd (defScope sWd) := ⟨rfl, rfl, rfl, by decide +kernel, rfl, by decide +kernel, by decide +kernel⟩
def spWd : Sp := fun vs H Q _ => ∃ n c f : Int, vs = [.int n, .int c, .int f] ∧ Q (.str (tword c n f)) H
theorem ok_word {f : Addr} {fd : FuncData} {k : Nat} (F : Fun K "_law_word" "_law_word" sWd f fd) (T : Bq mg) : FnOk P w K mg base CX0 (k + 1) f fd nWd spWd := by
  refine F.ok scWd (fun vs H Q E h => ?_) (fun cdv A outer s H vs Q E hr h => ?_)
  · obtain ⟨n, c, f, rfl, _⟩ := h
    rfl
  · obtain ⟨n, c, f, rfl, q⟩ := h
    refine ⟨_, pss_cons (ps_if (pt_chain op_lt op_lt pe_int (pe_op op_sub (pv 0) (pv 2)) (pv 1)) (pss_one (ps_ret pe_str)) pss_nil)
      (pss_one (ps_ret (pe_ifExp (pt_cmpR op_le (pe_op op_mul pe_int (pe_callB (call_max2 rfl) (by rfl) T.T.max (by decide +kernel) (pa_cons pe_int (pa_cons (pe_op op_sub (pv 1) (pv 2)) pa_nil)))) (pe_op op_sub (pv 0) (pv 2)) (nomark _)) pe_str pe_str))), ?_⟩
    unfold tword at q
    refine ⟨.int n, rfl, .int f, rfl, _, _, rfl, rfl, _, _, rfl, rfl, _, rfl, ?_⟩
    by_cases h1 : 0 < n - f
    · rw [decide_eq_true h1]
      refine iteT ⟨.int c, rfl, _, _, rfl, rfl, _, rfl, ?_⟩
      by_cases h2 : n - f < c
      · rw [decide_eq_true h2]
        rw [if_pos ⟨h1, h2⟩] at q
        exact iteT q
      · rw [decide_eq_false h2]
        rw [if_neg fun z => h2 z.2] at q
        refine iteF ?_
        refine ⟨.int c, rfl, .int f, rfl, _, _, rfl, rfl, _, _, rfl, _, _, rfl, rfl, .inl ⟨by decide, by decide⟩, .int n, rfl, .int f, rfl, _, _, rfl, rfl, _, _, rfl, rfl, _, rfl, ?_⟩
        by_cases h3 : 2 * (if c - f > 1 then c - f else 1) ≤ n - f
        · rw [if_pos h3] at q
          rw [decide_eq_true h3]
          exact iteT q
        · rw [if_neg h3] at q
          rw [decide_eq_false h3]
          exact iteF q
    · rw [decide_eq_false h1]
      rw [if_neg fun z => h1 z.1] at q
      refine iteF ⟨_, rfl, iteF ?_⟩
      refine ⟨.int c, rfl, .int f, rfl, _, _, rfl, rfl, _, _, rfl, _, _, rfl, rfl, .inl ⟨by decide, by decide⟩, .int n, rfl, .int f, rfl, _, _, rfl, rfl, _, _, rfl, rfl, _, rfl, ?_⟩
      by_cases h3 : 2 * (if c - f > 1 then c - f else 1) ≤ n - f
      · rw [if_pos h3] at q
        rw [decide_eq_true h3]
        exact iteT q
      · rw [if_neg h3] at q
        rw [decide_eq_false h3]
        exact iteF q
end
end Moot
namespace Moot
open PySem PySem.Spec PyProof.Rows L2
theorem smv_strs {H : Hp} {p q : Addr} {s : List Str} (n : Nat) (h1 : H p = some (.tup (s.map V.str))) (h2 : H q = some (.tup (s.map V.str))) (l : s.length ≤ 300) : SmV H (n + 2) (.ref p) (.ref q) :=
  .inr ⟨p, q, _, _, rfl, rfl, h1, h2, rfl, by rw [List.length_map]; exact l, fun i u v e1 e2 => by
    rw [e1] at e2
    cases Option.some.inj e2
    rw [List.getElem?_map] at e1
    obtain ⟨z, _, rfl⟩ := Option.map_eq_some_iff.mp e1
    exact .inl ⟨z, rfl, rfl⟩⟩
theorem smv_sets {H : Hp} {p q : Addr} {ps qs : List Nset} (h1 : H p = some (.tup (ps.map fun x => V.ref x.1))) (h2 : H q = some (.tup (qs.map fun x => V.ref x.1))) (s1 : SetsAt H ps) (s2 : SetsAt H qs) (e : ps.map (·.2) = qs.map (·.2)) (l : ps.length ≤ 300) (sh : ∀ x ∈ ps, x.2.length ≤ 300) : SmV H 3 (.ref p) (.ref q) := by
  have el := congrArg List.length e
  rw [List.length_map, List.length_map] at el
  refine .inr ⟨p, q, _, _, rfl, rfl, h1, h2, by rw [List.length_map, List.length_map, el], by rw [List.length_map]; exact l, fun i u v e1 e2 => ?_⟩
  obtain ⟨x, ex, rfl⟩ := ref_at e1
  obtain ⟨y, ey, rfl⟩ := ref_at e2
  have exy : x.2 = y.2 := by
    have := congrArg (fun l => l[i]?) e
    simp only [List.getElem?_map, ex, ey] at this
    exact Option.some.inj this
  have hx := s1 x (List.mem_of_getElem? ex)
  have hy := s2 y (List.mem_of_getElem? ey)
  rw [← exy] at hy
  exact smv_strs 0 hx hy (sh x (List.mem_of_getElem? ex))
theorem sized_in {m : Nat} {ns s : List Str} (h : s ∈ sized m ns) : s ∈ subs ns ∧ s.length = m := ⟨srt_mem.mp (List.mem_filter.mp h).1, of_decide_eq_true (List.mem_filter.mp h).2⟩
theorem few_of {ns : List Str} (n8 : ns.length ≤ 8) {l : List (List Str)} (sub : l.Sublist (srt (subs ns))) {qs : List Nset} (e : qs.map (·.2) = l) : qs.length ≤ 256 ∧ ∀ q ∈ qs, q.2.length ≤ 8 := by
  have h1 := sub.length_le
  rw [srt_len, subs_len] at h1
  have e' := congrArg List.length e
  rw [List.length_map] at e'
  have : 2 ^ ns.length ≤ 2 ^ 8 := Nat.pow_le_pow_right (by decide) n8
  refine ⟨by omega, fun q mq => ?_⟩
  have : q.2 ∈ l := by rw [← e]; exact List.mem_map.mpr ⟨q, mq, rfl⟩
  exact Nat.le_trans (subs_short (srt_mem.mp (sub.subset this))) n8
theorem up_sub (c n : Int) (ns : List Str) (m : Nat) : (upTo c n ns m).Sublist (srt (subs ns)) := List.filter_sublist
theorem sz_sub (m : Nat) (ns : List Str) : (sized m ns).Sublist (srt (subs ns)) := List.filter_sublist
theorem tl_sub (c n : Int) (ns : List Str) : (tolL c n ns).Sublist (srt (subs ns)) := List.filter_sublist
theorem maj_of {C : Addr} {H : Hp} {net D : Addr} {c : Int} {xs : List Str} {rs : Rws} (N : NetAt C H net D c xs rs) (big : (xs.length : Int) < 2 * c) {t : Nat} (et : (t : Int) = if 2 * c - xs.length - 1 < (xs.length : Int) - c then 2 * c - xs.length - 1 else (xs.length : Int) - c) : Maj c (rs.map (·.1)) t := by
  have rl : (rs.map (·.1)).length = xs.length := N.fit.keys.length_eq
  have c1 := N.fit.c1
  have c2 := N.fit.c2
  refine ⟨N.keysnd, by rw [rl]; split at et <;> omega, fun s hs => ?_⟩
  have sl := subs_short hs
  rw [rl] at sl ⊢
  unfold tolP
  rw [decide_eq_true_iff, tw_most c1 c2 big (by omega) (by omega), ← et]
  omega
theorem perm_keys {C : Addr} {H : Hp} {net D : Addr} {c : Int} {xs : List Str} {rs : Rws} (N : NetAt C H net D c xs rs) {ys : List Str} (pm : ys.Perm xs) (sy : Srt ys) : ys = rs.map (·.1) :=
  srt_one sy (pm.nodup_iff.mpr N.fit.nd) N.srt N.keysnd fun x => (pm.mem_iff).trans N.fit.keys.mem_iff.symm
section
variable {P : Program} {w : World} {K : PySem.W.Frag} {mg : Str → Option Value} {base : Heap}
/-! _law_lists_right -/
abbrev sLr : Stmt := top 65
abbrev pLr : List Str := ["_law_box_here", "_law_network", "_law_names_here", "_law_count"]
abbrev nLr : List Str := ["_law_box_here", "_law_network", "_law_names_here", "_law_count", "_law_many", "_law_due", "_law_size", "_law_most", "_law_some"]
theorem scLr : FnScope nLr pLr (defScope sLr) := ⟨rfl, rfl, rfl, by decide +kernel, rfl, by decide +kernel, by decide +kernel⟩
def spLr (C : Addr) : Sp := fun vs H Q _ => ∃ (b g m net D np : Addr) (n : Nat) (c : Int) (xs : List Str) (rs : Rws), vs = [.ref b, .ref net, .ref np, .int c] ∧ Box H b g m n ∧ n ≤ 800000 ∧ np ≠ b ∧ np ≠ g ∧ NetAt C H net D c xs rs ∧ H np = some (.lst (xs.map V.str)) ∧ ∀ H', Q (.bl true) H'
theorem ok_lists {f f1 f2 f3 f4 f5 f6 f7 f8 f9 C : Addr} {fd fd1 fd2 fd3 fd4 fd5 fd6 fd7 fd8 fd9 : FuncData} {k : Nat} (F : Fun K "_law_lists_right" "_law_lists_right" sLr f fd) (T : Bq mg)
    (F1 : Fun K "_law_word" "_law_word" sWd f1 fd1) (b1 : Binds K fd1 nWd []) (g1 : mg "_law_word" = some (.ref f1)) (G1 : FnOk P w K mg base CX0 k f1 fd1 nWd spWd)
    (F2 : Fun K "_law_choices" "_law_choices" sCh f2 fd2) (b2 : Binds K fd2 pCh []) (g2 : mg "_law_choices" = some (.ref f2)) (G2 : FnOk P w K mg base CX0 k f2 fd2 pCh spCh)
    (F3 : Fun K "_law_same" "_law_same" sSm f3 fd3) (b3 : Binds K fd3 pSm []) (g3 : mg "_law_same" = some (.ref f3)) (G3 : FnOk P w K mg base CX0 k f3 fd3 pSm (spSm 3))
    (F4 : Fun K "tolerated_sets" "tolerated_sets" sTs f4 fd4) (b4 : Binds K fd4 ["network"] []) (g4 : mg "tolerated_sets" = some (.ref f4)) (G4 : FnOk P w K mg base CX0 k f4 fd4 ["network"] (spTs C))
    (F5 : Fun K "fatal_sets" "fatal_sets" sFs f5 fd5) (b5 : Binds K fd5 ["network"] []) (g5 : mg "fatal_sets" = some (.ref f5)) (G5 : FnOk P w K mg base CX0 k f5 fd5 ["network"] (spFs C))
    (F6 : Fun K "_law_shuffled" "_law_shuffled" sShu f6 fd6) (b6 : Binds K fd6 ["_law_box_here", "_law_values"] []) (g6 : mg "_law_shuffled" = some (.ref f6)) (G6 : FnOk P w K mg base CX0 k f6 fd6 ["_law_box_here", "_law_values"] (spShu K))
    (F7 : Fun K "_law_take" "_law_take" sTake f7 fd7) (b7 : Binds K fd7 ["_law_box_here", "_law_size"] []) (g7 : mg "_law_take" = some (.ref f7)) (G7 : FnOk P w K mg base CX0 k f7 fd7 ["_law_box_here", "_law_size"] spTake)
    (F8 : Fun K "closure" "closure" sCl f8 fd8) (b8 : Binds K fd8 pHn []) (g8 : mg "closure" = some (.ref f8)) (G8 : FnOk P w K mg base CX0 k f8 fd8 pHn (spCl K C))
    (F9 : Fun K "guardian_sets" "guardian_sets" sGs f9 fd9) (b9 : Binds K fd9 ["network"] []) (g9 : mg "guardian_sets" = some (.ref f9)) (G9 : FnOk P w K mg base CX0 k f9 fd9 ["network"] (spGs C)) : FnOk P w K mg base CX0 (k + 1) f fd pLr (spLr C) := by
  refine F.ok scLr (fun vs H Q E h => ?_) (fun cdv A outer s H vs Q E hr h => ?_)
  · obtain ⟨b, g, m, net, D, np, n, c, xs, rs, rfl, _⟩ := h
    rfl
  · obtain ⟨b, g, m, net, D, np, n, c, xs, rs, rfl, B, hn, npb, npg, N, hnp, q⟩ := h
    refine ⟨_, pss_cons (ps_set (i := 4) scLr.nd rfl (Or.inl rfl) (pe_callB call_len_seq (by rfl) T.T.len PySem.boot_len (pa_cons (pv 2) pa_nil)))
      (pss_cons (ps_set (i := 5) scLr.nd rfl (Or.inl rfl) (pe_tup pa_nil))
      (pss_cons (ps_for PassesOwn.never rfl (pi_range1 rfl T.T.rng (pa_cons (pe_op op_add (pv 4) pe_int) pa_nil)) (pg_name (i := 6) scLr.nd rfl (Or.inl rfl))
        (pss_one (ps_if (pt_cmpR op_eq (pe_call G1 hr (by rfl) g1 F1.kp b1 .nil pass0 (pa_cons (pv 4) (pa_cons (pv 3) (pa_cons (pv 6) pa_nil)))) pe_str (nomark _))
          (pss_one (ps_set (i := 5) scLr.nd rfl (Or.inl rfl) (pe_op op_catA (pv 5) (pe_call G2 hr (by rfl) g2 F2.kp b2 .nil pass0 (pa_cons (pv 2) (pa_cons (pv 6) pa_nil)))))) pss_nil)))
      (pss_cons (ps_if (pt_not (pt_val (pe_call G3 hr (by rfl) g3 F3.kp b3 .nil pass0 (pa_cons (pe_call G4 hr (by rfl) g4 F4.kp b4 .nil pass0 (pa_cons (pv 1) pa_nil)) (pa_cons (pv 5) pa_nil))))) (pss_one (ps_ret pe_bl)) pss_nil)
      (pss_cons (ps_if (PW.pt (pw_or (pt_cmpR op_gt (pv 4) pe_int (nomark _)) (pw_or1 (pt_cmpR op_le (pe_op op_mul pe_int (pv 3)) (pv 4) (nomark _))))) (pss_one (ps_ret pe_bl)) pss_nil)
      (pss_cons (ps_set (i := 7) scLr.nd rfl (Or.inl rfl) (pe_callB (call_min2 rfl) (by rfl) T.T.min (by decide +kernel) (pa_cons (pe_op op_sub (pv 4) (pv 3)) (pa_cons (pe_op op_sub (pe_op op_sub (pe_op op_mul pe_int (pv 3)) (pv 4)) pe_int) pa_nil))))
      (pss_cons (ps_if (pt_not (pt_val (pe_call G3 hr (by rfl) g3 F3.kp b3 .nil pass0 (pa_cons (pe_call G5 hr (by rfl) g5 F5.kp b5 .nil pass0 (pa_cons (pv 1) pa_nil)) (pa_cons (pe_call G2 hr (by rfl) g2 F2.kp b2 .nil pass0 (pa_cons (pv 2) (pa_cons (pe_op op_add (pv 7) pe_int) pa_nil))) pa_nil))))) (pss_one (ps_ret pe_bl)) pss_nil)
      (pss_cons (ps_set (i := 8) scLr.nd rfl (Or.inl rfl) (pe_callB cr_sortedS (by rfl) T.T.srt (by decide +kernel) (pa_cons (pe_slice sl_list (pe_call G6 hr (by rfl) g6 F6.kp b6 .nil pass0 (pa_cons (pv 0) (pa_cons (pv 2) pa_nil))) po_none (po_some (pe_call G7 hr (by rfl) g7 F7.kp b7 .nil pass0 (pa_cons (pv 0) (pa_cons (pe_op op_add (pv 4) pe_int) pa_nil))))) pa_nil)))
      (pss_cons (ps_if (pt_not (pt_val (pe_call G3 hr (by rfl) g3 F3.kp b3 .nil pass0 (pa_cons (pe_call G8 hr (by rfl) g8 F8.kp b8 .nil pass0 (pa_cons (pv 1) (pa_cons (pv 8) pa_nil))) (pa_cons (pe_callTy call_tuple_of (by rfl) T.T.tup (by decide +kernel) (pa_cons (pe_ifExp (pt_cmpR op_le (pe_callB call_len_seq (by rfl) T.T.len PySem.boot_len (pa_cons (pv 8) pa_nil)) (pv 7) (nomark _)) (pv 8) (pe_callB cr_sortedS (by rfl) T.T.srt (by decide +kernel) (pa_cons (pv 2) pa_nil))) pa_nil)) pa_nil))))) (pss_one (ps_ret pe_bl)) pss_nil)
      (pss_one (ps_ret (pe_call G3 hr (by rfl) g3 F3.kp b3 .nil pass0 (pa_cons (pe_call G9 hr (by rfl) g9 F9.kp b9 .nil pass0 (pa_cons (pv 1) pa_nil)) (pa_cons (pe_call G2 hr (by rfl) g2 F2.kp b2 .nil pass0 (pa_cons (pv 2) (pa_cons (pe_op op_sub (pv 4) (pv 7)) pa_nil))) pa_nil))))))))))))), ?_⟩
    have x8 := N.fit.few
    have nd := N.fit.nd
    have c1 := N.fit.c1
    have c2 := N.fit.c2
    have rl : (rs.map (·.1)).length = xs.length := N.fit.keys.length_eq
    have n8 : (rs.map (·.1)).length ≤ 8 := by omega
    have ok : okN xs := fun x mx => (N.fit.nm x mx).ok
    refine ⟨.ref np, rfl, np, _, rfl, .inl (SqL.of hnp), ?_⟩
    rw [List.length_map]
    refine ⟨Nat.zero_le _, fun d0 nd0 => ?_⟩
    have s0 := same_new (o := .tup []) nd0
    have hd0 : (upd H d0 (.tup [])) d0 = some (.tup (([] : List Nset).map fun q => V.ref q.1)) := upd_same
    generalize upd H d0 (.tup []) = H0 at s0 hd0 ⊢
    refine ⟨.int (xs.length : Int), rfl, _, _, rfl, rfl, (xs.length : Int) + 1, rfl, by omega, by omega, ?_⟩
    refine for_range (lo := 0) (n := ((xs.length : Int) + 1).toNat) (fun i σ H1 => ∃ (dp : Addr) (qs : List Nset) (y6 y7 y8 : Option V), σ = [some (.ref b), some (.ref net), some (.ref np), some (.int c), some (.int (xs.length : Int)), some (.ref dp), y6, y7, y8] ∧ Same H H1 ∧ H1 dp = some (.tup (qs.map fun q => V.ref q.1)) ∧ SetsAt H1 qs ∧ qs.map (·.2) = upTo c xs.length (rs.map (·.1)) i) ?_ ?_ ?_
    · exact ⟨d0, [], none, none, none, rfl, s0, hd0, (fun q mq => by cases mq), (upTo_zero _ _ _).symm⟩
    · rintro i σ H1 hi ⟨dp, qs, y6, y7, y8, rfl, s1, hdp, st, eq⟩
      refine ⟨.int (xs.length : Int), rfl, .int c, rfl, _, rfl, (xs.length : Int), c, 0 + (i : Int), rfl, rfl, _, rfl, ?_⟩
      rw [Int.zero_add]
      have us := upTo_succ c xs.length (rs.map (·.1)) i
      have ed : decide (V.str (tword c xs.length i) = V.str "tolerated") = decide (tword c xs.length i = "tolerated") := decide_eq_decide.mpr ⟨fun z => V.str.inj z, fun z => by rw [z]⟩
      rw [ed]
      by_cases tw : tword c xs.length i = "tolerated"
      · rw [decide_eq_true tw] at us ⊢
        rw [if_pos rfl] at us
        refine iteT ⟨.ref dp, rfl, .ref np, rfl, _, rfl, np, i, xs, rfl, s1 _ _ hnp, nd, x8, fun cp cs ys H2 s2 hcp cst pm sy ceq => ?_⟩
        have ey := perm_keys N pm sy
        subst ey
        have hdp2 := s2 _ _ hdp
        have st2 := st.same s2
        obtain ⟨ql, _⟩ := few_of n8 (up_sub _ _ _ _) eq
        obtain ⟨cl, _⟩ := few_of n8 (sz_sub _ _) ceq
        refine ⟨dp, cp, _, _, rfl, rfl, SqT.of hdp2, SqT.of hcp, ?_, fun e1 => ?_, fun e1 e2 => ?_, fun e1 e2 p np' => ?_⟩
        · rw [List.length_map, List.length_map]
          exact Nat.le_of_lt (small1000 (by omega))
        · have e0 : qs = [] := List.map_eq_nil_iff.mp e1
          subst e0
          refine ⟨cp, cs, _, _, _, rfl, s1.trans s2, hcp, cst, ?_⟩
          rw [us, ← eq, ceq]
          rfl
        · have e0 : cs = [] := List.map_eq_nil_iff.mp e2
          subst e0
          refine ⟨dp, qs, _, _, _, rfl, s1.trans s2, hdp2, st2, ?_⟩
          rw [us, ← ceq, eq]
          simp
        · have s3 := same_new (o := .tup (qs.map (fun q => V.ref q.1) ++ cs.map fun q => V.ref q.1)) np'
          refine ⟨p, qs ++ cs, _, _, _, rfl, (s1.trans s2).trans s3, by rw [upd_same, List.map_append], fun q' mq => ?_, ?_⟩
          · rcases List.mem_append.mp mq with mq | mq
            · exact s3 _ _ (st2 q' mq)
            · exact s3 _ _ (cst q' mq)
          · rw [List.map_append, us, eq, ceq]
      · rw [decide_eq_false tw] at us ⊢
        rw [if_neg Bool.false_ne_true, List.append_nil] at us
        exact iteF ⟨dp, qs, _, _, _, rfl, s1, hdp, st, by rw [us]; exact eq⟩
    · rintro σ H1 ⟨dp, qs, y6, y7, y8, rfl, s1, hdp, st, eq⟩
      rw [show ((xs.length : Int) + 1).toNat = (rs.map (·.1)).length + 1 from by rw [rl]; omega, upTo_all] at eq
      have N1 := N.same s1
      refine ⟨.ref net, rfl, net, D, c, xs, rs, rfl, N1, fun tp ts H2 s2 htp tst teq => ?_⟩
      obtain ⟨tl, tsh⟩ := few_of n8 (tl_sub _ _ _) teq
      refine ⟨.ref dp, rfl, _, _, rfl, smv_sets htp (s2 _ _ hdp) tst (st.same s2) (teq.trans eq.symm) (by omega) (fun x mx => by have := tsh x mx; omega), fun H3 s3 => ⟨_, rfl, iteF ?_⟩⟩
      have s13 := s2.trans s3
      have s03 := s1.trans s13
      have N3 := N.same s03
      refine ⟨.int (xs.length : Int), rfl, _, _, rfl, rfl, _, rfl, ?_⟩
      by_cases five : (5 : Int) < xs.length
      · rw [decide_eq_true five]
        exact iteT (iteT (q H3))
      rw [decide_eq_false five]
      refine iteF ⟨.int c, rfl, _, _, rfl, rfl, .inl ⟨by decide, by decide⟩, .int (xs.length : Int), rfl, _, _, rfl, rfl, _, rfl, ?_⟩
      by_cases small : 2 * c ≤ (xs.length : Int)
      · rw [decide_eq_true small]
        exact iteT (q H3)
      rw [decide_eq_false small]
      refine iteF ?_
      have big : (xs.length : Int) < 2 * c := by omega
      refine ⟨.int (xs.length : Int), rfl, .int c, rfl, _, _, rfl, rfl, .int c, rfl, _, _, rfl, rfl, .inl ⟨by decide, by decide⟩, .int (xs.length : Int), rfl, _, _, rfl, rfl, _, _, rfl, rfl, _, _, rfl, ?_⟩
      obtain ⟨t, et⟩ : ∃ t : Nat, (t : Int) = if 2 * c - xs.length - 1 < (xs.length : Int) - c then 2 * c - xs.length - 1 else (xs.length : Int) - c := ⟨(if 2 * c - xs.length - 1 < (xs.length : Int) - c then 2 * c - xs.length - 1 else (xs.length : Int) - c).toNat, by split <;> omega⟩
      have M := maj_of N big et
      have tn := M.tn
      rw [← et]
      have Mf := M.fatal
      have Mg := M.guard
      rw [rl] at Mf Mg tn
      -- fatal sets
      refine ⟨.ref net, rfl, net, D, c, xs, rs, rfl, N3, big, ok, fun fp fs H4 s4 hfp fst feq => ?_⟩
      refine ⟨.ref np, rfl, .int (t : Int), rfl, _, _, rfl, rfl, np, t + 1, xs, rfl, (s03.trans s4) _ _ hnp, nd, x8, fun cp cs ys H5 s5 hcp cst pm sy ceq => ?_⟩
      have ey := perm_keys N pm sy
      subst ey
      obtain ⟨cl, csh⟩ := few_of n8 (sz_sub _ _) ceq
      have fc : fs.map (·.2) = cs.map (·.2) := by rw [feq, Mf, ceq]
      have fl : fs.length ≤ 300 := by
        have := congrArg List.length fc
        rw [List.length_map, List.length_map] at this
        omega
      have fsh : ∀ x ∈ fs, x.2.length ≤ 300 := fun x mx => by
        have : x.2 ∈ sized (t + 1) (rs.map (·.1)) := by rw [← Mf, ← feq]; exact List.mem_map.mpr ⟨x, mx, rfl⟩
        have := subs_short (sized_in this).1
        omega
      refine ⟨_, _, rfl, smv_sets (s5 _ _ hfp) hcp (fst.same s5) cst fc fl fsh, fun H6 s6 => ⟨_, rfl, iteF ?_⟩⟩
      have s06 := ((s03.trans s4).trans s5).trans s6
      have B6 := B.same s06
      have hnp6 := s06 _ _ hnp
      -- some nodes
      refine ⟨.ref b, rfl, .ref np, rfl, b, g, m, np, _, xs, rfl, B6, by omega, SqL.of hnp6, by omega, fun p ys H7 np7 hp pm7 B7 K7 => ?_⟩
      obtain ⟨pb, pg, pmm⟩ := B6.ne np7
      have yl := pm7.length_eq
      refine ⟨.ref b, rfl, .int (xs.length : Int), rfl, _, _, rfl, rfl, b, g, m, _, (xs.length : Int) + 1, rfl, B7, by omega, by omega, by omega, fun v2 H8 d0' d1 B8 K8 => ⟨v2, rfl, ?_⟩⟩
      have hp8 := K8 _ _ hp pb pg
      refine ⟨p, _, rfl, SqL.of hp8, fun e ne' => ?_⟩
      rw [cut_take ys d0' (by omega)]
      have s9 := same_new (o := .lst ((ys.take v2.toNat).map V.str)) ne'
      have he : (upd H8 e (.lst ((ys.take v2.toNat).map V.str))) e = some (.lst ((ys.take v2.toNat).map V.str)) := upd_same
      generalize upd H8 e (.lst ((ys.take v2.toNat).map V.str)) = H9 at s9 he ⊢
      have yt : (ys.take v2.toNat).length ≤ xs.length := by rw [List.length_take]; omega
      refine ⟨e, _, rfl, SqL.of he, by omega, fun Fs sp pmF srtF nsp => ?_⟩
      have s10 := same_new (o := .lst (Fs.map V.str)) nsp
      have hsp : (upd H9 sp (.lst (Fs.map V.str))) sp = some (.lst (Fs.map V.str)) := upd_same
      generalize upd H9 sp (.lst (Fs.map V.str)) = H10 at s10 hsp ⊢
      have k610 : Keep b g H6 H10 := (K7.trans K8).trans (Same.keep (s9.trans s10))
      have N10 := (N.same s06).keep k610 B6
      have hnp10 := k610 _ _ hnp6 npb npg
      have ndF : Fs.Nodup := pmF.nodup_iff.mpr ((List.take_sublist _ _).nodup (pm7.nodup_iff.mpr nd))
      have inF : ∀ x ∈ Fs, x ∈ xs := fun x mx => pm7.mem_iff.mp (List.mem_of_mem_take (pmF.mem_iff.mp mx))
      have Fl' : Fs.length ≤ xs.length := nd_len Fs xs ndF inF
      have subF : Fs ∈ subs (rs.map (·.1)) := by
        have e1 : (rs.map (·.1)).filter (fun x => decide (x ∈ Fs)) = Fs := srt_one (List.Pairwise.sublist List.filter_sublist N.srt) (N.keysnd.filter _) (sorted_pairs srtF) ndF fun x => by
          rw [List.mem_filter, decide_eq_true_iff]
          exact ⟨fun z => z.2, fun z => ⟨N.fit.keys.mem_iff.mpr (inF x z), z⟩⟩
        have := subs_filter (fun x => decide (x ∈ Fs)) (rs.map (·.1))
        rwa [e1] at this
      -- closure
      have clo : mcL Fs (tolL c xs.length (rs.map (·.1))) = [if Fs.length ≤ t then Fs else rs.map (·.1)] := by
        by_cases h : Fs.length ≤ t
        · have := M.low subF h
          rw [rl] at this
          rw [this, if_pos h]
        · have := M.high subF (by omega)
          rw [rl] at this
          rw [this, if_neg h]
      refine ⟨.ref net, rfl, .ref sp, rfl, net, D, sp, c, xs, rs, Fs, rfl, N10, big, .inl (SqL.of hsp), inF, by omega, by rw [clo]; simp, fun kp H11 ks kr s11 hkp keq => ?_⟩
      have ek : ks = if Fs.length ≤ t then Fs else rs.map (·.1) := by
        rw [clo] at keq
        exact (List.cons.inj keq).1.symm
      have N11 := N10.same s11
      have hnp11 := s11 _ _ hnp10
      have hsp11 := s11 _ _ hsp
      -- guardians, the last
      have last : ∀ H12 : Hp, NetAt C H12 net D c xs rs → H12 np = some (.lst (xs.map V.str)) → ∀ σ : L2.St, σ.take 8 = [some (.ref b), some (.ref net), some (.ref np), some (.int c), some (.int (xs.length : Int)), some (.ref dp), y6, some (.int (t : Int))] → True := fun _ _ _ _ _ => trivial
      refine ⟨.ref sp, rfl, sp, _, rfl, .inl (SqL.of hsp11), .int (t : Int), rfl, _, _, rfl, rfl, _, rfl, ?_⟩
      rw [List.length_map]
      by_cases h : Fs.length ≤ t
      · rw [if_pos h] at ek
        subst ek
        rw [decide_eq_true (by omega : (ks.length : Int) ≤ (t : Int))]
        refine iteT ⟨.ref sp, rfl, sp, _, rfl, .inl ⟨SqL.of hsp11, fun tp2 ntp2 => ?_⟩⟩
        have s12 := same_new (o := .tup (ks.map V.str)) ntp2
        have htp2 : (upd H11 tp2 (.tup (ks.map V.str))) tp2 = some (.tup (ks.map V.str)) := upd_same
        generalize upd H11 tp2 (.tup (ks.map V.str)) = H12 at s12 htp2 ⊢
        refine ⟨_, _, rfl, smv_strs 1 (s12 _ _ hkp) htp2 (by omega), fun H13 s13' => ⟨_, rfl, iteF ?_⟩⟩
        have s113 := s12.trans s13'
        refine ⟨.ref net, rfl, net, D, c, xs, rs, rfl, N11.same s113, big, ok, fun gp gs H14 s14 hgp gst geq => ?_⟩
        refine ⟨.ref np, rfl, .int (xs.length : Int), rfl, .int (t : Int), rfl, _, _, rfl, rfl, np, xs.length - t, xs, by rw [show ((xs.length - t : Nat) : Int) = (xs.length : Int) - (t : Int) from by omega]; rfl, (s113.trans s14) _ _ hnp11, nd, x8, fun cp2 cs2 ys2 H15 s15 hcp2 cst2 pm2 sy2 ceq2 => ?_⟩
        have ey2 := perm_keys N pm2 sy2
        subst ey2
        obtain ⟨cl2, csh2⟩ := few_of n8 (sz_sub _ _) ceq2
        have gc : gs.map (·.2) = cs2.map (·.2) := by rw [geq, Mg, ceq2]
        have gl : gs.length ≤ 300 := by
          have := congrArg List.length gc
          rw [List.length_map, List.length_map] at this
          omega
        have gsh : ∀ x ∈ gs, x.2.length ≤ 300 := fun x mx => by
          have : x.2 ∈ sized (xs.length - t) (rs.map (·.1)) := by rw [← Mg, ← geq]; exact List.mem_map.mpr ⟨x, mx, rfl⟩
          have := subs_short (sized_in this).1
          omega
        exact ⟨_, _, rfl, smv_sets (s15 _ _ hgp) hcp2 (gst.same s15) cst2 gc gl gsh, fun H16 s16 => q H16⟩
      · rw [if_neg h] at ek
        subst ek
        rw [decide_eq_false (by omega : ¬ (Fs.length : Int) ≤ (t : Int))]
        refine iteF ⟨.ref np, rfl, np, xs, rfl, SqL.of hnp11, by omega, fun zs zp pmZ srtZ nzp => ?_⟩
        have ez := perm_keys N pmZ (sorted_pairs srtZ)
        subst ez
        have s12a := same_new (o := .lst ((rs.map (·.1)).map V.str)) nzp
        have hzp : (upd H11 zp (.lst ((rs.map (·.1)).map V.str))) zp = some (.lst ((rs.map (·.1)).map V.str)) := upd_same
        generalize upd H11 zp (.lst ((rs.map (·.1)).map V.str)) = H11' at s12a hzp ⊢
        refine ⟨zp, _, rfl, .inl ⟨SqL.of hzp, fun tp2 ntp2 => ?_⟩⟩
        have s12 := same_new (o := .tup ((rs.map (·.1)).map V.str)) ntp2
        have htp2 : (upd H11' tp2 (.tup ((rs.map (·.1)).map V.str))) tp2 = some (.tup ((rs.map (·.1)).map V.str)) := upd_same
        generalize upd H11' tp2 (.tup ((rs.map (·.1)).map V.str)) = H12 at s12 htp2 ⊢
        refine ⟨_, _, rfl, smv_strs 1 (s12 _ _ (s12a _ _ hkp)) htp2 (by omega), fun H13 s13' => ⟨_, rfl, iteF ?_⟩⟩
        have s113 := (s12a.trans s12).trans s13'
        refine ⟨.ref net, rfl, net, D, c, xs, rs, rfl, N11.same s113, big, ok, fun gp gs H14 s14 hgp gst geq => ?_⟩
        refine ⟨.ref np, rfl, .int (xs.length : Int), rfl, .int (t : Int), rfl, _, _, rfl, rfl, np, xs.length - t, xs, by rw [show ((xs.length - t : Nat) : Int) = (xs.length : Int) - (t : Int) from by omega]; rfl, (s113.trans s14) _ _ hnp11, nd, x8, fun cp2 cs2 ys2 H15 s15 hcp2 cst2 pm2 sy2 ceq2 => ?_⟩
        have ey2 := perm_keys N pm2 sy2
        subst ey2
        obtain ⟨cl2, csh2⟩ := few_of n8 (sz_sub _ _) ceq2
        have gc : gs.map (·.2) = cs2.map (·.2) := by rw [geq, Mg, ceq2]
        have gl : gs.length ≤ 300 := by
          have := congrArg List.length gc
          rw [List.length_map, List.length_map] at this
          omega
        have gsh : ∀ x ∈ gs, x.2.length ≤ 300 := fun x mx => by
          have : x.2 ∈ sized (xs.length - t) (rs.map (·.1)) := by rw [← Mg, ← geq]; exact List.mem_map.mpr ⟨x, mx, rfl⟩
          have := subs_short (sized_in this).1
          omega
        exact ⟨_, _, rfl, smv_sets (s15 _ _ hgp) hcp2 (gst.same s15) cst2 gc gl gsh, fun H16 s16 => q H16⟩
end
end Moot
namespace Moot
open PySem PySem.Spec PyProof.Rows L2
section
variable {P : Program} {w : World} {K : PySem.W.Frag} {mg : Str → Option Value} {base : Heap}
/-! law -/
abbrev sLaw : Stmt := top 66
abbrev nLaw : List Str := ["_law_script", "_law_box_here", "_law_names_here", "_law_many", "_law_count", "_law_network", "_law_turn", "_law_failed", "_law_found", "_law_honest", "_law_name"]
theorem scLaw : FnScope nLaw ["_law_script"] (defScope sLaw) := ⟨rfl, rfl, rfl, by decide +kernel, rfl, by decide +kernel, by decide +kernel⟩
def spLaw (K : PySem.W.Frag) : Sp := fun vs H Q _ => ∃ (a : Addr) (ns : List Int), vs = [.ref a] ∧ SqL K H a (ns.map V.int) ∧ ns.length ≤ 63 ∧ ∀ H', Q (.bl true) H'
theorem ok_law {f f1 f2 f3 f4 f5 f6 f7 f8 f9 C : Addr} {fd fd1 fd2 fd3 fd4 fd5 fd6 fd7 fd8 fd9 : FuncData} {k : Nat} (F : Fun K "law" "law" sLaw f fd) (T : Bq mg) (X : Txt K mg C)
    (F1 : Fun K "_law_box" "_law_box" sBox f1 fd1) (b1 : Binds K fd1 ["_law_script"] []) (g1 : mg "_law_box" = some (.ref f1)) (G1 : FnOk P w K mg base CX0 (k + 1) f1 fd1 ["_law_script"] (spBox K))
    (F2 : Fun K "_law_take" "_law_take" sTake f2 fd2) (b2 : Binds K fd2 ["_law_box_here", "_law_size"] []) (g2 : mg "_law_take" = some (.ref f2)) (G2 : FnOk P w K mg base CX0 (k + 1) f2 fd2 ["_law_box_here", "_law_size"] spTake)
    (F3 : Fun K "_law_names" "_law_names" sNames f3 fd3) (b3 : Binds K fd3 ["_law_box_here", "_law_many"] []) (g3 : mg "_law_names" = some (.ref f3)) (G3 : FnOk P w K mg base CX0 (k + 1) f3 fd3 ["_law_box_here", "_law_many"] spNames)
    (F4 : Fun K "_law_shuffled" "_law_shuffled" sShu f4 fd4) (b4 : Binds K fd4 ["_law_box_here", "_law_values"] []) (g4 : mg "_law_shuffled" = some (.ref f4)) (G4 : FnOk P w K mg base CX0 (k + 1) f4 fd4 ["_law_box_here", "_law_values"] (spShu K))
    (M5 : Mk K C f5) (b5 : Binds K fd5 ["self", "rows"] []) (G5 : FnOk P w K mg base CX0 k f5 fd5 ["self", "rows"] (spNi K C))
    (F6 : Fun K "tolerance" "tolerance" sTol f6 fd6) (b6 : Binds K fd6 pHn []) (g6 : mg "tolerance" = some (.ref f6)) (G6 : FnOk P w K mg base CX0 (k + 1) f6 fd6 pHn (spTol K C))
    (F7 : Fun K "_law_word" "_law_word" sWd f7 fd7) (b7 : Binds K fd7 nWd []) (g7 : mg "_law_word" = some (.ref f7)) (G7 : FnOk P w K mg base CX0 (k + 1) f7 fd7 nWd spWd)
    (F8 : Fun K "_law_same" "_law_same" sSm f8 fd8) (b8 : Binds K fd8 pSm []) (g8 : mg "_law_same" = some (.ref f8)) (G8 : FnOk P w K mg base CX0 (k + 1) f8 fd8 pSm (spSm 3))
    (F9 : Fun K "_law_lists_right" "_law_lists_right" sLr f9 fd9) (b9 : Binds K fd9 pLr []) (g9 : mg "_law_lists_right" = some (.ref f9)) (G9 : FnOk P w K mg base CX0 (k + 1) f9 fd9 pLr (spLr C)) : FnOk P w K mg base CX0 (k + 1 + 1) f fd ["_law_script"] (spLaw K) := by
  refine F.ok scLaw (fun vs H Q E h => ?_) (fun cdv A outer s H vs Q E hr h => ?_)
  · obtain ⟨a, ns, rfl, _⟩ := h
    rfl
  · obtain ⟨a, ns, rfl, hS, len, q⟩ := h
    refine ⟨_, pss_cons (ps_set (i := 1) scLaw.nd rfl (Or.inr rfl) (pe_call G1 hr (by rfl) g1 F1.kp b1 .nil pass0 (pa_cons (pv 0) pa_nil)))
      (pss_cons (ps_set (i := 2) scLaw.nd rfl (Or.inr rfl) (pe_call G3 hr (by rfl) g3 F3.kp b3 .nil pass0 (pa_cons (pv 1) (pa_cons (pe_op op_add pe_int (pe_call G2 hr (by rfl) g2 F2.kp b2 .nil pass0 (pa_cons (pv 1) (pa_cons (pe_int) pa_nil)))) pa_nil))))
      (pss_cons (ps_set (i := 3) scLaw.nd rfl (Or.inl rfl) (pe_callB call_len_seq (by rfl) T.T.len PySem.boot_len (pa_cons (pv 2) pa_nil)))
      (pss_cons (ps_set (i := 4) scLaw.nd rfl (Or.inr rfl) (pe_op op_add pe_int (pe_call G2 hr (by rfl) g2 F2.kp b2 .nil pass0 (pa_cons (pv 1) (pa_cons (pv 3) pa_nil)))))
      (pss_cons (ps_set (i := 5) scLaw.nd rfl (Or.inl rfl) (pe_make M5 G5 hr (by rfl) X.mgC b5 .nil pass0 (pa_cons (pe_lc (own := [("_law_name", 10)]) (g := gName 10) (tt := tYes) (by rfl) scLaw.nd (pi_list (pv 2)) (blkOk_by (N := nLaw) (sc := defScope sLaw) (by decide +kernel))
        (fun _ _ _ _ _ => pg_name (i := 10) scLaw.nd rfl (Or.inl rfl)) (fun _ _ _ _ _ => pts_nil) (fun _ _ _ _ _ => pe_tup (pa_cons (pv 10) (pa_cons (pe_tup (pa_cons (pv 4) (pa_cons (pe_callTy (show CallR _ (.type "tuple") (rTupOf K) from call_tuple_of) (by rfl) T.T.tup (by decide +kernel) (pa_cons (pe_call G4 hr (by rfl) g4 F4.kp b4 .nil pass0 (pa_cons (pv 1) (pa_cons (pv 2) pa_nil))) pa_nil)) pa_nil))) pa_nil)))) pa_nil)))
      (pss_cons (ps_for PassesOwn.never rfl (pi_range1 rfl T.T.rng (pa_cons pe_int pa_nil)) (pg_name (i := 6) scLaw.nd rfl (Or.inl rfl)) (pss_cons (ps_set (i := 7) scLaw.nd rfl (Or.inr rfl) (pe_slice sl_list (pe_call G4 hr (by rfl) g4 F4.kp b4 .nil pass0 (pa_cons (pv 1) (pa_cons (pv 2) pa_nil))) po_none (po_some (pe_call G2 hr (by rfl) g2 F2.kp b2 .nil pass0 (pa_cons (pv 1) (pa_cons (pe_op op_add (pv 3) pe_int) pa_nil))))))
      (pss_cons (ps_set (i := 8) scLaw.nd rfl (Or.inl rfl) (pe_call G6 hr (by rfl) g6 F6.kp b6 .nil pass0 (pa_cons (pv 5) (pa_cons (pv 7) pa_nil))))
      (pss_cons (ps_if (pt_cmpR op_ne (pe_ix ix_tup (pv 8) pe_int (fun _ _ => rfl)) (pe_call G7 hr (by rfl) g7 F7.kp b7 .nil pass0 (pa_cons (pv 3) (pa_cons (pv 4) (pa_cons (pe_callB call_len_seq (by rfl) T.T.len PySem.boot_len (pa_cons (pv 7) pa_nil)) pa_nil)))) (nomark _)) (pss_one (ps_ret pe_bl)) pss_nil)
      (pss_cons (ps_set (i := 9) scLaw.nd rfl (Or.inl rfl) (pe_callB cr_sortedS (by rfl) T.T.srt (by decide +kernel) (pa_cons (pe_lc (own := [("_law_name", 10)]) (g := gName 10) (by rfl) scLaw.nd (pi_list (pv 2)) (blkOk_by (N := nLaw) (sc := defScope sLaw) (by decide +kernel))
        (fun _ _ _ _ _ => pg_name (i := 10) scLaw.nd rfl (Or.inl rfl)) (fun _ _ _ _ _ => pts_one (pt_cmpR (show OpR _ (compareOp .NotIn) (rIn K true) from op_notIn_seq) (pv 10) (pv 7) (by rfl))) (fun _ _ _ _ _ => pv 10)) pa_nil)))
      (pss_one (ps_if (PW.pt (pw_and (pt_cmpR op_eq (pe_ix ix_tup (pv 8) pe_int (fun _ _ => rfl)) pe_str (nomark _)) (pw_and1 (pt_not (pt_val (pe_call G8 hr (by rfl) g8 F8.kp b8 .nil pass0 (pa_cons (pv 8) (pa_cons (pe_tup (pa_cons pe_str (pa_cons (pe_ix ix_list (pv 9) pe_int (fun _ _ => rfl)) pa_nil))) pa_nil)))))))) (pss_one (ps_ret pe_bl)) pss_nil)))))))
      (pss_one (ps_ret (pe_or (pe_cmpR op_gt (pv 3) pe_int (nomark _)) (pe_one (pe_call G9 hr (by rfl) g9 F9.kp b9 .nil pass0 (pa_cons (pv 1) (pa_cons (pv 5) (pa_cons (pv 2) (pa_cons (pv 4) pa_nil)))))))))))))), ?_⟩
    refine ⟨.ref a, rfl, a, ns, rfl, hS, len, fun H1 b g m s1 B1 => ?_⟩
    refine ⟨.ref b, rfl, .ref b, rfl, b, g, m, 0, 8, rfl, B1, by decide, by decide, by decide, fun v0 H2 a0 a1 B2 K2 => ⟨_, _, rfl, rfl, ?_⟩⟩
    have ev : (1 : Int) + v0 = (((1 + v0).toNat : Nat) : Int) := by omega
    refine ⟨b, g, m, _, (1 + v0).toNat, by rw [← ev]; rfl, B2, by decide, by omega, fun np xs H3 nnp h3 xl nd nm B3 K3 => ?_⟩
    obtain ⟨npb, npg, npm⟩ := B2.ne nnp
    have x8 : xs.length ≤ 8 := by omega
    have x1 : 1 ≤ xs.length := by omega
    refine ⟨.ref np, rfl, np, _, rfl, .inl (SqL.of h3), ?_⟩
    rw [List.length_map]
    refine ⟨.ref b, rfl, .int (xs.length : Int), rfl, b, g, m, _, (xs.length : Int), rfl, B3, by decide, by omega, by omega, fun v1 H4 c0 c1 B4 K4 => ⟨_, _, rfl, rfl, ?_⟩⟩
    have h4 := K4 _ _ h3 npb npg
    dsimp only
    generalize hc : (1 : Int) + v1 = c
    have cc1 : 1 ≤ c := by omega
    have cc2 : c ≤ (xs.length : Int) := by omega
    -- the rows
    refine ⟨.ref np, rfl, np, rfl, ⟨_, SqL.of h4⟩, fun D nD => ?_⟩
    obtain ⟨Db, Dg, Dm⟩ := B4.ne nD
    refine lc_list (K := K) (a := np) (xs := xs.map V.str) (fun i H5 => Box H5 b g m (200 + 10 * i) ∧ Keep b g H4 H5 ∧ ∃ (ts : List Addr) (rs : Rws), H5 D = some (.lst (ts.map V.ref)) ∧ RowsAt H5 ts rs ∧ rs.map (·.1) = xs.take i ∧ ∀ q ∈ rs, Uni H5 q.2 c xs) ?_ (fun i H5 _ h => SqL.of (h.2.1 _ _ h4 npb npg)) ?_ ?_
    · exact ⟨(B4.store Db Dg Dm).more (by omega), Same.keep (same_new nD), [], [], upd_same, ⟨rfl, fun i t e => by simp at e⟩, rfl, fun q m => by cases m⟩
    · rintro i y H5 hy ⟨B5, K5, ts, rs, hD, ra, keys, each⟩
      rw [List.getElem?_map] at hy
      obtain ⟨z, hz, rfl⟩ := Option.map_eq_some_iff.mp hy
      have il : i < xs.length := (List.getElem?_eq_some_iff.mp hz).1
      have tk : xs.take (i + 1) = xs.take i ++ [z] := by
        rw [List.take_add_one, hz]
        rfl
      have h5 := K5 _ _ h4 npb npg
      refine ⟨rfl, .str z, rfl, .int c, rfl, .ref b, rfl, .ref np, rfl, b, g, m, np, _, xs, rfl, B5, by omega, SqL.of h5, by omega, fun p ys H6 np6 hp pm B6 K6 => ?_⟩
      refine ⟨p, _, rfl, .inl ⟨SqL.of hp, fun t1 nt1 => ?_⟩⟩
      have s7 := same_new (o := .tup (ys.map V.str)) nt1
      have ht1 : (upd H6 t1 (.tup (ys.map V.str))) t1 = some (.tup (ys.map V.str)) := upd_same
      generalize upd H6 t1 (.tup (ys.map V.str)) = H7 at s7 ht1 ⊢
      refine ⟨by show 2 ≤ sizeLine; decide, fun t2 nt2 => ?_⟩
      have s8 := same_new (o := .tup [.int c, .ref t1]) nt2
      have ht2 : (upd H7 t2 (.tup [.int c, .ref t1])) t2 = some (.tup [.int c, .ref t1]) := upd_same
      generalize upd H7 t2 (.tup [.int c, .ref t1]) = H8 at s8 ht2 ⊢
      refine ⟨by show 2 ≤ sizeLine; decide, fun t3 nt3 => ?_⟩
      have s9 := same_new (o := .tup [.str z, .ref t2]) nt3
      have ht3 : (upd H8 t3 (.tup [.str z, .ref t2])) t3 = some (.tup [.str z, .ref t2]) := upd_same
      generalize upd H8 t3 (.tup [.str z, .ref t2]) = H9 at s9 ht3 ⊢
      have s69 := (s7.trans s8).trans s9
      have k59 : Keep b g H5 H9 := K6.trans (Same.keep s69)
      have hD9 := k59 _ _ hD Db Dg
      have B9 := B6.same s69
      have tu : Tups H5 (upd H9 D (.lst (ts.map V.ref ++ [.ref t3]))) := (k59.tups B5).trans (tups_store hD9)
      have tu9 : Tups H9 (upd H9 D (.lst (ts.map V.ref ++ [.ref t3]))) := tups_store hD9
      have len2 : ts.length = i := by
        have := congrArg List.length keys
        rw [List.length_map, List.length_take] at this
        have := ra.1
        omega
      refine ⟨_, hD9, ?_, (B9.store Db Dg Dm).more (by omega), fun d o e n1 n2 => ?_, ts ++ [t3], rs ++ [(z, t2)], ?_, ?_, ?_, ?_⟩
      · rw [List.length_map]
        exact small1000 (by omega)
      · rw [upd_ne (ne_of_none e nD)]
        exact k59 _ _ (K5 _ _ e n1 n2) n1 n2
      · rw [upd_same, List.map_append]
        rfl
      · refine ⟨by rw [List.length_append, List.length_append, ra.1]; rfl, fun j t et => ?_⟩
        by_cases hj : j < ts.length
        · rw [List.getElem?_append_left hj] at et
          obtain ⟨x', r', e1, e2⟩ := ra.2 j t et
          refine ⟨x', r', ?_, tu _ _ e2⟩
          rw [List.getElem?_append_left (by rw [← ra.1]; exact hj)]
          exact e1
        · have ej : j = ts.length := by
            have := (List.getElem?_eq_some_iff.mp et).1
            rw [List.length_append, List.length_singleton] at this
            omega
          subst ej
          rw [List.getElem?_append_right (Nat.le_refl _), Nat.sub_self] at et
          cases Option.some.inj et
          refine ⟨z, t2, ?_, tu9 _ _ ht3⟩
          rw [ra.1, List.getElem?_append_right (Nat.le_refl _), Nat.sub_self]
          rfl
      · rw [List.map_append, keys, tk]
        rfl
      · intro q' mq
        rcases List.mem_append.mp mq with mq | mq
        · exact (each q' mq).tups tu
        · rw [List.mem_singleton.mp mq]
          exact ⟨t1, ys, tu9 _ _ (s9 _ _ ht2), tu9 _ _ (s9 _ _ (s8 _ _ ht1)), pm⟩
    · rintro H5 ⟨B5, K5, ts, rs, hD, ra, keys, each⟩
      rw [List.length_map] at B5 keys
      rw [List.take_length] at keys
      have fit : Fit H5 c xs rs := ⟨nd, x8, nm, cc1, cc2, by rw [keys], each⟩
      have h5 := K5 _ _ h4 npb npg
      -- Network
      refine fun net dx nnet ndx ne => ?_
      have s7 : Same H5 (upd (upd H5 dx (.own net)) net (.ins C dx [])) := (same_new ndx).trans (same_new (by rw [upd_ne ne.symm]; exact nnet))
      have hnet : (upd (upd H5 dx (.own net)) net (.ins C dx [])) net = some (.ins C dx []) := upd_same
      generalize upd (upd H5 dx (.own net)) net (.ins C dx []) = H7 at s7 hnet ⊢
      refine ⟨net, dx, D, ts, rs, c, xs, rfl, hnet, SqL.of (s7 _ _ hD), ra.same s7, fit.same s7, fun D2 rs' H8 N8 bt => ⟨rfl, ?_⟩⟩
      have s58 : Same H5 H8 := fun d o e => bt d o (s7 _ _ e) (ne_of_none e nnet)
      have B8 := B5.same s58
      have h8 := s58 _ _ h5
      refine ⟨3, rfl, by decide, by decide, for_range (lo := 0) (n := 3) (fun i σ H9 => ∃ (y6 y7 y8 y9 y10 : Option V), σ = [some (.ref a), some (.ref b), some (.ref np), some (.int (xs.length : Int)), some (.int c), some (.ref net), y6, y7, y8, y9, y10] ∧ Box H9 b g m (300 + 100 * i) ∧ H9 np = some (.lst (xs.map V.str)) ∧ NetAt C H9 net D2 c xs rs') ?_ ?_ ?_⟩
      · exact ⟨_, _, _, _, _, rfl, B8.more (by omega), h8, N8⟩
      · rintro i σ H9 hi ⟨y6, y7, y8, y9, y10, rfl, B9, h9, N9⟩
        refine ⟨.ref b, rfl, .ref np, rfl, b, g, m, np, _, xs, rfl, B9, by omega, SqL.of h9, by omega, fun p ys H10 np10 hp pm B10 K10 => ?_⟩
        obtain ⟨pb, pg, pmm⟩ := B9.ne np10
        have yl := pm.length_eq
        refine ⟨.ref b, rfl, .int (xs.length : Int), rfl, _, _, rfl, rfl, b, g, m, _, (xs.length : Int) + 1, rfl, B10, by omega, by omega, by omega, fun v2 H11 d0 d1 B11 K11 => ⟨v2, rfl, ?_⟩⟩
        have hp11 := K11 _ _ hp pb pg
        refine ⟨p, _, rfl, SqL.of hp11, fun e ne' => ?_⟩
        rw [cut_take ys d0 (by omega)]
        have s12 := same_new (o := .lst ((ys.take v2.toNat).map V.str)) ne'
        have he : (upd H11 e (.lst ((ys.take v2.toNat).map V.str))) e = some (.lst ((ys.take v2.toNat).map V.str)) := upd_same
        generalize upd H11 e (.lst ((ys.take v2.toNat).map V.str)) = H12 at s12 he ⊢
        generalize hF : ys.take v2.toNat = Fs at he ⊢
        have fl : Fl xs Fs := ⟨by rw [← hF]; exact (List.take_sublist _ _).nodup (pm.nodup_iff.mpr nd), fun x mx => pm.mem_iff.mp (by rw [← hF] at mx; exact List.mem_of_mem_take mx)⟩
        have f8 : Fs.length ≤ xs.length := nd_len Fs xs fl.nd fl.inn
        have k912 : Keep b g H9 H12 := (K10.trans K11).trans (Same.keep s12)
        have N12 := N9.keep k912 B9
        have h12 := k912 _ _ h9 npb npg
        have B12 := B11.same s12
        refine ⟨.ref net, rfl, .ref e, rfl, net, D2, e, c, xs, rs', Fs, rfl, N12, .inl (SqL.of he), fl, fun r H13 us s13 hr' dep => ?_⟩
        refine ⟨.ref r, rfl, r, _, 0, .str (tword c xs.length Fs.length), rfl, rfl, SqT.of hr', atI_nat (j := 0) rfl, .int (xs.length : Int), rfl, .int c, rfl, .ref e, rfl, e, _, rfl, .inl (SqL.of (s13 _ _ he)), (xs.length : Int), c, ((Fs.map V.str).length : Int), rfl, rfl, _, rfl, ?_⟩
        rw [List.length_map]
        rw [show (!decide (V.str (tword c xs.length Fs.length) = V.str (tword c xs.length Fs.length))) = false from by rw [decide_eq_true rfl]; rfl]
        refine iteF ?_
        -- the honest ones
        have h13 := s13 _ _ h12
        have he13 := s13 _ _ he
        refine ⟨.ref np, rfl, np, rfl, ⟨_, SqL.of h13⟩, fun D3 nD3 => lc_list (K := K) (a := np) (xs := xs.map V.str) (fun j H14 => Same H13 H14 ∧ H14 D3 = some (.lst (((xs.take j).filter fun x => decide (x ∉ Fs)).map V.str))) ⟨same_new nD3, upd_same⟩ (fun j H14 _ h => SqL.of (h.1 _ _ h13)) ?_ ?_⟩
        · rintro j x H14 hx ⟨s14, hD3⟩
          rw [List.getElem?_map] at hx
          obtain ⟨z, hz, rfl⟩ := Option.map_eq_some_iff.mp hx
          have tk : xs.take (j + 1) = xs.take j ++ [z] := by
            rw [List.take_add_one, hz]
            rfl
          refine ⟨rfl, .str z, rfl, .ref e, rfl, e, _, rfl, .inl (SqL.of (s14 _ _ he13)), rfl, flats Fs, _, rfl, ?_⟩
          rw [inV_str]
          by_cases mz : z ∈ Fs
          · rw [decide_eq_true mz]
            refine iteF ⟨s14, ?_⟩
            rw [hD3, tk, List.filter_append]
            simp [mz]
          · rw [decide_eq_false mz]
            refine iteT ⟨.str z, rfl, _, hD3, ?_, fun d o eo => ?_, ?_⟩
            · rw [List.length_map]
              refine small1000 (Nat.le_trans (List.length_filter_le _ _) ?_)
              rw [List.length_take]
              omega
            · rw [upd_ne (ne_of_none eo nD3)]
              exact s14 d o eo
            · rw [upd_same, tk, List.filter_append]
              simp [mz]
        · rintro H14 ⟨s14, hD3⟩
          rw [List.length_map, List.take_length] at hD3
          have ll : (xs.filter fun x => decide (x ∉ Fs)).length ≤ xs.length := List.length_filter_le _ _
          refine ⟨D3, _, rfl, SqL.of hD3, by omega, fun zs zp pmZ srtZ nzp => ?_⟩
          have ez : zs = honL rs' Fs := srt_one (sorted_pairs srtZ) (pmZ.nodup_iff.mpr (nd.filter _)) (N12.hon Fs).srt (N12.hon Fs).nd fun x => by
            rw [pmZ.mem_iff]
            unfold honL
            rw [List.mem_filter, List.mem_filter, N12.fit.keys.mem_iff]
          have s15 := same_new (o := .lst (zs.map V.str)) nzp
          have hzp : (upd H14 zp (.lst (zs.map V.str))) zp = some (.lst (zs.map V.str)) := upd_same
          generalize upd H14 zp (.lst (zs.map V.str)) = H15 at s15 hzp ⊢
          have s1315 := s14.trans s15
          have hr15 := s1315 _ _ hr'
          refine ⟨.ref r, rfl, r, _, 0, .str (tword c xs.length Fs.length), rfl, rfl, SqT.of hr15, atI_nat (j := 0) rfl, rfl, _, rfl, ?_⟩
          by_cases tw : tword c xs.length Fs.length = "dependent"
          · rw [show decide (V.str (tword c xs.length Fs.length) = V.str "dependent") = true from decide_eq_true (by rw [tw])]
            refine iteT ?_
            have ud := dep tw
            have hl := hon_len N12 fl
            have pos : 0 < (honL rs' Fs).length := by
              unfold tword at tw
              by_cases d : 0 < (xs.length : Int) - Fs.length ∧ (xs.length : Int) - Fs.length < c
              · omega
              · exfalso
                rw [if_neg d] at tw
                by_cases g' : 2 * (if c - (Fs.length : Int) > 1 then c - (Fs.length : Int) else 1) ≤ (xs.length : Int) - Fs.length
                · rw [if_pos g'] at tw
                  exact absurd tw (by decide +kernel)
                · rw [if_neg g'] at tw
                  exact absurd tw (by decide +kernel)
            cases eh : honL rs' Fs with
            | nil =>
              rw [eh] at pos
              exact absurd pos (by decide)
            | cons x0 r0 =>
              rw [eh] at ez ud
              rw [ez] at hzp
              refine ⟨.ref r, rfl, .ref zp, rfl, zp, _, 0, .str x0, rfl, rfl, SqL.of hzp, atI_nat (j := 0) rfl, by show 2 ≤ sizeLine; decide, fun t nt => ?_⟩
              have s17 := same_new (o := .tup [.str "dependent", .str x0]) nt
              have ht : (upd H15 t (.tup [.str "dependent", .str x0])) t = some (.tup [.str "dependent", .str x0]) := upd_same
              generalize upd H15 t (.tup [.str "dependent", .str x0]) = H17 at s17 ht ⊢
              have hr17 := s17 _ _ hr15
              rw [tw, ud] at hr17
              refine ⟨_, _, rfl, smv_strs (s := ["dependent", x0]) 1 hr17 ht (by simp), fun H18 s18 => ⟨_, rfl, ?_⟩⟩
              exact iteF (by
                have sx := ((s13.trans s1315).trans s17).trans s18
                exact ⟨_, _, _, _, _, rfl, (B12.same sx).more (by omega), sx _ _ h12, N12.same sx⟩)
          · rw [show decide (V.str (tword c xs.length Fs.length) = V.str "dependent") = false from decide_eq_false fun z => tw (V.str.inj z)]
            have sx := s13.trans s1315
            exact iteF (iteF ⟨_, _, _, _, _, rfl, (B12.same sx).more (by omega), sx _ _ h12, N12.same sx⟩)
      · rintro σ H9 ⟨y6, y7, y8, y9, y10, rfl, B9, h9, N9⟩
        refine ⟨.int (xs.length : Int), rfl, _, _, rfl, rfl, _, rfl, ?_⟩
        by_cases six : (6 : Int) < xs.length
        · rw [decide_eq_true six]
          exact iteT (q H9)
        · rw [decide_eq_false six]
          exact iteF ⟨.ref b, rfl, .ref net, rfl, .ref np, rfl, .int c, rfl, b, g, m, net, D2, np, _, c, xs, rs', rfl, B9, by omega, npb, npg, N9, h9, fun H' => q H'⟩
end
end Moot
namespace Moot
open PySem PySem.Spec PyProof.Rows L2
/-! what the top has written -/
theorem all_mk {l : PySem.W.OpenLaw} {w : World} {K : PySem.W.Frag} {h : Heap} {mg : Str → Option Value} {fa C dT eA kD dE f_ns f_out f_isn f_who f_ct f_hd f_sr f_ir f_nwr f_nin f_sp f_sat f_cr f_fr f_so f_rm f_lq f_cq f_it f_rb f_cu f_nn f_cn f_ro f_box f_mix f_take f_nam f_shu f_wit f_ord f_sub f_min f_hn f_tol f_tls f_ts f_mc f_mt f_ci f_cl f_fs f_ma f_gs f_lsub f_sm f_ch f_wd f_lr f_law f_ini : Addr} (X : K.In h) (G : h.Ns mainGlobals mg) (hfa : mg "law" = some (.ref fa))
    {od_ns an_ns od_out an_out od_isn an_isn od_who an_who od_ct an_ct od_hd an_hd od_sr an_sr od_ir an_ir od_nwr an_nwr od_nin an_nin od_sp an_sp od_sat an_sat od_cr an_cr od_fr an_fr od_so an_so od_rm an_rm od_lq an_lq od_cq an_cq od_it an_it od_rb an_rb od_cu an_cu od_nn an_nn od_cn an_cn od_ro an_ro od_box an_box od_mix an_mix od_take an_take od_nam an_nam od_shu an_shu od_wit an_wit od_ord an_ord od_sub an_sub od_min an_min od_hn an_hn od_tol an_tol od_tls an_tls od_ts an_ts od_mc an_mc od_mt an_mt od_ci an_ci od_cl an_cl od_fs an_fs od_ma an_ma od_gs an_gs od_lsub an_lsub od_sm an_sm od_ch an_ch od_wd an_wd od_lr an_lr od_law an_law od_ini an_ini : Option Addr} {sl_ns sl_out sl_isn sl_who sl_ct sl_hd sl_sr sl_ir sl_nwr sl_nin sl_sp sl_sat sl_cr sl_fr sl_so sl_rm sl_lq sl_cq sl_it sl_rb sl_cu sl_nn sl_cn sl_ro sl_box sl_mix sl_take sl_nam sl_shu sl_wit sl_ord sl_sub sl_min sl_hn sl_tol sl_tls sl_ts sl_mc sl_mt sl_ci sl_cl sl_fs sl_ma sl_gs sl_lsub sl_sm sl_ch sl_wd sl_lr sl_law sl_ini : Array (Option Value)} {oc_ns kV_ns dc_ns pm_ns cd_ns ct_ns oc_out kV_out dc_out pm_out cd_out ct_out oc_isn kV_isn dc_isn pm_isn cd_isn ct_isn oc_who kV_who dc_who pm_who cd_who ct_who oc_ct kV_ct dc_ct pm_ct cd_ct ct_ct oc_hd kV_hd dc_hd pm_hd cd_hd ct_hd oc_sr kV_sr dc_sr pm_sr cd_sr ct_sr oc_ir kV_ir dc_ir pm_ir cd_ir ct_ir oc_nwr kV_nwr dc_nwr pm_nwr cd_nwr ct_nwr oc_nin kV_nin dc_nin pm_nin cd_nin ct_nin oc_sp kV_sp dc_sp pm_sp cd_sp ct_sp oc_sat kV_sat dc_sat pm_sat cd_sat ct_sat oc_cr kV_cr dc_cr pm_cr cd_cr ct_cr oc_fr kV_fr dc_fr pm_fr cd_fr ct_fr oc_so kV_so dc_so pm_so cd_so ct_so oc_rm kV_rm dc_rm pm_rm cd_rm ct_rm oc_lq kV_lq dc_lq pm_lq cd_lq ct_lq oc_cq kV_cq dc_cq pm_cq cd_cq ct_cq oc_it dc_it pm_it cd_it ct_it oc_rb kV_rb dc_rb pm_rb cd_rb ct_rb oc_cu kV_cu dc_cu pm_cu cd_cu ct_cu oc_nn kV_nn dc_nn pm_nn cd_nn ct_nn oc_cn kV_cn dc_cn pm_cn cd_cn ct_cn oc_ro kV_ro dc_ro pm_ro cd_ro ct_ro oc_box kV_box dc_box pm_box cd_box ct_box oc_mix kV_mix dc_mix pm_mix cd_mix ct_mix oc_take kV_take dc_take pm_take cd_take ct_take oc_nam kV_nam dc_nam pm_nam cd_nam ct_nam oc_shu kV_shu dc_shu pm_shu cd_shu ct_shu oc_wit kV_wit dc_wit pm_wit cd_wit ct_wit oc_ord kV_ord dc_ord pm_ord cd_ord ct_ord oc_sub kV_sub dc_sub pm_sub cd_sub ct_sub oc_min kV_min dc_min pm_min cd_min ct_min oc_hn kV_hn dc_hn pm_hn cd_hn ct_hn oc_tol kV_tol dc_tol pm_tol cd_tol ct_tol oc_tls kV_tls dc_tls pm_tls cd_tls ct_tls oc_ts kV_ts dc_ts pm_ts cd_ts ct_ts oc_mc kV_mc dc_mc pm_mc cd_mc ct_mc oc_mt kV_mt dc_mt pm_mt cd_mt ct_mt oc_ci kV_ci dc_ci pm_ci cd_ci ct_ci oc_cl kV_cl dc_cl pm_cl cd_cl ct_cl oc_fs kV_fs dc_fs pm_fs cd_fs ct_fs oc_ma kV_ma dc_ma pm_ma cd_ma ct_ma oc_gs kV_gs dc_gs pm_gs cd_gs ct_gs oc_lsub kV_lsub dc_lsub pm_lsub cd_lsub ct_lsub oc_sm kV_sm dc_sm pm_sm cd_sm ct_sm oc_ch kV_ch dc_ch pm_ch cd_ch ct_ch oc_wd kV_wd dc_wd pm_wd cd_wd ct_wd oc_lr kV_lr dc_lr pm_lr cd_lr ct_lr oc_law kV_law dc_law pm_law cd_law ct_law oc_ini kV_ini dc_ini pm_ini cd_ini ct_ini : Value}
    {tA tB tC tD : Tok} {ocT : Value} {odT odE : Option Addr} {nT nE : Nat} {slT slE : Array (Option Value)}
    (aC : PySem.W.nsIn K mainGlobals "Network" = some (some (.ref C)))
    (a_ns : PySem.W.nsIn K mainGlobals "node_set" = some (some (.ref f_ns)))
    (l_ns : K.lookup f_ns = some ⟨oc_ns, od_ns, .func (PySem.W.fnOf "node_set" "node_set" (defArgs sNs) (defBody sNs) (defScope sNs) .none kV_ns dc_ns pm_ns an_ns cd_ns ct_ns), sl_ns⟩)
    (c_ns : PySem.W.codeIn K cd_ns "node_set" = true)
    (k_ns : PySem.W.keepIn K (.ref f_ns) = true)
    (a_out : PySem.W.nsIn K mainGlobals "names_outside" = some (some (.ref f_out)))
    (l_out : K.lookup f_out = some ⟨oc_out, od_out, .func (PySem.W.fnOf "names_outside" "names_outside" (defArgs sOut) (defBody sOut) (defScope sOut) .none kV_out dc_out pm_out an_out cd_out ct_out), sl_out⟩)
    (c_out : PySem.W.codeIn K cd_out "names_outside" = true)
    (k_out : PySem.W.keepIn K (.ref f_out) = true)
    (a_isn : PySem.W.nsIn K mainGlobals "is_name" = some (some (.ref f_isn)))
    (l_isn : K.lookup f_isn = some ⟨oc_isn, od_isn, .func (PySem.W.fnOf "is_name" "is_name" (defArgs sIn) (defBody sIn) (defScope sIn) .none kV_isn dc_isn pm_isn an_isn cd_isn ct_isn), sl_isn⟩)
    (c_isn : PySem.W.codeIn K cd_isn "is_name" = true)
    (k_isn : PySem.W.keepIn K (.ref f_isn) = true)
    (a_who : PySem.W.nsIn K mainGlobals "is_whole_number" = some (some (.ref f_who)))
    (l_who : K.lookup f_who = some ⟨oc_who, od_who, .func (PySem.W.fnOf "is_whole_number" "is_whole_number" (defArgs sWh) (defBody sWh) (defScope sWh) .none kV_who dc_who pm_who an_who cd_who ct_who), sl_who⟩)
    (c_who : PySem.W.codeIn K cd_who "is_whole_number" = true)
    (k_who : PySem.W.keepIn K (.ref f_who) = true)
    (a_ct : PySem.W.nsIn K mainGlobals "is_counted_tuple" = some (some (.ref f_ct)))
    (l_ct : K.lookup f_ct = some ⟨oc_ct, od_ct, .func (PySem.W.fnOf "is_counted_tuple" "is_counted_tuple" (defArgs sCt) (defBody sCt) (defScope sCt) .none kV_ct dc_ct pm_ct an_ct cd_ct ct_ct), sl_ct⟩)
    (c_ct : PySem.W.codeIn K cd_ct "is_counted_tuple" = true)
    (k_ct : PySem.W.keepIn K (.ref f_ct) = true)
    (a_hd : PySem.W.nsIn K mainGlobals "has_duplicates" = some (some (.ref f_hd)))
    (l_hd : K.lookup f_hd = some ⟨oc_hd, od_hd, .func (PySem.W.fnOf "has_duplicates" "has_duplicates" (defArgs sHd) (defBody sHd) (defScope sHd) .none kV_hd dc_hd pm_hd an_hd cd_hd ct_hd), sl_hd⟩)
    (c_hd : PySem.W.codeIn K cd_hd "has_duplicates" = true)
    (k_hd : PySem.W.keepIn K (.ref f_hd) = true)
    (a_sr : PySem.W.nsIn K mainGlobals "is_simple_requirement" = some (some (.ref f_sr)))
    (l_sr : K.lookup f_sr = some ⟨oc_sr, od_sr, .func (PySem.W.fnOf "is_simple_requirement" "is_simple_requirement" (defArgs sSr) (defBody sSr) (defScope sSr) .none kV_sr dc_sr pm_sr an_sr cd_sr ct_sr), sl_sr⟩)
    (c_sr : PySem.W.codeIn K cd_sr "is_simple_requirement" = true)
    (k_sr : PySem.W.keepIn K (.ref f_sr) = true)
    (a_ir : PySem.W.nsIn K mainGlobals "is_requirement" = some (some (.ref f_ir)))
    (l_ir : K.lookup f_ir = some ⟨oc_ir, od_ir, .func (PySem.W.fnOf "is_requirement" "is_requirement" (defArgs sIr) (defBody sIr) (defScope sIr) .none kV_ir dc_ir pm_ir an_ir cd_ir ct_ir), sl_ir⟩)
    (c_ir : PySem.W.codeIn K cd_ir "is_requirement" = true)
    (k_ir : PySem.W.keepIn K (.ref f_ir) = true)
    (a_nwr : PySem.W.nsIn K mainGlobals "names_with_repetition" = some (some (.ref f_nwr)))
    (l_nwr : K.lookup f_nwr = some ⟨oc_nwr, od_nwr, .func (PySem.W.fnOf "names_with_repetition" "names_with_repetition" (defArgs sNwr) (defBody sNwr) (defScope sNwr) .none kV_nwr dc_nwr pm_nwr an_nwr cd_nwr ct_nwr), sl_nwr⟩)
    (c_nwr : PySem.W.codeIn K cd_nwr "names_with_repetition" = true)
    (k_nwr : PySem.W.keepIn K (.ref f_nwr) = true)
    (a_nin : PySem.W.nsIn K mainGlobals "names_in" = some (some (.ref f_nin)))
    (l_nin : K.lookup f_nin = some ⟨oc_nin, od_nin, .func (PySem.W.fnOf "names_in" "names_in" (defArgs sNin) (defBody sNin) (defScope sNin) .none kV_nin dc_nin pm_nin an_nin cd_nin ct_nin), sl_nin⟩)
    (c_nin : PySem.W.codeIn K cd_nin "names_in" = true)
    (k_nin : PySem.W.keepIn K (.ref f_nin) = true)
    (a_sp : PySem.W.nsIn K mainGlobals "satisfies_part" = some (some (.ref f_sp)))
    (l_sp : K.lookup f_sp = some ⟨oc_sp, od_sp, .func (PySem.W.fnOf "satisfies_part" "satisfies_part" (defArgs sSp) (defBody sSp) (defScope sSp) .none kV_sp dc_sp pm_sp an_sp cd_sp ct_sp), sl_sp⟩)
    (c_sp : PySem.W.codeIn K cd_sp "satisfies_part" = true)
    (k_sp : PySem.W.keepIn K (.ref f_sp) = true)
    (a_sat : PySem.W.nsIn K mainGlobals "satisfies" = some (some (.ref f_sat)))
    (l_sat : K.lookup f_sat = some ⟨oc_sat, od_sat, .func (PySem.W.fnOf "satisfies" "satisfies" (defArgs sSat) (defBody sSat) (defScope sSat) .none kV_sat dc_sat pm_sat an_sat cd_sat ct_sat), sl_sat⟩)
    (c_sat : PySem.W.codeIn K cd_sat "satisfies" = true)
    (k_sat : PySem.W.keepIn K (.ref f_sat) = true)
    (a_cr : PySem.W.nsIn K mainGlobals "can_be_removed" = some (some (.ref f_cr)))
    (l_cr : K.lookup f_cr = some ⟨oc_cr, od_cr, .func (PySem.W.fnOf "can_be_removed" "can_be_removed" (defArgs sCr) (defBody sCr) (defScope sCr) .none kV_cr dc_cr pm_cr an_cr cd_cr ct_cr), sl_cr⟩)
    (c_cr : PySem.W.codeIn K cd_cr "can_be_removed" = true)
    (k_cr : PySem.W.keepIn K (.ref f_cr) = true)
    (a_fr : PySem.W.nsIn K mainGlobals "first_removable" = some (some (.ref f_fr)))
    (l_fr : K.lookup f_fr = some ⟨oc_fr, od_fr, .func (PySem.W.fnOf "first_removable" "first_removable" (defArgs sFr) (defBody sFr) (defScope sFr) .none kV_fr dc_fr pm_fr an_fr cd_fr ct_fr), sl_fr⟩)
    (c_fr : PySem.W.codeIn K cd_fr "first_removable" = true)
    (k_fr : PySem.W.keepIn K (.ref f_fr) = true)
    (a_so : PySem.W.nsIn K mainGlobals "start_of_removal" = some (some (.ref f_so)))
    (l_so : K.lookup f_so = some ⟨oc_so, od_so, .func (PySem.W.fnOf "start_of_removal" "start_of_removal" (defArgs sSo) (defBody sSo) (defScope sSo) .none kV_so dc_so pm_so an_so cd_so ct_so), sl_so⟩)
    (c_so : PySem.W.codeIn K cd_so "start_of_removal" = true)
    (k_so : PySem.W.keepIn K (.ref f_so) = true)
    (a_rm : PySem.W.nsIn K mainGlobals "removal_order" = some (some (.ref f_rm)))
    (l_rm : K.lookup f_rm = some ⟨oc_rm, od_rm, .func (PySem.W.fnOf "removal_order" "removal_order" (defArgs sRm) (defBody sRm) (defScope sRm) .none kV_rm dc_rm pm_rm an_rm cd_rm ct_rm), sl_rm⟩)
    (c_rm : PySem.W.codeIn K cd_rm "removal_order" = true)
    (k_rm : PySem.W.keepIn K (.ref f_rm) = true)
    (a_lq : PySem.W.nsIn K mainGlobals "largest_quorum" = some (some (.ref f_lq)))
    (l_lq : K.lookup f_lq = some ⟨oc_lq, od_lq, .func (PySem.W.fnOf "largest_quorum" "largest_quorum" (defArgs sLq) (defBody sLq) (defScope sLq) .none kV_lq dc_lq pm_lq an_lq cd_lq ct_lq), sl_lq⟩)
    (c_lq : PySem.W.codeIn K cd_lq "largest_quorum" = true)
    (k_lq : PySem.W.keepIn K (.ref f_lq) = true)
    (a_cq : PySem.W.nsIn K mainGlobals "certificate_or_quorums" = some (some (.ref f_cq)))
    (l_cq : K.lookup f_cq = some ⟨oc_cq, od_cq, .func (PySem.W.fnOf "certificate_or_quorums" "certificate_or_quorums" (defArgs sCq) (defBody sCq) (defScope sCq) .none kV_cq dc_cq pm_cq an_cq cd_cq ct_cq), sl_cq⟩)
    (c_cq : PySem.W.codeIn K cd_cq "certificate_or_quorums" = true)
    (k_cq : PySem.W.keepIn K (.ref f_cq) = true)
    (a_it : PySem.W.nsIn K mainGlobals "intersection" = some (some (.ref f_it)))
    (l_it : K.lookup f_it = some ⟨oc_it, od_it, .func (PySem.W.fnOf "intersection" "intersection" (defArgs sIt) (defBody sIt) (defScope sIt) .none (.ref kD) dc_it pm_it an_it cd_it ct_it), sl_it⟩)
    (c_it : PySem.W.codeIn K cd_it "intersection" = true)
    (k_it : PySem.W.keepIn K (.ref f_it) = true)
    (a_rb : PySem.W.nsIn K mainGlobals "requirements_by_name" = some (some (.ref f_rb)))
    (l_rb : K.lookup f_rb = some ⟨oc_rb, od_rb, .func (PySem.W.fnOf "requirements_by_name" "requirements_by_name" (defArgs sRb) (defBody sRb) (defScope sRb) .none kV_rb dc_rb pm_rb an_rb cd_rb ct_rb), sl_rb⟩)
    (c_rb : PySem.W.codeIn K cd_rb "requirements_by_name" = true)
    (k_rb : PySem.W.keepIn K (.ref f_rb) = true)
    (a_cu : PySem.W.nsIn K mainGlobals "check_names_used" = some (some (.ref f_cu)))
    (l_cu : K.lookup f_cu = some ⟨oc_cu, od_cu, .func (PySem.W.fnOf "check_names_used" "check_names_used" (defArgs sCu) (defBody sCu) (defScope sCu) .none kV_cu dc_cu pm_cu an_cu cd_cu ct_cu), sl_cu⟩)
    (c_cu : PySem.W.codeIn K cd_cu "check_names_used" = true)
    (k_cu : PySem.W.keepIn K (.ref f_cu) = true)
    (a_nn : PySem.W.findIn K (.ref C) "node_names" = some (some (.ref f_nn)))
    (i_nn : PySem.W.isFn K (.ref f_nn) = true)
    (l_nn : K.lookup f_nn = some ⟨oc_nn, od_nn, .func (PySem.W.fnOf "node_names" "Network.node_names" (defArgs sNn) (defBody sNn) (defScope sNn) .none kV_nn dc_nn pm_nn an_nn cd_nn ct_nn), sl_nn⟩)
    (c_nn : PySem.W.codeIn K cd_nn "Network.node_names" = true)
    (k_nn : PySem.W.keepIn K (.ref f_nn) = true)
    (a_cn : PySem.W.findIn K (.ref C) "check_nodes" = some (some (.ref f_cn)))
    (i_cn : PySem.W.isFn K (.ref f_cn) = true)
    (l_cn : K.lookup f_cn = some ⟨oc_cn, od_cn, .func (PySem.W.fnOf "check_nodes" "Network.check_nodes" (defArgs sCn) (defBody sCn) (defScope sCn) .none kV_cn dc_cn pm_cn an_cn cd_cn ct_cn), sl_cn⟩)
    (c_cn : PySem.W.codeIn K cd_cn "Network.check_nodes" = true)
    (k_cn : PySem.W.keepIn K (.ref f_cn) = true)
    (a_ro : PySem.W.findIn K (.ref C) "requirement_of" = some (some (.ref f_ro)))
    (i_ro : PySem.W.isFn K (.ref f_ro) = true)
    (l_ro : K.lookup f_ro = some ⟨oc_ro, od_ro, .func (PySem.W.fnOf "requirement_of" "Network.requirement_of" (defArgs sRo) (defBody sRo) (defScope sRo) .none kV_ro dc_ro pm_ro an_ro cd_ro ct_ro), sl_ro⟩)
    (c_ro : PySem.W.codeIn K cd_ro "Network.requirement_of" = true)
    (k_ro : PySem.W.keepIn K (.ref f_ro) = true)
    (a_box : PySem.W.nsIn K mainGlobals "_law_box" = some (some (.ref f_box)))
    (l_box : K.lookup f_box = some ⟨oc_box, od_box, .func (PySem.W.fnOf "_law_box" "_law_box" (defArgs sBox) (defBody sBox) (defScope sBox) .none kV_box dc_box pm_box an_box cd_box ct_box), sl_box⟩)
    (c_box : PySem.W.codeIn K cd_box "_law_box" = true)
    (k_box : PySem.W.keepIn K (.ref f_box) = true)
    (a_mix : PySem.W.nsIn K mainGlobals "_law_mixed" = some (some (.ref f_mix)))
    (l_mix : K.lookup f_mix = some ⟨oc_mix, od_mix, .func (PySem.W.fnOf "_law_mixed" "_law_mixed" (defArgs sMixed) (defBody sMixed) (defScope sMixed) .none kV_mix dc_mix pm_mix an_mix cd_mix ct_mix), sl_mix⟩)
    (c_mix : PySem.W.codeIn K cd_mix "_law_mixed" = true)
    (k_mix : PySem.W.keepIn K (.ref f_mix) = true)
    (a_take : PySem.W.nsIn K mainGlobals "_law_take" = some (some (.ref f_take)))
    (l_take : K.lookup f_take = some ⟨oc_take, od_take, .func (PySem.W.fnOf "_law_take" "_law_take" (defArgs sTake) (defBody sTake) (defScope sTake) .none kV_take dc_take pm_take an_take cd_take ct_take), sl_take⟩)
    (c_take : PySem.W.codeIn K cd_take "_law_take" = true)
    (k_take : PySem.W.keepIn K (.ref f_take) = true)
    (a_nam : PySem.W.nsIn K mainGlobals "_law_names" = some (some (.ref f_nam)))
    (l_nam : K.lookup f_nam = some ⟨oc_nam, od_nam, .func (PySem.W.fnOf "_law_names" "_law_names" (defArgs sNames) (defBody sNames) (defScope sNames) .none kV_nam dc_nam pm_nam an_nam cd_nam ct_nam), sl_nam⟩)
    (c_nam : PySem.W.codeIn K cd_nam "_law_names" = true)
    (k_nam : PySem.W.keepIn K (.ref f_nam) = true)
    (a_shu : PySem.W.nsIn K mainGlobals "_law_shuffled" = some (some (.ref f_shu)))
    (l_shu : K.lookup f_shu = some ⟨oc_shu, od_shu, .func (PySem.W.fnOf "_law_shuffled" "_law_shuffled" (defArgs sShu) (defBody sShu) (defScope sShu) .none kV_shu dc_shu pm_shu an_shu cd_shu ct_shu), sl_shu⟩)
    (c_shu : PySem.W.codeIn K cd_shu "_law_shuffled" = true)
    (k_shu : PySem.W.keepIn K (.ref f_shu) = true)
    (a_wit : PySem.W.nsIn K mainGlobals "is_within" = some (some (.ref f_wit)))
    (l_wit : K.lookup f_wit = some ⟨oc_wit, od_wit, .func (PySem.W.fnOf "is_within" "is_within" (defArgs sWit) (defBody sWit) (defScope sWit) .none kV_wit dc_wit pm_wit an_wit cd_wit ct_wit), sl_wit⟩)
    (c_wit : PySem.W.codeIn K cd_wit "is_within" = true)
    (k_wit : PySem.W.keepIn K (.ref f_wit) = true)
    (a_ord : PySem.W.nsIn K mainGlobals "set_order" = some (some (.ref f_ord)))
    (l_ord : K.lookup f_ord = some ⟨oc_ord, od_ord, .func (PySem.W.fnOf "set_order" "set_order" (defArgs sOrd) (defBody sOrd) (defScope sOrd) .none kV_ord dc_ord pm_ord an_ord cd_ord ct_ord), sl_ord⟩)
    (c_ord : PySem.W.codeIn K cd_ord "set_order" = true)
    (k_ord : PySem.W.keepIn K (.ref f_ord) = true)
    (a_sub : PySem.W.nsIn K mainGlobals "subsets" = some (some (.ref f_sub)))
    (l_sub : K.lookup f_sub = some ⟨oc_sub, od_sub, .func (PySem.W.fnOf "subsets" "subsets" (defArgs sSub) (defBody sSub) (defScope sSub) .none kV_sub dc_sub pm_sub an_sub cd_sub ct_sub), sl_sub⟩)
    (c_sub : PySem.W.codeIn K cd_sub "subsets" = true)
    (k_sub : PySem.W.keepIn K (.ref f_sub) = true)
    (a_min : PySem.W.nsIn K mainGlobals "minimal_sets" = some (some (.ref f_min)))
    (l_min : K.lookup f_min = some ⟨oc_min, od_min, .func (PySem.W.fnOf "minimal_sets" "minimal_sets" (defArgs sMin) (defBody sMin) (defScope sMin) .none kV_min dc_min pm_min an_min cd_min ct_min), sl_min⟩)
    (c_min : PySem.W.codeIn K cd_min "minimal_sets" = true)
    (k_min : PySem.W.keepIn K (.ref f_min) = true)
    (a_hn : PySem.W.nsIn K mainGlobals "honest_nodes" = some (some (.ref f_hn)))
    (l_hn : K.lookup f_hn = some ⟨oc_hn, od_hn, .func (PySem.W.fnOf "honest_nodes" "honest_nodes" (defArgs sHn) (defBody sHn) (defScope sHn) .none kV_hn dc_hn pm_hn an_hn cd_hn ct_hn), sl_hn⟩)
    (c_hn : PySem.W.codeIn K cd_hn "honest_nodes" = true)
    (k_hn : PySem.W.keepIn K (.ref f_hn) = true)
    (a_tol : PySem.W.nsIn K mainGlobals "tolerance" = some (some (.ref f_tol)))
    (l_tol : K.lookup f_tol = some ⟨oc_tol, od_tol, .func (PySem.W.fnOf "tolerance" "tolerance" (defArgs sTol) (defBody sTol) (defScope sTol) .none kV_tol dc_tol pm_tol an_tol cd_tol ct_tol), sl_tol⟩)
    (c_tol : PySem.W.codeIn K cd_tol "tolerance" = true)
    (k_tol : PySem.W.keepIn K (.ref f_tol) = true)
    (a_tls : PySem.W.nsIn K mainGlobals "tolerates" = some (some (.ref f_tls)))
    (l_tls : K.lookup f_tls = some ⟨oc_tls, od_tls, .func (PySem.W.fnOf "tolerates" "tolerates" (defArgs sTls) (defBody sTls) (defScope sTls) .none kV_tls dc_tls pm_tls an_tls cd_tls ct_tls), sl_tls⟩)
    (c_tls : PySem.W.codeIn K cd_tls "tolerates" = true)
    (k_tls : PySem.W.keepIn K (.ref f_tls) = true)
    (a_ts : PySem.W.nsIn K mainGlobals "tolerated_sets" = some (some (.ref f_ts)))
    (l_ts : K.lookup f_ts = some ⟨oc_ts, od_ts, .func (PySem.W.fnOf "tolerated_sets" "tolerated_sets" (defArgs sTs) (defBody sTs) (defScope sTs) .none kV_ts dc_ts pm_ts an_ts cd_ts ct_ts), sl_ts⟩)
    (c_ts : PySem.W.codeIn K cd_ts "tolerated_sets" = true)
    (k_ts : PySem.W.keepIn K (.ref f_ts) = true)
    (a_mc : PySem.W.nsIn K mainGlobals "minimal_containing" = some (some (.ref f_mc)))
    (l_mc : K.lookup f_mc = some ⟨oc_mc, od_mc, .func (PySem.W.fnOf "minimal_containing" "minimal_containing" (defArgs sMc) (defBody sMc) (defScope sMc) .none kV_mc dc_mc pm_mc an_mc cd_mc ct_mc), sl_mc⟩)
    (c_mc : PySem.W.codeIn K cd_mc "minimal_containing" = true)
    (k_mc : PySem.W.keepIn K (.ref f_mc) = true)
    (a_mt : PySem.W.nsIn K mainGlobals "minimal_tolerated" = some (some (.ref f_mt)))
    (l_mt : K.lookup f_mt = some ⟨oc_mt, od_mt, .func (PySem.W.fnOf "minimal_tolerated" "minimal_tolerated" (defArgs sMt) (defBody sMt) (defScope sMt) .none kV_mt dc_mt pm_mt an_mt cd_mt ct_mt), sl_mt⟩)
    (c_mt : PySem.W.codeIn K cd_mt "minimal_tolerated" = true)
    (k_mt : PySem.W.keepIn K (.ref f_mt) = true)
    (a_ci : PySem.W.nsIn K mainGlobals "check_intersection" = some (some (.ref f_ci)))
    (l_ci : K.lookup f_ci = some ⟨oc_ci, od_ci, .func (PySem.W.fnOf "check_intersection" "check_intersection" (defArgs sCi) (defBody sCi) (defScope sCi) .none kV_ci dc_ci pm_ci an_ci cd_ci ct_ci), sl_ci⟩)
    (c_ci : PySem.W.codeIn K cd_ci "check_intersection" = true)
    (k_ci : PySem.W.keepIn K (.ref f_ci) = true)
    (a_cl : PySem.W.nsIn K mainGlobals "closure" = some (some (.ref f_cl)))
    (l_cl : K.lookup f_cl = some ⟨oc_cl, od_cl, .func (PySem.W.fnOf "closure" "closure" (defArgs sCl) (defBody sCl) (defScope sCl) .none kV_cl dc_cl pm_cl an_cl cd_cl ct_cl), sl_cl⟩)
    (c_cl : PySem.W.codeIn K cd_cl "closure" = true)
    (k_cl : PySem.W.keepIn K (.ref f_cl) = true)
    (a_fs : PySem.W.nsIn K mainGlobals "fatal_sets" = some (some (.ref f_fs)))
    (l_fs : K.lookup f_fs = some ⟨oc_fs, od_fs, .func (PySem.W.fnOf "fatal_sets" "fatal_sets" (defArgs sFs) (defBody sFs) (defScope sFs) .none kV_fs dc_fs pm_fs an_fs cd_fs ct_fs), sl_fs⟩)
    (c_fs : PySem.W.codeIn K cd_fs "fatal_sets" = true)
    (k_fs : PySem.W.keepIn K (.ref f_fs) = true)
    (a_ma : PySem.W.nsIn K mainGlobals "meets_all" = some (some (.ref f_ma)))
    (l_ma : K.lookup f_ma = some ⟨oc_ma, od_ma, .func (PySem.W.fnOf "meets_all" "meets_all" (defArgs sMet) (defBody sMet) (defScope sMet) .none kV_ma dc_ma pm_ma an_ma cd_ma ct_ma), sl_ma⟩)
    (c_ma : PySem.W.codeIn K cd_ma "meets_all" = true)
    (k_ma : PySem.W.keepIn K (.ref f_ma) = true)
    (a_gs : PySem.W.nsIn K mainGlobals "guardian_sets" = some (some (.ref f_gs)))
    (l_gs : K.lookup f_gs = some ⟨oc_gs, od_gs, .func (PySem.W.fnOf "guardian_sets" "guardian_sets" (defArgs sGs) (defBody sGs) (defScope sGs) .none kV_gs dc_gs pm_gs an_gs cd_gs ct_gs), sl_gs⟩)
    (c_gs : PySem.W.codeIn K cd_gs "guardian_sets" = true)
    (k_gs : PySem.W.keepIn K (.ref f_gs) = true)
    (a_lsub : PySem.W.nsIn K mainGlobals "_law_subsets" = some (some (.ref f_lsub)))
    (l_lsub : K.lookup f_lsub = some ⟨oc_lsub, od_lsub, .func (PySem.W.fnOf "_law_subsets" "_law_subsets" (defArgs sLsub) (defBody sLsub) (defScope sLsub) .none kV_lsub dc_lsub pm_lsub an_lsub cd_lsub ct_lsub), sl_lsub⟩)
    (c_lsub : PySem.W.codeIn K cd_lsub "_law_subsets" = true)
    (k_lsub : PySem.W.keepIn K (.ref f_lsub) = true)
    (a_sm : PySem.W.nsIn K mainGlobals "_law_same" = some (some (.ref f_sm)))
    (l_sm : K.lookup f_sm = some ⟨oc_sm, od_sm, .func (PySem.W.fnOf "_law_same" "_law_same" (defArgs sSm) (defBody sSm) (defScope sSm) .none kV_sm dc_sm pm_sm an_sm cd_sm ct_sm), sl_sm⟩)
    (c_sm : PySem.W.codeIn K cd_sm "_law_same" = true)
    (k_sm : PySem.W.keepIn K (.ref f_sm) = true)
    (a_ch : PySem.W.nsIn K mainGlobals "_law_choices" = some (some (.ref f_ch)))
    (l_ch : K.lookup f_ch = some ⟨oc_ch, od_ch, .func (PySem.W.fnOf "_law_choices" "_law_choices" (defArgs sCh) (defBody sCh) (defScope sCh) .none kV_ch dc_ch pm_ch an_ch cd_ch ct_ch), sl_ch⟩)
    (c_ch : PySem.W.codeIn K cd_ch "_law_choices" = true)
    (k_ch : PySem.W.keepIn K (.ref f_ch) = true)
    (a_wd : PySem.W.nsIn K mainGlobals "_law_word" = some (some (.ref f_wd)))
    (l_wd : K.lookup f_wd = some ⟨oc_wd, od_wd, .func (PySem.W.fnOf "_law_word" "_law_word" (defArgs sWd) (defBody sWd) (defScope sWd) .none kV_wd dc_wd pm_wd an_wd cd_wd ct_wd), sl_wd⟩)
    (c_wd : PySem.W.codeIn K cd_wd "_law_word" = true)
    (k_wd : PySem.W.keepIn K (.ref f_wd) = true)
    (a_lr : PySem.W.nsIn K mainGlobals "_law_lists_right" = some (some (.ref f_lr)))
    (l_lr : K.lookup f_lr = some ⟨oc_lr, od_lr, .func (PySem.W.fnOf "_law_lists_right" "_law_lists_right" (defArgs sLr) (defBody sLr) (defScope sLr) .none kV_lr dc_lr pm_lr an_lr cd_lr ct_lr), sl_lr⟩)
    (c_lr : PySem.W.codeIn K cd_lr "_law_lists_right" = true)
    (k_lr : PySem.W.keepIn K (.ref f_lr) = true)
    (a_law : PySem.W.nsIn K mainGlobals "law" = some (some (.ref f_law)))
    (l_law : K.lookup f_law = some ⟨oc_law, od_law, .func (PySem.W.fnOf "law" "law" (defArgs sLaw) (defBody sLaw) (defScope sLaw) .none kV_law dc_law pm_law an_law cd_law ct_law), sl_law⟩)
    (c_law : PySem.W.codeIn K cd_law "law" = true)
    (k_law : PySem.W.keepIn K (.ref f_law) = true)
    (a_ini : PySem.W.findIn K (.ref C) "__init__" = some (some (.ref f_ini)))
    (i_ini : PySem.W.isFn K (.ref f_ini) = true)
    (l_ini : K.lookup f_ini = some ⟨oc_ini, od_ini, .func (PySem.W.fnOf "__init__" "Network.__init__" (defArgs sNi) (defBody sNi) (defScope sNi) (.ref dT) kV_ini dc_ini pm_ini an_ini cd_ini ct_ini), sl_ini⟩)
    (c_ini : PySem.W.codeIn K cd_ini "Network.__init__" = true)
    (k_ini : PySem.W.keepIn K (.ref f_ini) = true)
    (y_kd : PySem.W.nsIn K kD "faulty" = some (some (.ref dE)))
    (y_de : K.lookup dE = some ⟨.type "tuple", odE, .seq #[] nE, slE⟩)
    (y_dT : K.lookup dT = some ⟨ocT, odT, .seq #[.ref eA] nT, slT⟩)
    (y_let : PySem.W.nsIn K mainGlobals "LETTERS" = some (some (.str abc tA)))
    (y_lon : PySem.W.nsIn K mainGlobals "LONGEST_NAME" = some (some (.int 8 tB)))
    (y_mn : PySem.W.nsIn K mainGlobals "MOST_NAMES" = some (some (.int 12 tC)))
    (y_md : PySem.W.nsIn K mainGlobals "MOST_DIFFERENT_NAMES" = some (some (.int 8 tD)))
    (w_pg : PySem.W.plainGet K C Str.empty = true)
    (w_hd : PySem.W.hasDictIn K C = true)
    (w_po : PySem.W.plainOver K C = true)
    (w_sa : PySem.W.findIn K (.ref C) "__setattr__" = some (some (.builtin "object.__setattr__")))
    (w_mk : PySem.W.makesIn K C = true)
    (w_kc : PySem.W.keepIn K (.ref C) = true)
    (w_nR : PySem.W.findIn K (.ref C) "requirements" = some none)
    (z_isi : PySem.W.nsIn K mainGlobals "isinstance" = some none)
    (z_str : PySem.W.nsIn K mainGlobals "str" = some none)
    (z_len : PySem.W.nsIn K mainGlobals "len" = some none)
    (z_tup : PySem.W.nsIn K mainGlobals "tuple" = some none)
    (z_lst : PySem.W.nsIn K mainGlobals "list" = some none)
    (z_srt : PySem.W.nsIn K mainGlobals "sorted" = some none)
    (z_set : PySem.W.nsIn K mainGlobals "set" = some none)
    (z_rng : PySem.W.nsIn K mainGlobals "range" = some none)
    (z_int : PySem.W.nsIn K mainGlobals "int" = some none)
    (z_bool : PySem.W.nsIn K mainGlobals "bool" = some none)
    (z_sum : PySem.W.nsIn K mainGlobals "sum" = some none)
    (z_min : PySem.W.nsIn K mainGlobals "min" = some none)
    (z_max : PySem.W.nsIn K mainGlobals "max" = some none)
    (z_all : PySem.W.nsIn K mainGlobals "all" = some none)
    (z_any : PySem.W.nsIn K mainGlobals "any" = some none)
    (z_dict : PySem.W.nsIn K mainGlobals "dict" = some none)
    (z_zip : PySem.W.nsIn K mainGlobals "zip" = some none) :
    ∃ fd : FuncData, (∀ (s : Shared) (v : Value), BindsTo s fd ⟨[v], []⟩ [("_law_script", v)]) ∧ ∀ base : Heap, K.In base → base.Ns mainGlobals mg → FnOk l.prog w K mg base CX0 33 fa fd ["_law_script"] (spLaw K) := by
  have e := hfa.symm.trans (PySem.W.mg_of X G a_law)
  cases e
  have T0 : Blt mg := ⟨PySem.W.mg_none_of X G z_isi, PySem.W.mg_none_of X G z_str, PySem.W.mg_none_of X G z_len, PySem.W.mg_none_of X G z_tup, PySem.W.mg_none_of X G z_lst, PySem.W.mg_none_of X G z_srt, PySem.W.mg_none_of X G z_set, PySem.W.mg_none_of X G z_rng, PySem.W.mg_none_of X G z_int, PySem.W.mg_none_of X G z_bool, PySem.W.mg_none_of X G z_sum, PySem.W.mg_none_of X G z_min, PySem.W.mg_none_of X G z_max⟩
  have T : Bq mg := ⟨T0, PySem.W.mg_none_of X G z_all, PySem.W.mg_none_of X G z_any, PySem.W.mg_none_of X G z_dict, ⟨_, PySem.W.mg_of X G y_let, _, rfl⟩, ⟨_, PySem.W.mg_of X G y_lon, _, rfl⟩, ⟨_, PySem.W.mg_of X G y_mn, _, rfl⟩, ⟨_, PySem.W.mg_of X G y_md, _, rfl⟩⟩
  have TX : Txt K mg C := ⟨⟨w_pg, w_hd, w_po, w_sa⟩, w_nR, PySem.W.mg_of X G aC⟩
  have F_ns := fun_mk (st := sNs) l_ns c_ns k_ns
  have g_ns : mg "node_set" = some (.ref _) := PySem.W.mg_of X G a_ns
  have b_ns := F_ns.binds (ps := ["names"]) fun _ _ _ _ _ _ us hl => match us, hl with | [_], _ => rfl
  have F_out := fun_mk (st := sOut) l_out c_out k_out
  have g_out : mg "names_outside" = some (.ref _) := PySem.W.mg_of X G a_out
  have b_out := F_out.binds (ps := ["names", "excluded"]) fun _ _ _ _ _ _ us hl => match us, hl with | [_, _], _ => rfl
  have F_isn := fun_mk (st := sIn) l_isn c_isn k_isn
  have g_isn : mg "is_name" = some (.ref _) := PySem.W.mg_of X G a_isn
  have b_isn := F_isn.binds (ps := ["value"]) fun _ _ _ _ _ _ us hl => match us, hl with | [_], _ => rfl
  have F_who := fun_mk (st := sWh) l_who c_who k_who
  have g_who : mg "is_whole_number" = some (.ref _) := PySem.W.mg_of X G a_who
  have b_who := F_who.binds (ps := ["value"]) fun _ _ _ _ _ _ us hl => match us, hl with | [_], _ => rfl
  have F_ct := fun_mk (st := sCt) l_ct c_ct k_ct
  have g_ct : mg "is_counted_tuple" = some (.ref _) := PySem.W.mg_of X G a_ct
  have b_ct := F_ct.binds (ps := ["value"]) fun _ _ _ _ _ _ us hl => match us, hl with | [_], _ => rfl
  have F_hd := fun_mk (st := sHd) l_hd c_hd k_hd
  have g_hd : mg "has_duplicates" = some (.ref _) := PySem.W.mg_of X G a_hd
  have b_hd := F_hd.binds (ps := ["parts"]) fun _ _ _ _ _ _ us hl => match us, hl with | [_], _ => rfl
  have F_sr := fun_mk (st := sSr) l_sr c_sr k_sr
  have g_sr : mg "is_simple_requirement" = some (.ref _) := PySem.W.mg_of X G a_sr
  have b_sr := F_sr.binds (ps := ["value"]) fun _ _ _ _ _ _ us hl => match us, hl with | [_], _ => rfl
  have F_ir := fun_mk (st := sIr) l_ir c_ir k_ir
  have g_ir : mg "is_requirement" = some (.ref _) := PySem.W.mg_of X G a_ir
  have b_ir := F_ir.binds (ps := ["value"]) fun _ _ _ _ _ _ us hl => match us, hl with | [_], _ => rfl
  have F_nwr := fun_mk (st := sNwr) l_nwr c_nwr k_nwr
  have g_nwr : mg "names_with_repetition" = some (.ref _) := PySem.W.mg_of X G a_nwr
  have b_nwr := F_nwr.binds (ps := ["requirement"]) fun _ _ _ _ _ _ us hl => match us, hl with | [_], _ => rfl
  have F_nin := fun_mk (st := sNin) l_nin c_nin k_nin
  have g_nin : mg "names_in" = some (.ref _) := PySem.W.mg_of X G a_nin
  have b_nin := F_nin.binds (ps := ["requirement"]) fun _ _ _ _ _ _ us hl => match us, hl with | [_], _ => rfl
  have F_sp := fun_mk (st := sSp) l_sp c_sp k_sp
  have g_sp : mg "satisfies_part" = some (.ref _) := PySem.W.mg_of X G a_sp
  have b_sp := F_sp.binds (ps := ["part", "nodes"]) fun _ _ _ _ _ _ us hl => match us, hl with | [_, _], _ => rfl
  have F_sat := fun_mk (st := sSat) l_sat c_sat k_sat
  have g_sat : mg "satisfies" = some (.ref _) := PySem.W.mg_of X G a_sat
  have b_sat := F_sat.binds (ps := ["requirement", "nodes"]) fun _ _ _ _ _ _ us hl => match us, hl with | [_, _], _ => rfl
  have F_cr := fun_mk (st := sCr) l_cr c_cr k_cr
  have g_cr : mg "can_be_removed" = some (.ref _) := PySem.W.mg_of X G a_cr
  have b_cr := F_cr.binds (ps := ["network", "name", "nodes", "faulty"]) fun _ _ _ _ _ _ us hl => match us, hl with | [_, _, _, _], _ => rfl
  have F_fr := fun_mk (st := sFr) l_fr c_fr k_fr
  have g_fr : mg "first_removable" = some (.ref _) := PySem.W.mg_of X G a_fr
  have b_fr := F_fr.binds (ps := ["network", "nodes", "faulty"]) fun _ _ _ _ _ _ us hl => match us, hl with | [_, _, _], _ => rfl
  have F_so := fun_mk (st := sSo) l_so c_so k_so
  have g_so : mg "start_of_removal" = some (.ref _) := PySem.W.mg_of X G a_so
  have b_so := F_so.binds (ps := ["network", "nodes", "faulty"]) fun _ _ _ _ _ _ us hl => match us, hl with | [_, _, _], _ => rfl
  have F_rm := fun_mk (st := sRm) l_rm c_rm k_rm
  have g_rm : mg "removal_order" = some (.ref _) := PySem.W.mg_of X G a_rm
  have b_rm : Kb K (PySem.W.fnOf "removal_order" "removal_order" (defArgs sRm) (defBody sRm) (defScope sRm) .none kV_rm dc_rm pm_rm an_rm cd_rm ct_rm) ["network", "nodes", "faulty"] 2 := ⟨fun s us ws _ h1 h2 => match us, ws, h1, h2 with | [_, _], [_], _, _ => .of_eq rfl, fun r q => r.append q⟩
  have F_lq := fun_mk (st := sLq) l_lq c_lq k_lq
  have g_lq : mg "largest_quorum" = some (.ref _) := PySem.W.mg_of X G a_lq
  have b_lq : Kb K (PySem.W.fnOf "largest_quorum" "largest_quorum" (defArgs sLq) (defBody sLq) (defScope sLq) .none kV_lq dc_lq pm_lq an_lq cd_lq ct_lq) ["network", "nodes", "faulty"] 2 := ⟨fun s us ws _ h1 h2 => match us, ws, h1, h2 with | [_, _], [_], _, _ => .of_eq rfl, fun r q => r.append q⟩
  have F_cq := fun_mk (st := sCq) l_cq c_cq k_cq
  have g_cq : mg "certificate_or_quorums" = some (.ref _) := PySem.W.mg_of X G a_cq
  have b_cq := F_cq.binds (ps := ["network", "one", "other", "faulty"]) fun _ _ _ _ _ _ us hl => match us, hl with | [_, _, _, _], _ => rfl
  have F_it := fun_mk (st := sIt) l_it c_it k_it
  have g_it : mg "intersection" = some (.ref _) := PySem.W.mg_of X G a_it
  have b_it : Kb K (PySem.W.fnOf "intersection" "intersection" (defArgs sIt) (defBody sIt) (defScope sIt) .none (.ref kD) dc_it pm_it an_it cd_it ct_it) ["network", "faulty"] 1 := ⟨fun s us ws _ h1 h2 => match us, ws, h1, h2 with | [_], [_], _, _ => .of_eq rfl, fun r q => r.append q⟩
  have F_rb := fun_mk (st := sRb) l_rb c_rb k_rb
  have g_rb : mg "requirements_by_name" = some (.ref _) := PySem.W.mg_of X G a_rb
  have b_rb := F_rb.binds (ps := ["rows"]) fun _ _ _ _ _ _ us hl => match us, hl with | [_], _ => rfl
  have F_cu := fun_mk (st := sCu) l_cu c_cu k_cu
  have g_cu : mg "check_names_used" = some (.ref _) := PySem.W.mg_of X G a_cu
  have b_cu := F_cu.binds (ps := ["requirements"]) fun _ _ _ _ _ _ us hl => match us, hl with | [_], _ => rfl
  have F_nn := fun_mk (st := sNn) l_nn c_nn k_nn
  have M_nn : Meth K C "node_names" f_nn := ⟨a_nn, i_nn, k_nn⟩
  have b_nn := F_nn.binds (ps := ["self"]) fun _ _ _ _ _ _ us hl => match us, hl with | [_], _ => rfl
  have F_cn := fun_mk (st := sCn) l_cn c_cn k_cn
  have M_cn : Meth K C "check_nodes" f_cn := ⟨a_cn, i_cn, k_cn⟩
  have b_cn := F_cn.binds (ps := ["self", "names"]) fun _ _ _ _ _ _ us hl => match us, hl with | [_, _], _ => rfl
  have F_ro := fun_mk (st := sRo) l_ro c_ro k_ro
  have M_ro : Meth K C "requirement_of" f_ro := ⟨a_ro, i_ro, k_ro⟩
  have b_ro := F_ro.binds (ps := ["self", "name"]) fun _ _ _ _ _ _ us hl => match us, hl with | [_, _], _ => rfl
  have F_box := fun_mk (st := sBox) l_box c_box k_box
  have g_box : mg "_law_box" = some (.ref _) := PySem.W.mg_of X G a_box
  have b_box := F_box.binds (ps := ["_law_script"]) fun _ _ _ _ _ _ us hl => match us, hl with | [_], _ => rfl
  have F_mix := fun_mk (st := sMixed) l_mix c_mix k_mix
  have g_mix : mg "_law_mixed" = some (.ref _) := PySem.W.mg_of X G a_mix
  have b_mix := F_mix.binds (ps := ["_law_cell", "_law_k"]) fun _ _ _ _ _ _ us hl => match us, hl with | [_, _], _ => rfl
  have F_take := fun_mk (st := sTake) l_take c_take k_take
  have g_take : mg "_law_take" = some (.ref _) := PySem.W.mg_of X G a_take
  have b_take := F_take.binds (ps := ["_law_box_here", "_law_size"]) fun _ _ _ _ _ _ us hl => match us, hl with | [_, _], _ => rfl
  have F_nam := fun_mk (st := sNames) l_nam c_nam k_nam
  have g_nam : mg "_law_names" = some (.ref _) := PySem.W.mg_of X G a_nam
  have b_nam := F_nam.binds (ps := ["_law_box_here", "_law_many"]) fun _ _ _ _ _ _ us hl => match us, hl with | [_, _], _ => rfl
  have F_shu := fun_mk (st := sShu) l_shu c_shu k_shu
  have g_shu : mg "_law_shuffled" = some (.ref _) := PySem.W.mg_of X G a_shu
  have b_shu := F_shu.binds (ps := ["_law_box_here", "_law_values"]) fun _ _ _ _ _ _ us hl => match us, hl with | [_, _], _ => rfl
  have F_wit := fun_mk (st := sWit) l_wit c_wit k_wit
  have g_wit : mg "is_within" = some (.ref _) := PySem.W.mg_of X G a_wit
  have b_wit := F_wit.binds (ps := ["small", "large"]) fun _ _ _ _ _ _ us hl => match us, hl with | [_, _], _ => rfl
  have F_ord := fun_mk (st := sOrd) l_ord c_ord k_ord
  have g_ord : mg "set_order" = some (.ref _) := PySem.W.mg_of X G a_ord
  have b_ord := F_ord.binds (ps := ["nodes"]) fun _ _ _ _ _ _ us hl => match us, hl with | [_], _ => rfl
  have F_sub := fun_mk (st := sSub) l_sub c_sub k_sub
  have g_sub : mg "subsets" = some (.ref _) := PySem.W.mg_of X G a_sub
  have b_sub := F_sub.binds (ps := ["names"]) fun _ _ _ _ _ _ us hl => match us, hl with | [_], _ => rfl
  have F_min := fun_mk (st := sMin) l_min c_min k_min
  have g_min : mg "minimal_sets" = some (.ref _) := PySem.W.mg_of X G a_min
  have b_min := F_min.binds (ps := ["sets"]) fun _ _ _ _ _ _ us hl => match us, hl with | [_], _ => rfl
  have F_hn := fun_mk (st := sHn) l_hn c_hn k_hn
  have g_hn : mg "honest_nodes" = some (.ref _) := PySem.W.mg_of X G a_hn
  have b_hn := F_hn.binds (ps := ["network", "faulty"]) fun _ _ _ _ _ _ us hl => match us, hl with | [_, _], _ => rfl
  have F_tol := fun_mk (st := sTol) l_tol c_tol k_tol
  have g_tol : mg "tolerance" = some (.ref _) := PySem.W.mg_of X G a_tol
  have b_tol := F_tol.binds (ps := ["network", "faulty"]) fun _ _ _ _ _ _ us hl => match us, hl with | [_, _], _ => rfl
  have F_tls := fun_mk (st := sTls) l_tls c_tls k_tls
  have g_tls : mg "tolerates" = some (.ref _) := PySem.W.mg_of X G a_tls
  have b_tls := F_tls.binds (ps := ["network", "faulty"]) fun _ _ _ _ _ _ us hl => match us, hl with | [_, _], _ => rfl
  have F_ts := fun_mk (st := sTs) l_ts c_ts k_ts
  have g_ts : mg "tolerated_sets" = some (.ref _) := PySem.W.mg_of X G a_ts
  have b_ts := F_ts.binds (ps := ["network"]) fun _ _ _ _ _ _ us hl => match us, hl with | [_], _ => rfl
  have F_mc := fun_mk (st := sMc) l_mc c_mc k_mc
  have g_mc : mg "minimal_containing" = some (.ref _) := PySem.W.mg_of X G a_mc
  have b_mc := F_mc.binds (ps := ["sets", "nodes"]) fun _ _ _ _ _ _ us hl => match us, hl with | [_, _], _ => rfl
  have F_mt := fun_mk (st := sMt) l_mt c_mt k_mt
  have g_mt : mg "minimal_tolerated" = some (.ref _) := PySem.W.mg_of X G a_mt
  have b_mt := F_mt.binds (ps := ["network", "faulty"]) fun _ _ _ _ _ _ us hl => match us, hl with | [_, _], _ => rfl
  have F_ci := fun_mk (st := sCi) l_ci c_ci k_ci
  have g_ci : mg "check_intersection" = some (.ref _) := PySem.W.mg_of X G a_ci
  have b_ci := F_ci.binds (ps := ["network"]) fun _ _ _ _ _ _ us hl => match us, hl with | [_], _ => rfl
  have F_cl := fun_mk (st := sCl) l_cl c_cl k_cl
  have g_cl : mg "closure" = some (.ref _) := PySem.W.mg_of X G a_cl
  have b_cl := F_cl.binds (ps := ["network", "faulty"]) fun _ _ _ _ _ _ us hl => match us, hl with | [_, _], _ => rfl
  have F_fs := fun_mk (st := sFs) l_fs c_fs k_fs
  have g_fs : mg "fatal_sets" = some (.ref _) := PySem.W.mg_of X G a_fs
  have b_fs := F_fs.binds (ps := ["network"]) fun _ _ _ _ _ _ us hl => match us, hl with | [_], _ => rfl
  have F_ma := fun_mk (st := sMet) l_ma c_ma k_ma
  have g_ma : mg "meets_all" = some (.ref _) := PySem.W.mg_of X G a_ma
  have b_ma := F_ma.binds (ps := ["nodes", "sets"]) fun _ _ _ _ _ _ us hl => match us, hl with | [_, _], _ => rfl
  have F_gs := fun_mk (st := sGs) l_gs c_gs k_gs
  have g_gs : mg "guardian_sets" = some (.ref _) := PySem.W.mg_of X G a_gs
  have b_gs := F_gs.binds (ps := ["network"]) fun _ _ _ _ _ _ us hl => match us, hl with | [_], _ => rfl
  have F_lsub := fun_mk (st := sLsub) l_lsub c_lsub k_lsub
  have g_lsub : mg "_law_subsets" = some (.ref _) := PySem.W.mg_of X G a_lsub
  have b_lsub := F_lsub.binds (ps := ["_law_names_here"]) fun _ _ _ _ _ _ us hl => match us, hl with | [_], _ => rfl
  have F_sm := fun_mk (st := sSm) l_sm c_sm k_sm
  have g_sm : mg "_law_same" = some (.ref _) := PySem.W.mg_of X G a_sm
  have b_sm := F_sm.binds (ps := ["_law_found", "_law_due"]) fun _ _ _ _ _ _ us hl => match us, hl with | [_, _], _ => rfl
  have F_ch := fun_mk (st := sCh) l_ch c_ch k_ch
  have g_ch : mg "_law_choices" = some (.ref _) := PySem.W.mg_of X G a_ch
  have b_ch := F_ch.binds (ps := ["_law_names_here", "_law_many"]) fun _ _ _ _ _ _ us hl => match us, hl with | [_, _], _ => rfl
  have F_wd := fun_mk (st := sWd) l_wd c_wd k_wd
  have g_wd : mg "_law_word" = some (.ref _) := PySem.W.mg_of X G a_wd
  have b_wd := F_wd.binds (ps := ["_law_many", "_law_count", "_law_failed"]) fun _ _ _ _ _ _ us hl => match us, hl with | [_, _, _], _ => rfl
  have F_lr := fun_mk (st := sLr) l_lr c_lr k_lr
  have g_lr : mg "_law_lists_right" = some (.ref _) := PySem.W.mg_of X G a_lr
  have b_lr := F_lr.binds (ps := ["_law_box_here", "_law_network", "_law_names_here", "_law_count"]) fun _ _ _ _ _ _ us hl => match us, hl with | [_, _, _, _], _ => rfl
  have F_law := fun_mk (st := sLaw) l_law c_law k_law
  have g_law : mg "law" = some (.ref _) := PySem.W.mg_of X G a_law
  have b_law := F_law.binds (ps := ["_law_script"]) fun _ _ _ _ _ _ us hl => match us, hl with | [_], _ => rfl
  have F_ini : FunD K "__init__" "Network.__init__" (defArgs sNi) (defBody sNi) (defScope sNi) [.ref eA] [] f_ini (PySem.W.fnOf "__init__" "Network.__init__" (defArgs sNi) (defBody sNi) (defScope sNi) (.ref dT) kV_ini dc_ini pm_ini an_ini cd_ini ct_ini) :=
    ⟨⟨_, _, _, _, _, _, _, _, _, _, rfl, l_ini, c_ini, .inr ⟨by simp, dT, _, [.ref eA], nT, rfl, y_dT, rfl, .cons rfl .nil⟩, .inl rfl⟩, k_ini⟩
  obtain ⟨ds, vds, b_ini⟩ := F_ini.binds1 (ps := ["self", "rows"]) 2 1 (by simp) rfl (fun T kV doc pm an cdv ct us its h1 h2 => match us, its, h1, h2 with | [_, _], [_], _, _ => ⟨_, rfl, rfl⟩)
  have eds : ds = [] := by
    cases vds
    rfl
  subst eds
  refine ⟨PySem.W.fnOf "law" "law" (defArgs sLaw) (defBody sLaw) (defScope sLaw) .none kV_law dc_law pm_law an_law cd_law ct_law, fun s v => .of_eq rfl, fun base _ _ => ?_⟩
  have G_take : FnOk l.prog w K mg base CX0 2 _ _ _ spTake := ok_take (k := 0) F_take F_mix b_mix g_mix T0.len T0.max
  have G_nam : FnOk l.prog w K mg base CX0 3 _ _ _ spNames := ok_names F_nam F_take b_take g_take G_take T0.rng
  have G_shu : FnOk l.prog w K mg base CX0 3 _ _ _ (spShu K) := ok_shuffled F_shu F_take b_take g_take G_take T
  have G_box : FnOk l.prog w K mg base CX0 1 _ _ _ (spBox K) := ok_box (k := 0) F_box
  have G_ns2 : FnOk l.prog w K mg base CX0 1 _ _ _ (spNs2 K) := ok_ns2 (k := 0) F_ns T
  have G_ns : FnOk l.prog w K mg base CX0 2 _ _ _ (spNs K) := ok_ns (k := 1) F_ns T0.tup T0.srt T0.set
  have G_out : FnOk l.prog w K mg base CX0 1 _ _ _ (spOut K) := ok_out (k := 0) F_out T
  have G_isn : FnOk l.prog w K mg base CX0 1 _ _ _ spIn := ok_isname (k := 0) F_isn T
  have G_ct : FnOk l.prog w K mg base CX0 2 _ _ _ spCt := ok_counted (k := 0) F_ct T F_who b_who g_who
  have G_hd : FnOk l.prog w K mg base CX0 1 _ _ _ (spHd K) := ok_dup (k := 0) F_hd T
  have G_nwr : FnOk l.prog w K mg base CX0 2 _ _ _ (spNwr fun _ => True) := ok_nwr_all F_nwr b_nwr g_nwr T0
  have G_ir : FnOk l.prog w K mg base CX0 3 _ _ _ spIr := ok_isreq F_ir T F_ct b_ct g_ct G_ct F_isn b_isn g_isn (G_isn.mono (by decide)) F_sr b_sr g_sr F_hd b_hd g_hd (G_hd.mono (by decide)) F_nwr b_nwr g_nwr G_nwr
  have G_nin : FnOk l.prog w K mg base CX0 3 _ _ _ spNin := ok_nin F_nin F_ns b_ns g_ns F_nwr b_nwr g_nwr G_ns G_nwr
  have G_rb : FnOk l.prog w K mg base CX0 4 _ _ _ (spRb K) := ok_byname F_rb T F_isn b_isn g_isn (G_isn.mono (by decide)) F_ir b_ir g_ir G_ir
  have G_cu : FnOk l.prog w K mg base CX0 4 _ _ _ spCu := ok_used F_cu T F_nin b_nin g_nin G_nin
  have G_ini : FnOk l.prog w K mg base CX0 5 _ _ _ (spNi K C) := ok_netinit F_ini T TX F_rb b_rb g_rb G_rb F_cu b_cu g_cu G_cu
  have G_nn : FnOk l.prog w K mg base CX0 1 _ _ _ (spNn C) := ok_nodenames (k := 0) F_nn T TX
  have G_cn : FnOk l.prog w K mg base CX0 1 _ _ _ (spCn K C) := ok_checknodes (k := 0) F_cn T TX
  have G_ro : FnOk l.prog w K mg base CX0 2 _ _ _ (spRo C) := ok_reqof F_ro T TX M_cn b_cn G_cn
  have G_sat : FnOk l.prog w K mg base CX0 4 _ _ _ (spSat K Short) := ok_sat_all F_sat b_sat g_sat F_sp b_sp g_sp T0
  have G_cr : FnOk l.prog w K mg base CX0 5 _ _ _ (spCr K C) := ok_removable F_cr T TX F_sat b_sat g_sat G_sat M_ro b_ro (G_ro.mono (by decide))
  have G_fr : FnOk l.prog w K mg base CX0 6 _ _ _ (spFr K C) := ok_first F_fr T F_cr b_cr g_cr G_cr
  have G_so : FnOk l.prog w K mg base CX0 2 _ _ _ (spSo K C) := ok_start F_so T TX M_cn b_cn G_cn F_out b_out g_out G_out F_ns b_ns g_ns G_ns2
  have G_rm : FnOk l.prog w K mg base CX0 7 _ _ _ (spRm K C) := ok_order F_rm T F_so b_so g_so (G_so.mono (by decide)) F_fr b_fr g_fr G_fr F_out b_out g_out (G_out.mono (by decide))
  have G_lq : FnOk l.prog w K mg base CX0 8 _ _ _ (spLq K C) := ok_largest F_lq T F_so b_so g_so (G_so.mono (by decide)) F_rm b_rm g_rm G_rm F_out b_out g_out (G_out.mono (by decide))
  have G_cq : ∀ n, FnOk l.prog w K mg base CX0 (8 + n) f_cq (PySem.W.fnOf "certificate_or_quorums" "certificate_or_quorums" (defArgs sCq) (defBody sCq) (defScope sCq) .none kV_cq dc_cq pm_cq an_cq cd_cq ct_cq) pCq (spCq K C n) := fun n => by
    induction n with
    | zero => exact fn_none 8 fun vs H Q E ⟨_, _, _, _, _, _, _, _, _, _, _, _, _, _, _, _, _, _, _, h, _⟩ => absurd h (Nat.not_lt_zero _)
    | succ n ih => exact ok_cq (k := 8 + n) F_cq b_cq g_cq T ih F_lq b_lq g_lq (G_lq.mono (by omega)) F_rm b_rm g_rm (G_rm.mono (by omega)) F_out b_out g_out (G_out.mono (by omega))
  have G_it : FnOk l.prog w K mg base CX0 26 _ _ _ (spIt K C) := ok_inter F_it T TX M_cn b_cn (G_cn.mono (by decide)) M_nn b_nn (G_nn.mono (by decide)) F_out b_out g_out (G_out.mono (by decide)) F_cq b_cq g_cq (G_cq 17)
  have F_itD : FunD K "intersection" "intersection" (defArgs sIt) (defBody sIt) (defScope sIt) [] [("faulty", .ref dE)] f_it (PySem.W.fnOf "intersection" "intersection" (defArgs sIt) (defBody sIt) (defScope sIt) .none (.ref kD) dc_it pm_it an_it cd_it ct_it) :=
    ⟨⟨_, _, _, _, _, _, _, _, _, _, rfl, l_it, c_it, .inl ⟨rfl, rfl⟩, .inr ⟨kD, rfl, fun q mq => by rw [List.mem_singleton.mp mq]; exact ⟨_, y_kd, rfl⟩⟩⟩, k_it⟩
  obtain ⟨dsI, vI, bI⟩ := F_itD.binds0 (ps := ["network", "faulty"]) 1 (by simp) rfl (fun D doc pm an cdv ct us ks h1 h2 => match us, ks, h1, h2 with | [_], [_], _, _ => ⟨_, _, _, _, _, _, rfl, rfl, rfl⟩)
  have hE : ∀ H : Hp, SqT K H dE [] := fun H => .inr ⟨_, #[], nE, y_de, rfl, rfl, Nat.zero_le _, .nil⟩
  have T2 : Blt2 mg := ⟨T.all, T.any⟩
  have mz : mg "zip" = none := PySem.W.mg_none_of X G z_zip
  have G_hn : FnOk l.prog w K mg base CX0 2 _ _ _ (spHn K C) := ok_honest F_hn T TX M_cn b_cn G_cn M_nn b_nn G_nn F_out b_out g_out G_out
  have G_tol : FnOk l.prog w K mg base CX0 27 _ _ _ (spTol K C) := ok_tol F_tol T F_hn b_hn g_hn (G_hn.mono (by decide)) F_fr b_fr g_fr (G_fr.mono (by decide)) F_it b_it g_it G_it
  have G_tls : FnOk l.prog w K mg base CX0 28 _ _ _ (spTls K C) := ok_tls F_tls T F_tol b_tol g_tol G_tol
  have G_ord : FnOk l.prog w K mg base CX0 1 _ _ _ spOrd := ok_ord (k := 0) F_ord T0
  have G_sub : FnOk l.prog w K mg base CX0 4 _ _ _ spSub := ok_sub F_sub F_ord b_ord g_ord G_ord T0
  have G_wit : FnOk l.prog w K mg base CX0 1 _ _ _ spWit := ok_wit (k := 0) F_wit T0 T2
  have G_witN : FnOk l.prog w K mg base CX0 1 _ _ _ (spWitN K) := ok_witN (k := 0) F_wit T0 T2
  have G_min : FnOk l.prog w K mg base CX0 2 _ _ _ spMin := ok_min F_min F_wit b_wit g_wit G_wit T0 T2
  have G_ts : FnOk l.prog w K mg base CX0 29 _ _ _ (spTs C) := ok_ts F_ts T TX F_sub b_sub g_sub (G_sub.mono (by decide)) M_nn b_nn (G_nn.mono (by decide)) F_tls b_tls g_tls G_tls
  have G_mc : FnOk l.prog w K mg base CX0 3 _ _ _ (spMc K) := ok_mc F_mc F_min b_min g_min G_min F_wit b_wit g_wit (G_witN.mono (by decide))
  have G_mt : FnOk l.prog w K mg base CX0 30 _ _ _ (spMt K C) := ok_mt F_mt TX M_cn b_cn (G_cn.mono (by decide)) F_ts b_ts g_ts G_ts F_mc b_mc g_mc (G_mc.mono (by decide))
  have G_ci : FnOk l.prog w K mg base CX0 27 _ _ _ (spCi C) := ok_ci F_ci F_it bI vI hE g_it G_it
  have G_cl : FnOk l.prog w K mg base CX0 31 _ _ _ (spCl K C) := ok_cl F_cl TX M_cn b_cn (G_cn.mono (by decide)) F_ci b_ci g_ci (G_ci.mono (by decide)) F_mt b_mt g_mt G_mt
  have G_fs : FnOk l.prog w K mg base CX0 30 _ _ _ (spFs C) := ok_fs F_fs TX F_ci b_ci g_ci (G_ci.mono (by decide)) M_nn b_nn (G_nn.mono (by decide)) F_ts b_ts g_ts G_ts F_min b_min g_min (G_min.mono (by decide)) F_sub b_sub g_sub (G_sub.mono (by decide)) F_mc b_mc g_mc (G_mc.mono (by decide))
  have G_ma : FnOk l.prog w K mg base CX0 1 _ _ _ (spTest met) := ok_met (k := 0) F_ma T2
  have G_gs : FnOk l.prog w K mg base CX0 31 _ _ _ (spGs C) := ok_gs F_gs TX F_fs b_fs g_fs G_fs M_nn b_nn (G_nn.mono (by decide)) F_min b_min g_min (G_min.mono (by decide)) F_sub b_sub g_sub (G_sub.mono (by decide)) F_ma b_ma g_ma (G_ma.mono (by decide))
  have G_lsub : FnOk l.prog w K mg base CX0 1 _ _ _ spLsub := ok_lsub (k := 0) F_lsub
  have G_sm : ∀ n, FnOk l.prog w K mg base CX0 n f_sm (PySem.W.fnOf "_law_same" "_law_same" (defArgs sSm) (defBody sSm) (defScope sSm) .none kV_sm dc_sm pm_sm an_sm cd_sm ct_sm) pSm (spSm n) := fun n => by
    induction n with
    | zero => exact fn_none 0 fun vs H Q E ⟨_, _, _, h, _⟩ => h
    | succ n ih => exact ok_same F_sm b_sm g_sm T mz ih
  have G_ch : FnOk l.prog w K mg base CX0 2 _ _ _ spCh := ok_choices F_ch T F_lsub b_lsub g_lsub G_lsub
  have G_wd : FnOk l.prog w K mg base CX0 1 _ _ _ spWd := ok_word (k := 0) F_wd T
  have G_lr : FnOk l.prog w K mg base CX0 32 _ _ _ (spLr C) := ok_lists F_lr T F_wd b_wd g_wd (G_wd.mono (by decide)) F_ch b_ch g_ch (G_ch.mono (by decide)) F_sm b_sm g_sm ((G_sm 3).mono (by decide)) F_ts b_ts g_ts (G_ts.mono (by decide)) F_fs b_fs g_fs (G_fs.mono (by decide)) F_shu b_shu g_shu (G_shu.mono (by decide)) F_take b_take g_take (G_take.mono (by decide)) F_cl b_cl g_cl G_cl F_gs b_gs g_gs G_gs
  exact ok_law (k := 31) F_law T TX F_box b_box g_box (G_box.mono (by decide)) F_take b_take g_take (G_take.mono (by decide)) F_nam b_nam g_nam (G_nam.mono (by decide)) F_shu b_shu g_shu (G_shu.mono (by decide)) ⟨w_mk, a_ini, i_ini, w_kc⟩ b_ini (G_ini.mono (by decide)) F_tol b_tol g_tol (G_tol.mono (by decide)) F_wd b_wd g_wd (G_wd.mono (by decide)) F_sm b_sm g_sm ((G_sm 3).mono (by decide)) F_lr b_lr g_lr G_lr
end Moot
open PySem PySem.W PyProof.Rows
set_option maxRecDepth 100000 in
set_option maxHeartbeats 0 in
theorem PySem.Challenge.cw_oathmoot_k35_majority_networks_tolerate_holds : PySem.Challenge.rw_oathmoot_k35_majority_networks_tolerate.Holds := by
  w_on; o_law; k_head; (case hw => w_witness2)
  k_fill
  refine L2.walk_of (l := PySem.Challenge.rw_oathmoot_k35_majority_networks_tolerate) (n := 63) (k := 33) (x := "_law_script") (CX := fun _ => L2.CX0) (sp := fun w => Moot.spLaw _) rfl (by decide) rfl ⟨rfl, by decide, by decide⟩ (fun w h Y => PySem.W.kIn_of Y) ?F (fun _ _ a ns hl _ hS => ⟨a, ns, rfl, hS, hl, fun _ => rfl⟩) (fun _ _ _ _ _ h => h)
  case F =>
    intro w mg fa h KX G hmg
    refine' Moot.all_mk KX G hmg ?aC ?a_ns ?l_ns ?c_ns ?k_ns ?a_out ?l_out ?c_out ?k_out ?a_isn ?l_isn ?c_isn ?k_isn ?a_who ?l_who ?c_who ?k_who ?a_ct ?l_ct ?c_ct ?k_ct ?a_hd ?l_hd ?c_hd ?k_hd ?a_sr ?l_sr ?c_sr ?k_sr ?a_ir ?l_ir ?c_ir ?k_ir ?a_nwr ?l_nwr ?c_nwr ?k_nwr ?a_nin ?l_nin ?c_nin ?k_nin ?a_sp ?l_sp ?c_sp ?k_sp ?a_sat ?l_sat ?c_sat ?k_sat ?a_cr ?l_cr ?c_cr ?k_cr ?a_fr ?l_fr ?c_fr ?k_fr ?a_so ?l_so ?c_so ?k_so ?a_rm ?l_rm ?c_rm ?k_rm ?a_lq ?l_lq ?c_lq ?k_lq ?a_cq ?l_cq ?c_cq ?k_cq ?a_it ?l_it ?c_it ?k_it ?a_rb ?l_rb ?c_rb ?k_rb ?a_cu ?l_cu ?c_cu ?k_cu ?a_nn ?i_nn ?l_nn ?c_nn ?k_nn ?a_cn ?i_cn ?l_cn ?c_cn ?k_cn ?a_ro ?i_ro ?l_ro ?c_ro ?k_ro ?a_box ?l_box ?c_box ?k_box ?a_mix ?l_mix ?c_mix ?k_mix ?a_take ?l_take ?c_take ?k_take ?a_nam ?l_nam ?c_nam ?k_nam ?a_shu ?l_shu ?c_shu ?k_shu ?a_wit ?l_wit ?c_wit ?k_wit ?a_ord ?l_ord ?c_ord ?k_ord ?a_sub ?l_sub ?c_sub ?k_sub ?a_min ?l_min ?c_min ?k_min ?a_hn ?l_hn ?c_hn ?k_hn ?a_tol ?l_tol ?c_tol ?k_tol ?a_tls ?l_tls ?c_tls ?k_tls ?a_ts ?l_ts ?c_ts ?k_ts ?a_mc ?l_mc ?c_mc ?k_mc ?a_mt ?l_mt ?c_mt ?k_mt ?a_ci ?l_ci ?c_ci ?k_ci ?a_cl ?l_cl ?c_cl ?k_cl ?a_fs ?l_fs ?c_fs ?k_fs ?a_ma ?l_ma ?c_ma ?k_ma ?a_gs ?l_gs ?c_gs ?k_gs ?a_lsub ?l_lsub ?c_lsub ?k_lsub ?a_sm ?l_sm ?c_sm ?k_sm ?a_ch ?l_ch ?c_ch ?k_ch ?a_wd ?l_wd ?c_wd ?k_wd ?a_lr ?l_lr ?c_lr ?k_lr ?a_law ?l_law ?c_law ?k_law ?a_ini ?i_ini ?l_ini ?c_ini ?k_ini ?y_kd ?y_de ?y_dT ?y_let ?y_lon ?y_mn ?y_md ?w_pg ?w_hd ?w_po ?w_sa ?w_mk ?w_kc ?w_nR ?z_isi ?z_str ?z_len ?z_tup ?z_lst ?z_srt ?z_set ?z_rng ?z_int ?z_bool ?z_sum ?z_min ?z_max ?z_all ?z_any ?z_dict ?z_zip
    (case aC => k_is); (case a_ns => k_is); (case l_ns => k_is); (case c_ns => k_is); (case k_ns => k_is); (case a_out => k_is); (case l_out => k_is); (case c_out => k_is)
    (case k_out => k_is); (case a_isn => k_is); (case l_isn => k_is); (case c_isn => k_is); (case k_isn => k_is); (case a_who => k_is); (case l_who => k_is); (case c_who => k_is)
    (case k_who => k_is); (case a_ct => k_is); (case l_ct => k_is); (case c_ct => k_is); (case k_ct => k_is); (case a_hd => k_is); (case l_hd => k_is); (case c_hd => k_is)
    (case k_hd => k_is); (case a_sr => k_is); (case l_sr => k_is); (case c_sr => k_is); (case k_sr => k_is); (case a_ir => k_is); (case l_ir => k_is); (case c_ir => k_is)
    (case k_ir => k_is); (case a_nwr => k_is); (case l_nwr => k_is); (case c_nwr => k_is); (case k_nwr => k_is); (case a_nin => k_is); (case l_nin => k_is); (case c_nin => k_is)
    (case k_nin => k_is); (case a_sp => k_is); (case l_sp => k_is); (case c_sp => k_is); (case k_sp => k_is); (case a_sat => k_is); (case l_sat => k_is); (case c_sat => k_is)
    (case k_sat => k_is); (case a_cr => k_is); (case l_cr => k_is); (case c_cr => k_is); (case k_cr => k_is); (case a_fr => k_is); (case l_fr => k_is); (case c_fr => k_is)
    (case k_fr => k_is); (case a_so => k_is); (case l_so => k_is); (case c_so => k_is); (case k_so => k_is); (case a_rm => k_is); (case l_rm => k_is); (case c_rm => k_is)
    (case k_rm => k_is); (case a_lq => k_is); (case l_lq => k_is); (case c_lq => k_is); (case k_lq => k_is); (case a_cq => k_is); (case l_cq => k_is); (case c_cq => k_is)
    (case k_cq => k_is); (case a_it => k_is); (case l_it => k_is); (case c_it => k_is); (case k_it => k_is); (case a_rb => k_is); (case l_rb => k_is); (case c_rb => k_is)
    (case k_rb => k_is); (case a_cu => k_is); (case l_cu => k_is); (case c_cu => k_is); (case k_cu => k_is); (case a_nn => k_is); (case i_nn => k_is); (case l_nn => k_is)
    (case c_nn => k_is); (case k_nn => k_is); (case a_cn => k_is); (case i_cn => k_is); (case l_cn => k_is); (case c_cn => k_is); (case k_cn => k_is); (case a_ro => k_is)
    (case i_ro => k_is); (case l_ro => k_is); (case c_ro => k_is); (case k_ro => k_is); (case a_box => k_is); (case l_box => k_is); (case c_box => k_is); (case k_box => k_is)
    (case a_mix => k_is); (case l_mix => k_is); (case c_mix => k_is); (case k_mix => k_is); (case a_take => k_is); (case l_take => k_is); (case c_take => k_is); (case k_take => k_is)
    (case a_nam => k_is); (case l_nam => k_is); (case c_nam => k_is); (case k_nam => k_is); (case a_shu => k_is); (case l_shu => k_is); (case c_shu => k_is); (case k_shu => k_is)
    (case a_wit => k_is); (case l_wit => k_is); (case c_wit => k_is); (case k_wit => k_is); (case a_ord => k_is); (case l_ord => k_is); (case c_ord => k_is); (case k_ord => k_is)
    (case a_sub => k_is); (case l_sub => k_is); (case c_sub => k_is); (case k_sub => k_is); (case a_min => k_is); (case l_min => k_is); (case c_min => k_is); (case k_min => k_is)
    (case a_hn => k_is); (case l_hn => k_is); (case c_hn => k_is); (case k_hn => k_is); (case a_tol => k_is); (case l_tol => k_is); (case c_tol => k_is); (case k_tol => k_is)
    (case a_tls => k_is); (case l_tls => k_is); (case c_tls => k_is); (case k_tls => k_is); (case a_ts => k_is); (case l_ts => k_is); (case c_ts => k_is); (case k_ts => k_is)
    (case a_mc => k_is); (case l_mc => k_is); (case c_mc => k_is); (case k_mc => k_is); (case a_mt => k_is); (case l_mt => k_is); (case c_mt => k_is); (case k_mt => k_is)
    (case a_ci => k_is); (case l_ci => k_is); (case c_ci => k_is); (case k_ci => k_is); (case a_cl => k_is); (case l_cl => k_is); (case c_cl => k_is); (case k_cl => k_is)
    (case a_fs => k_is); (case l_fs => k_is); (case c_fs => k_is); (case k_fs => k_is); (case a_ma => k_is); (case l_ma => k_is); (case c_ma => k_is); (case k_ma => k_is)
    (case a_gs => k_is); (case l_gs => k_is); (case c_gs => k_is); (case k_gs => k_is); (case a_lsub => k_is); (case l_lsub => k_is); (case c_lsub => k_is); (case k_lsub => k_is)
    (case a_sm => k_is); (case l_sm => k_is); (case c_sm => k_is); (case k_sm => k_is); (case a_ch => k_is); (case l_ch => k_is); (case c_ch => k_is); (case k_ch => k_is)
    (case a_wd => k_is); (case l_wd => k_is); (case c_wd => k_is); (case k_wd => k_is); (case a_lr => k_is); (case l_lr => k_is); (case c_lr => k_is); (case k_lr => k_is)
    (case a_law => k_is); (case l_law => k_is); (case c_law => k_is); (case k_law => k_is); (case a_ini => k_is); (case i_ini => k_is); (case l_ini => k_is); (case c_ini => k_is)
    (case k_ini => k_is); (case y_kd => k_is); (case y_de => k_is); (case y_dT => k_is); (case y_let => k_is); (case y_lon => k_is); (case y_mn => k_is); (case y_md => k_is)
    (case w_pg => k_is); (case w_hd => k_is); (case w_po => k_is); (case w_sa => k_is); (case w_mk => k_is); (case w_kc => k_is); (case w_nR => k_is); (case z_isi => k_is)
    (case z_str => k_is); (case z_len => k_is); (case z_tup => k_is); (case z_lst => k_is); (case z_srt => k_is); (case z_set => k_is); (case z_rng => k_is); (case z_int => k_is)
    (case z_bool => k_is); (case z_sum => k_is); (case z_min => k_is); (case z_max => k_is); (case z_all => k_is); (case z_any => k_is); (case z_dict => k_is); (case z_zip => k_is)
