import PyProof.Rows.All
import Wide.All
import OpenK.AllK
import Wide.FinOn
import PyProof.Rows.SetFrom
import HandS.List
import HandS.Set
import HandS.ForMost
import HandS.Deep
import HandS.More
import HandS.IsInst
import HandS.Flow
import HandS.Codes
import HandS.Walk
import HandS.TupAny
import HandS.Style
import PyProof.Rows.IntBool
import PyProof.CallStr
import PyProof.StrOps2
import PyProof.FitsInt
import PyProof.Rows.StrFit
import HandS.EndTab
import PySem.Challenge.RW_oathmoot_k37_ballots_and_statements
set_option Elab.async false
set_option linter.unusedVariables false
set_option maxRecDepth 100000
set_option maxHeartbeats 8000000
/-! Sets of keys of any one kind, filled and then walked in whatever order the world has. -/
namespace Moot
open PySem PySem.Spec PyProof.Rows L2
section
variable {P : Program} {w : World} {T : Type} [DecidableEq T]
/-- what is known of a set's entries and of its table -/
structure Laid (knd : KeyKind P w T) (S : T → Bool) (es : Array (Int × Value)) (t : SetTable) : Prop where
  el : ElemsOf knd es.toList
  mem : ∀ k, S k = true ↔ ∃ e ∈ es.toList, knd.is k e.2 = true
  one : es.toList.Pairwise fun e f => ∀ k, knd.is k e.2 = true → knd.is k f.2 = true → False
  few : es.size < scanBound
  fit : t.fits es.size = true
  ris : Ris t.place.toList
  led : w.params.followText "set-order" = true ∨ t.led = true
/-- a set of n keys stands at a, S tells which -/
def Stands (knd : KeyKind P w T) (h : Heap) (a : Addr) (S : T → Bool) (n : Nat) : Prop :=
  ∃ o es ep t, h.get? a = some o ∧ o.ExactSet ∧ o.data = .set es ep t ∧ es.size = n ∧ Laid knd S es t
variable {knd : KeyKind P w T} {S : T → Bool} {es es' : Array (Int × Value)} {t t' : SetTable}
/-- entries in another order, in a table that still rises -/
theorem Laid.moved (L : Laid knd S es t) (p : es'.toList.Perm es.toList) (f : t'.fits es'.size = true) (r : Ris t'.place.toList) (l : t'.led = t.led) : Laid knd S es' t' := by
  have z : es'.size = es.size := by
    have q := p.length_eq
    simpa using q
  refine ⟨L.el.perm p, fun k => (L.mem k).trans ⟨?_, ?_⟩, ?_, by rw [z]; exact L.few, f, r, ?_⟩
  · rintro ⟨e, m, i⟩
    exact ⟨e, p.mem_iff.mpr m, i⟩
  · rintro ⟨e, m, i⟩
    exact ⟨e, p.mem_iff.mp m, i⟩
  · exact (p.pairwise_iff fun {e f} q k a b => q k b a).mpr L.one
  · rw [l]
    exact L.led
/-- a key more -/
theorem Laid.more (L : Laid knd S es t) {k : T} {x : Value} (hk : knd.is k x = true) (hx : x.scannable = true) (new : ∀ e ∈ es.toList, knd.is k e.2 = false)
    (p : es'.toList.Perm (es.push (knd.hash k, x)).toList) (room : es.size + 1 < scanBound) (f : t'.fits es'.size = true) (r : Ris t'.place.toList) (l : t'.led = t.led) :
    Laid knd (fun j => S j || decide (j = k)) es' t' := by
  rw [Array.toList_push] at p
  have z : es'.size = es.size + 1 := by
    have q := p.length_eq
    simpa using q
  have inj : ∀ j, knd.is j x = true → j = k := fun j h => knd.inj x j k h hk
  refine ⟨(L.el.push hk hx).perm p, fun j => ?_, ?_, by rw [z]; exact room, f, r, by rw [l]; exact L.led⟩
  · rw [Bool.or_eq_true, decide_eq_true_eq, L.mem j]
    constructor
    · rintro (⟨e, m, i⟩ | rfl)
      · exact ⟨e, p.mem_iff.mpr (List.mem_append_left _ m), i⟩
      · exact ⟨_, p.mem_iff.mpr (List.mem_append_right _ List.mem_cons_self), hk⟩
    · rintro ⟨e, m, i⟩
      rcases List.mem_append.mp (p.mem_iff.mp m) with m | m
      · exact .inl ⟨e, m, i⟩
      · rw [List.mem_singleton.mp m] at i
        exact .inr (inj j i)
  · refine (p.pairwise_iff fun {e f} q k a b => q k b a).mpr ?_
    refine List.pairwise_append.mpr ⟨L.one, List.pairwise_singleton _ _, fun e m e2 m2 j a b => ?_⟩
    rw [List.mem_singleton.mp m2] at b
    have c := new e m
    rw [inj j b] at a
    rw [a] at c
    cases c
section
variable {A : Around} {E : Value → Shared → Prop} {s : Shared} {a : Addr} {n : Nat} {k : T} {x : Value}
/-- the table with one mark taken off is as good -/
theorem Laid.off (L : Laid knd S es t) (b : Bool) : Laid knd S es (if b = true then t else { t with plain := false }) := by
  cases b with
  | true => exact L
  | false => exact ⟨L.el, L.mem, L.one, L.few, SetTable.fits_plain_off L.fit, L.ris, L.led⟩
/-- entries are stored, and laid anew where the table has grown too full -/
theorem stow {g : Bool → Sem Unit} (quiet : ∀ (b : Bool) (s₁ : Shared) (Q₁ : Unit → Shared → Prop), Q₁ () s₁ → wpAny (model P w) A (g b) Q₁ E s₁)
    {o : Obj} {es₀ : Array (Int × Value)} {ep : Nat} {t₀ : SetTable} (ho : s.heap.get? a = some o) (hex : o.ExactSet) (hd : o.data = .set es₀ ep t₀) (L : Laid knd S es t) {full : Bool} {Q : Option Bool → Shared → Prop}
    (q : ∀ h', Heap.SameBut a s.heap h' → Stands knd h' a S es.size → Q (some true) { s with heap := h' }) :
    wpAny (model P w) A (storeSet a es t >>= fun _ => if full = true then (match relayAll t es (SetTable.grown es.size) with | (es2, t2, gave) => g gave >>= fun _ => storeSet a es2 t2 >>= fun _ => pure (some true)) else pure (some true)) Q E s := by
  have first := store_at (es' := es) (t' := t) ho hd
  have same := Heap.SameBut.update s.heap a (Obj.putSet es t)
  apply wpAny_bind
  apply wpAny_storeSet_of ho hd _ (fits_of_scanBound L.few)
  cases full with
  | false => exact wpAny_pure (q _ same ⟨_, es, _, t, first, hex, rfl, rfl, L⟩)
  | true =>
    have p := relayAll_perm t es (SetTable.grown es.size)
    have L2 := L.moved p (relayAll_fits t es _) (relayAll_ris t es _) (relayAll_led t es _)
    have z : (relayAll t es (SetTable.grown es.size)).1.size = es.size := by simpa using p.length_eq
    rw [if_pos rfl]
    revert L2 z
    rcases relayAll t es (SetTable.grown es.size) with ⟨es2, t2, gave⟩
    intro L2 z
    apply wpAny_bind
    apply quiet
    apply wpAny_bind
    apply wpAny_storeSet_of first rfl _ (fits_of_scanBound L2.few)
    exact wpAny_pure (q _ (same.trans (Heap.SameBut.update _ a _)) ⟨_, es2, _, t2, store_at first rfl, hex, rfl, z, L2⟩)
theorem add_key {Q : Bool → Shared → Prop} (R : Stands knd s.heap a S n) (hk : knd.is k x = true) (hx : x.scannable = true) (room : n + 1 < scanBound)
    (q : ∀ h', Heap.SameBut a s.heap h' → Stands knd h' a (fun j => S j || decide (j = k)) (if S k = true then n else n + 1) → Q (!S k) { s with heap := h' }) :
    wpAny (model P w) A (setAddHashed a x (knd.hash k)) Q E s := by
  obtain ⟨o, es, ep, t, ho, hex, hd, rfl, L⟩ := R
  unfold setAddHashed setAddHashedIn
  apply wpAny_holding
  apply wpAny_bind
  apply wpAny_setState_of ho hd L.fit
  show wpAny _ _ (if byScan x es = true then _ else _) _ _ _
  rw [byScan_of hx L.few L.el, if_pos rfl]
  unfold setAddByScan
  apply wpAny_bind
  apply wpAny_bind
  apply wpAny_rule
  apply wpAny_bind
  apply wpAny_setScan_of hk ho hd L.fit L.el
  cases met : List.findIdx? (fun e => knd.is k e.2) es.toList with
  | some j =>
    obtain ⟨lt, hit, _⟩ := List.findIdx?_eq_some_iff_getElem.mp met
    have old : S k = true := (L.mem k).mpr ⟨_, List.getElem_mem lt, hit⟩
    have same : (fun j => S j || decide (j = k)) = S := funext fun i => by
      by_cases e : i = k
      · rw [e, old, Bool.true_or]
      · rw [decide_eq_false e, Bool.or_false]
    have r := q s.heap (Heap.SameBut.refl a s.heap)
    rw [same, old] at r
    exact wpAny_pure (wpAny_pure (r ⟨o, es, ep, t, ho, hex, hd, rfl, L⟩))
  | none =>
    have new : ∀ e ∈ es.toList, knd.is k e.2 = false := List.findIdx?_eq_none_iff.mp met
    have no : S k = false := by
      cases c : S k with
      | false => rfl
      | true =>
        obtain ⟨e, m, i⟩ := (L.mem k).mp c
        rw [new e m] at i
        cases i
    have p := layNew_perm t es (knd.hash k) x
    have L1 := L.more hk hx new p room (layNew_fits t es (knd.hash k) x) (layNew_ris t es (knd.hash k) x L.ris) (layNew_led t es (knd.hash k) x)
    have z : (layNew t es (knd.hash k) x).1.size = es.size + 1 := by simpa using p.length_eq
    rw [no] at q
    dsimp only
    clear p
    generalize layNew t es (knd.hash k) x = Z at L1 z ⊢
    obtain ⟨es1, t1, dm, gave⟩ := Z
    dsimp only at L1 z ⊢
    have fin : ∀ h', Heap.SameBut a s.heap h' → Stands knd h' a (fun j => S j || decide (j = k)) es1.size → Q true { s with heap := h' } := fun h' sb r => q h' sb (z ▸ r)
    apply wpAny_bind
    have calm : ∀ {s₁ : Shared} {Q₁ : Unit → Shared → Prop}, Q₁ () s₁ → ∀ b : Bool, wpAny (model P w) A (match b with | true => rule "set.scan.the-table-gave-way" | false => pure ()) Q₁ E s₁ := fun h b => by
      cases b with
      | true => exact wpAny_rule h
      | false => exact wpAny_pure h
    refine calm ?_ gave
    have step : ∀ b : Bool, _ := fun b => stow (A := A) (E := E) (s := s) (Q := fun r s₁ => wpAny (model P w) A (match r with | some added => pure added | none => setAddHashedIn a x (knd.hash k) 99999) Q E s₁)
      (fun b s₁ Q₁ h => calm h b) ho hex hd (L1.off b) (full := !dm && (if b = true then t1 else { t1 with plain := false }).tooFull) fun h' sb r => wpAny_pure (fin h' sb r)
    split
    · rw [hashByValue_scannable 8 hx]
      exact wpAny_bind (wpAny_pure (step _))
    · exact wpAny_bind (wpAny_pure (step true))
end
end
end Moot
namespace Moot
open PySem PySem.Spec PyProof.Rows L2
section
variable {P : Program} {w : World} {T : Type} [DecidableEq T] {knd : KeyKind P w T} {A : Around} {E : Value → Shared → Prop} {s : Shared}
/-- the new set, empty -/
def setNew (w : World) : Obj := { cls := .type "set", dict := none, data := .set #[] 0 (.fresh 0 0 (!w.params.followText "set-order")) }
theorem setNew_stands (h : Heap) : Stands knd (h.push (setNew w)) h.objs.size (fun _ => false) 0 := by
  refine ⟨setNew w, #[], 0, _, Heap.get?_push_size _ rfl, ⟨rfl, rfl, rfl⟩, rfl, rfl, ?_⟩
  refine ⟨fun e m => by simp at m, fun k => by simp, by simp, by decide, rfl, List.Pairwise.nil, ?_⟩
  show _ ∨ (!w.params.followText "set-order") = true
  cases w.params.followText "set-order" <;> simp
/-- set.__new__(set, x) -/
theorem new_of (x : Value) {Q : Value → Shared → Prop} (q : Q (.ref s.heap.objs.size) { s with heap := s.heap.push (setNew w) }) :
    codeAny (model P w) A (.call (.builtin "set.__new__") ⟨[.type "set", x], []⟩) (wants Q E) s := by
  apply codeAny_of_tree
  show wpAny _ A.in1 (checkBuiltinCall "set.__new__" ⟨[.type "set", x], []⟩ >>= fun _ => again (.builtin "set.__new__" ⟨[.type "set", x], []⟩)) _ _ s
  apply wpAny_bind
  apply wpAny_of_eq (PySem.F.newCall_set_1 x)
  refine wpAny_pure ⟨plainId_quiet PySem.F.plain_set_new _, codeAny_builtin PySem.F.entry_set_new ?_⟩
  rw [Around.under_plainId PySem.F.plain_set_new _]
  unfold Builtin.«set.__new__» Builtin.Frozenset.newClass
  have self := sub_set_self
  rcases s with ⟨hp, gs, dr, tk, os⟩
  dsimp only at q ⊢
  wp_walk
  apply wpAny_askSetting
  apply wpAny_pure
  show wpAny _ _ (newObj (Value.type "set") (.set #[] 0 (SetTable.fresh 0 0 !w.params.followText "set-order"))) _ _ _
  unfold newObj
  exact wpAny_bind (wpAny_alloc (wpAny_pure (wpAny_pure q)))
/-- the same set in a heap that keeps it -/
theorem Stands.kept {h h' : Heap} {a : Addr} {S : T → Bool} {n : Nat} (R : Stands knd h a S n) (k : ∀ o, h.get? a = some o → h'.get? a = some o) : Stands knd h' a S n := by
  obtain ⟨o, es, ep, t, ho, r⟩ := R
  exact ⟨o, es, ep, t, k o ho, r⟩
theorem Stands.says {h : Heap} {a : Addr} {S S' : T → Bool} {n n' : Nat} (R : Stands knd h a S n) (e : ∀ k, S k = S' k) (en : n = n') : Stands knd h a S' n' := by
  have f : S = S' := funext e
  subst f en
  exact R
section
variable {R : Result → Shared → Prop} {I : Addr} {fp wr : List Addr} {G : Array GenState → Array GenState → Prop} {n : Nat} {Pv : Nat → Value → Prop} {St : Nat → Shared → Prop}
/-- each thing that an iterator yields goes into the set -/
theorem fill (W : WalksS P w A.in1 I fp wr G n Pv St) {a : Addr} (out : a ∉ fp) {xs : List T} (len : xs.length = n) (few : n + 1 < scanBound)
    (val : ∀ i v, Pv i v → ∃ k, xs[i]? = some k ∧ knd.is k v = true ∧ v.scannable = true) :
    ∀ (left i m : Nat) (s : Shared), i + left = n → m ≤ i → St i s → Stands knd s.heap a (fun k => decide (k ∈ xs.take i)) m →
      (∀ s' m', Moved (a :: wr) G s s' → m' ≤ n → Stands knd s'.heap a (fun k => decide (k ∈ xs)) m' → R (.ok (.ret .none)) s') →
      codeAny (model P w) A (.builtin "set.update.loop" ⟨[.ref a, .ref I], []⟩) R s := by
  have outw : a ∉ wr := fun h => out (W.sub _ h)
  have wider : ∀ b ∈ wr, b ∈ a :: wr := fun b h => List.mem_cons_of_mem _ h
  intro left
  induction left with
  | zero =>
    intro i m s e hm st X r
    obtain rfl : i = n := e
    apply codeAny_builtin PyProof.Rows.F.entry_set_update_loop
    rw [Around.under_plainId PyProof.Rows.F.plain_set_update_loop _]
    show wpAny _ A.in1 (pyNext (.ref I) >>= _) _ _ s
    apply wpAny_bind
    refine W.done s _ _ st fun s' mv => wpAny_pure ?_
    refine r s' m (mv.mono wider) hm ((X.kept fun o => mv.heap a o outw).says (fun k => ?_) rfl)
    rw [List.take_of_length_le (Nat.le_of_eq len)]
  | succ left ih =>
    intro i m s e hm st X r
    have lt : i < n := by omega
    apply codeAny_builtin PyProof.Rows.F.entry_set_update_loop
    rw [Around.under_plainId PyProof.Rows.F.plain_set_update_loop _]
    show wpAny _ A.in1 (pyNext (.ref I) >>= _) _ _ s
    apply wpAny_bind
    refine W.item i s _ _ lt st fun v s' pv st' mv => ?_
    obtain ⟨k, hk, isk, sc⟩ := val i v pv
    have X' := X.kept fun o => mv.heap a o outw
    show wpAny _ A.in1 (holding [v] (setAdd a v) >>= _) _ _ s'
    apply wpAny_bind
    apply wpAny_holding
    unfold setAdd
    apply wpAny_holding
    apply wpAny_bind
    apply knd.pyHash isk
    refine add_key (s := { s' with toks := s'.toks + 1 }) X' isk sc (by omega) fun h' sb Y => ?_
    have Z : Stands knd h' a (fun k => decide (k ∈ xs.take (i + 1))) (if decide (k ∈ xs.take i) = true then m else m + 1) := Y.says (fun j => by
      rw [List.take_add_one, hk]
      simp [List.mem_append]) rfl
    have hm' : (if decide (k ∈ xs.take i) = true then m else m + 1) ≤ i + 1 := by
      split <;> omega
    refine wpAny_pure ⟨plainId_quiet PyProof.Rows.F.plain_set_update_loop _, ?_⟩
    refine ih (i + 1) _ _ (by omega) hm' (W.frame _ s' _ _ st' (Nat.le_succ _) fun b hb o e => ?_) Z fun s'' m' mv' hm'' X'' => ?_
    · rw [sb.2 b fun c => out (c ▸ hb)]
      exact e
    · refine r s'' m' (Moved.trans W.gtrans ((mv.mono wider).then_heap (Nat.le_succ _) fun b o nb e => ?_) mv') hm'' X''
      rw [sb.2 b fun c => nb (c ▸ List.mem_cons_self)]
      exact e
end
end
end Moot
namespace Moot
open PySem PySem.Spec PyProof.Rows L2
section
variable {P : Program} {w : World} {T : Type} [DecidableEq T] {knd : KeyKind P w T} {A : Around} {E : Value → Shared → Prop} {s : Shared}
/-- what set(xs) leaves -/
def Filled (knd : KeyKind P w T) (xs : List T) (s s' : Shared) : Prop :=
  ∃ (h' : Heap) (tk m : Nat), s' = { s with heap := h', toks := tk } ∧ m ≤ xs.length ∧ Stands knd h' s.heap.objs.size (fun k => decide (k ∈ xs)) m ∧ ∀ b o, s.heap.get? b = some o → h'.get? b = some o
/-- set.__init__ of the new set, over a list -/
theorem init_list {l : Addr} {vs : List Value} {xs : List T} (calm : A.handled = none) (hl : s.heap.IsList l vs.toArray) (len : xs.length = vs.length) (few : vs.length + 1 < scanBound)
    (val : ∀ (i : Nat) v, vs[i]? = some v → ∃ k, xs[i]? = some k ∧ knd.is k v = true ∧ v.scannable = true) :
    codeAny (model P w) A (.call (.builtin "set.__init__") ⟨[.ref s.heap.objs.size, .ref l], []⟩) (wants (fun r s' => r = .none ∧ Filled knd xs s s') E) { s with heap := s.heap.push (setNew w) } := by
  have at0 : (s.heap.push (setNew w)).get? s.heap.objs.size = some (setNew w) := Heap.get?_push_size _ rfl
  have ty : Shared.TypeIs { s with heap := s.heap.push (setNew w) } (.ref s.heap.objs.size) "set" := ⟨_, at0, rfl⟩
  refine codeAny_call_builtin PySem.F.called_set.init.plain PySem.F.entry_set_init (check_set_init_1 ty ?_)
  have hl1 : (s.heap.push (setNew w)).IsList l vs.toArray := hl.push _
  have hlo := hl1
  obtain ⟨⟨oc, od, oda, osl⟩, ol, hc, nl, hda⟩ := hlo
  dsimp only at hc hda
  subst hc hda
  have n1 := PySem.F.sub_list_set
  have n2 := PySem.F.sub_list_frozenset
  have n3 : (Value.type "list" == Value.type "dict") = false := by decide
  unfold Builtin.«set.__init__» noKeywords Builtin.Frozenset.updateFrom
  generalize it : pyIter = iter
  wp_walk
  subst it
  apply wpAny_pyIter_list hl1
  apply wpAny_bind
  apply wpAny_runValue
  have size1 : (s.heap.push (setNew w)).objs.size = s.heap.objs.size + 1 := size_push' _ _
  have low : l < s.heap.objs.size := by
    obtain ⟨o, ho, _⟩ := hl
    exact Heap.lt_size ho
  have calm2 : A.in1.in1.handled = none := calm
  have ne : l ≠ (s.heap.push (setNew w)).objs.size := by
    rw [size1]
    exact Nat.ne_of_lt (Nat.lt_succ_of_lt low)
  have out : s.heap.objs.size ∉ [(s.heap.push (setNew w)).objs.size, l] := by
    rw [size1]
    intro m
    rcases List.mem_cons.mp m with c | c
    · exact Nat.ne_of_lt (Nat.lt_succ_self _) c
    · exact Nat.ne_of_gt low (List.mem_singleton.mp c)
  have walk := (Walks.list (prog := P) (w := w) calm2 _ l ne vs.toArray).toS
  refine fill (knd := knd) (xs := xs) walk out (by rw [len]; simp) (by simpa using few) (fun i v h => ?_) vs.toArray.size 0 0 _ (by simp) (Nat.le_refl _) ?_ ?_ fun s' m mv hm X => ?_
  · exact val i v (by simpa using h)
  · exact ⟨⟨_, Heap.get?_push_size _ rfl, rfl, rfl⟩, hl1.push _⟩
  · exact ((setNew_stands s.heap).kept fun o => Heap.get?_push_of_some _).says (fun k => by simp) rfl
  · apply wpAny_pure
    refine wpAny_pure ⟨rfl, s'.heap, s'.toks, m, ?_, by rw [len]; simpa using hm, X, fun b o e => ?_⟩
    · rcases s' with ⟨h', g', d', t', o'⟩
      obtain rfl : g' = s.gens := mv.gens
      obtain rfl : d' = s.drawn := mv.drawn
      obtain rfl : o' = s.os := mv.os
      rfl
    · have lt := Heap.lt_size e
      refine mv.heap b o (fun c => ?_) (Heap.get?_push_of_some _ (Heap.get?_push_of_some _ e))
      rcases List.mem_cons.mp c with c | c
      · exact Nat.ne_of_lt lt c
      · refine Nat.ne_of_lt (Nat.lt_succ_of_lt lt) (Eq.trans (List.mem_singleton.mp c) size1)
/-- set(xs) of a list -/
theorem set_list {l : Addr} {vs : List Value} {xs : List T} (calm : A.handled = none) (hl : s.heap.IsList l vs.toArray) (len : xs.length = vs.length) (few : vs.length + 1 < scanBound)
    (val : ∀ (i : Nat) v, vs[i]? = some v → ∃ k, xs[i]? = some k ∧ knd.is k v = true ∧ v.scannable = true) {Q : Value → Shared → Prop} (q : ∀ s', Filled knd xs s s' → Q (.ref s.heap.objs.size) s') :
    wpAny (model P w) A (call (.type "set") [.ref l]) Q E s := by
  obtain ⟨c, tl, mro⟩ := PySem.F.called_set.mro
  have made := PySem.F.called_set.made
  have sub := PySem.F.called_set.sub
  have f1 := PySem.F.called_set.notType
  have f2 := PySem.F.called_set.canCreate
  have f3 := PySem.F.typeCall_set_1 (.ref l)
  apply wpAny_call
  apply codeAny_of_tree
  show wpAny _ _ (callAny (.type "set") _) _ _ _
  refine wpAny_pure ⟨Code.quiet_builtin _ (by decide +kernel), ?_⟩
  apply codeAny_builtin PySem.F.entry_type_call
  rw [Around.under_plain (weight_type_call_type "set" [.ref l] []) rfl]
  repeat (any_goals (first | assumption | wp_step))
  refine codeAny_mono (new_of (.ref l) (E := E) (Q := fun x s₁ => x = .ref s.heap.objs.size ∧ s₁ = { s with heap := s.heap.push (setNew w) }) ⟨rfl, rfl⟩) ?_
  rintro (e | f) s₁ h
  · exact h
  · cases f with
    | ret x =>
      obtain ⟨rfl, rfl⟩ := h
      have ty : Shared.TypeIs { s with heap := s.heap.push (setNew w) } (.ref s.heap.objs.size) "set" := ⟨_, Heap.get?_push_size _ rfl, rfl⟩
      have g1 := PySem.F.called_set.init.lookup
      have g2 := PySem.F.called_set.init.bind (.ref s.heap.objs.size)
      repeat (any_goals (first | assumption | wp_step))
      refine codeAny_mono (init_list (A := A.in1) (E := E) (knd := knd) calm hl len few val) ?_
      rintro (e | f) s₂ h
      · exact h
      · cases f with
        | ret r =>
          obtain ⟨rfl, F⟩ := h
          exact wpAny_pure (wpAny_pure (q s₂ F))
        | _ => exact h.elim
    | _ => exact h.elim
end
end Moot
namespace Moot
open PySem PySem.Spec PyProof.Rows L2
section
variable {P : Program} {w : World} {A : Around} {E : Value → Shared → Prop} {s : Shared}
/-- the text of an entry -/
def txt (v : Value) : Str := match v with | .str x _ => x | _ => Str.empty
theorem txts_are : ∀ {vs : List Value}, (∀ v ∈ vs, ∃ x t, v = Value.str x t) → StrsAre vs (vs.map txt)
  | [], _ => .nil
  | v :: vs, h => by
    obtain ⟨x, t, rfl⟩ := h v List.mem_cons_self
    exact .cons x t (txts_are fun u m => h u (List.mem_cons_of_mem _ m))
theorem entry_txt {e : Int × Value} (h : ∃ k, (PySem.strKind P w).is k e.2 = true) : (∃ x t, e.2 = Value.str x t) ∧ (PySem.strKind P w).is (txt e.2) e.2 = true := by
  obtain ⟨k, i⟩ := h
  obtain ⟨t, q⟩ := Value.isStrOf_shape (x := k) i
  refine ⟨⟨k, t, q⟩, ?_⟩
  rw [q]
  exact strKind_is P w k t
/-- the texts of a set's entries -/
theorem Laid.txts {S : Str → Bool} {es : Array (Int × Value)} {t : SetTable} (L : Laid (PySem.strKind P w) S es t) :
    (∀ v ∈ es.toList.map (·.2), ∃ x t, v = Value.str x t) ∧ (es.toList.map fun e => txt e.2).Nodup ∧ ∀ k, k ∈ (es.toList.map fun e => txt e.2) ↔ S k = true := by
  have ok : ∀ e ∈ es.toList, (∃ x t, e.2 = Value.str x t) ∧ (PySem.strKind P w).is (txt e.2) e.2 = true := fun e m => by
    obtain ⟨⟨k, i, _⟩, _⟩ := L.el e m
    exact entry_txt ⟨k, i⟩
  refine ⟨fun v m => ?_, ?_, fun k => ?_⟩
  · obtain ⟨e, me, rfl⟩ := List.mem_map.mp m
    exact (ok e me).1
  · refine List.pairwise_map.mpr (List.Pairwise.imp_of_mem (fun {e f} me mf h c => ?_) L.one)
    refine h _ (ok e me).2 ?_
    rw [c]
    exact (ok f mf).2
  · rw [L.mem k, List.mem_map]
    constructor
    · rintro ⟨e, m, rfl⟩
      exact ⟨e, m, (ok e m).2⟩
    · rintro ⟨e, m, i⟩
      exact ⟨e, m, (PySem.strKind P w).inj e.2 _ _ (ok e m).2 i⟩
/-- sorted(a set of texts) -/
theorem sorted_txts {a : Addr} {S : Str → Bool} {n : Nat} {Q : Value → Shared → Prop} (R : Stands (PySem.strKind P w) s.heap a S n) (calm : A.handled = none) (few : n < 64)
    (q : ∀ s' p (out : Array Value) (c : Nat) (ys : List Str), (∀ b o, s.heap.get? b = some o → s'.heap.get? b = some o) → s'.gens = s.gens → s'.os = s.os → s.heap.objs.size ≤ p →
      s'.heap.get? p = some (seqObj "list" out c) → StrsAre out.toList ys → sortedS ys = true → ys.Nodup → (∀ k, k ∈ ys ↔ S k = true) → ys.length = n → Q (.ref p) s') :
    wpAny (model P w) A (call (.builtin "sorted") [.ref a]) Q E s := by
  obtain ⟨o, es, ep, t, ho, hex, hd, rfl, L⟩ := R
  obtain ⟨x1, x2, x3⟩ := L.txts
  apply Calls.call_function_entry kind_sorted plain_sorted entry_sorted (args_sorted1 _)
  unfold Builtin.«sorted»
  apply wpAny_bind (m := checkCount "sorted" 1 1 _)
  apply wpAny_pure
  apply wpAny_bind
  refine collect_set (A := A.in1) calm ⟨o, ho, hex.1, hd⟩ L.fit L.few L.ris L.led fun s1 vs kept grown same1 same2 pm => ?_
  have len : vs.length = es.size := by simpa using pm.length_eq
  have are : StrsAre vs (vs.map txt) := txts_are fun v m => x1 v (pm.mem_iff.mp m)
  have perm : (vs.map txt).Perm (es.toList.map fun e => txt e.2) := by
    have z := pm.map txt
    rwa [List.map_map] at z
  apply wpAny_bind
  refine wpAny_newList ?_ (by rw [len, sizeLine_eq]; omega)
  have here : (s1.heap.push (seqObj "list" vs.toArray 0)).get? s1.heap.objs.size = some (seqObj "list" vs.toArray 0) := Heap.get?_push_size _ rfl
  apply wpAny_bind
  apply wpAny_holding
  refine wpAny_call_entry slot_list_sort ⟨_, here, rfl⟩ entry_list_sort ?_ (args_list_sort _)
  refine list_sort_treeK strKind_oneLt here are.keysOf (fun v₁ v₂ rest e => keyKind_strs (by rw [← e]; exact are)) (by rw [len]; exact few) fun st a1 a2 => ⟨_, rfl, ?_⟩
  obtain ⟨ys, y1, y2, y3⟩ := sorted_out_str are a1 a2
  obtain ⟨c, at'⟩ := sortedHeap_at (vs := vs) (out := (arrOf st).map (·.2)) here
  have all := y2.trans perm
  refine wpAny_pure ⟨_, rfl, q _ s1.heap.objs.size _ c ys (fun b u e => ?_) same1 same2 grown at' y1 y3 (all.nodup_iff.mpr x2) (fun k => all.mem_iff.trans (x3 k)) ?_⟩
  · have z := kept b u e
    have lt := Heap.lt_size z
    show (sortedHeap (s1.heap.push (seqObj "list" vs.toArray 0)) s1.heap.objs.size vs _).get? b = some u
    rw [sortedHeap_old (Nat.ne_of_lt lt) (by rw [size_push']; exact Nat.lt_succ_of_lt lt)]
    exact Heap.get?_push_of_some _ z
  · simpa using all.length_eq
end
/-- the set of texts at a, as a thing of the abstract heap -/
def TxtSet (P : Program) (w : World) (a : Addr) (S : Str → Bool) (n : Nat) : HO := .ext fun h => Stands (PySem.strKind P w) h a S n
theorem txtSet_ok {P : Program} {w : World} {H : Hp} {h : Heap} {a : Addr} {S : Str → Bool} {n : Nat} (R : Stands (PySem.strKind P w) h a S n) : ObjOk P w H h a (TxtSet P w a S n) := by
  obtain ⟨o, _, _, _, ho, _⟩ := id R
  exact ⟨R, ⟨o, ho⟩, fun h1 h2 r k => r.kept k⟩
/-- set(zs), zs a list of fewer than 64 texts -/
def rTxtSet (K : PySem.W.Frag) (P : Program) (w : World) : List V → Hp → VK → Prop := fun vs H Q =>
  ∃ (l : Addr) (zs : List Str), vs = [V.ref l] ∧ SqL K H l (zs.map V.str) ∧ zs.length < 64 ∧ ∀ p m, H p = none → m ≤ zs.length → Q (.ref p) (upd H p (TxtSet P w p (fun k => decide (k ∈ zs)) m))
/-- sorted(S), S such a set -/
def rTxtSorted (P : Program) (w : World) : List V → Hp → VK → Prop := fun vs H Q =>
  ∃ (a : Addr) (S : Str → Bool) (n : Nat), vs = [V.ref a] ∧ H a = some (TxtSet P w a S n) ∧ n < 64 ∧
    ∀ (ys : List Str) (p : Addr), sortedS ys = true → ys.Nodup → (∀ k, k ∈ ys ↔ S k = true) → ys.length = n → H p = none → Q (.ref p) (upd H p (.lst (ys.map V.str)))
section
variable {X : Cx}
theorem cr_txtSet (calm : X.calm = true) : CallR X (.type "set") (rTxtSet X.K X.prog X.w) := by
  intro pins s σ H vs us Q I r h
  obtain ⟨l, zs, rfl, hl, few, q⟩ := h
  rw [Vals.ref1 r]
  obtain ⟨its, rel, pl, _⟩ := I.list hl
  have len : zs.length = its.length := by
    have z := rel.length
    rwa [List.length_map] at z
  refine set_list (knd := PySem.strKind X.prog X.w) (xs := zs) (I.ok.hd calm) pl.isList len (by unfold scanBound; omega) (fun i v e => ?_) fun s' F => ?_
  · have lt : i < zs.length := by
      rw [len]
      exact (List.getElem?_eq_some_iff.mp e).1
    obtain ⟨u, hu, t, rfl⟩ := rel.get (i := i) (x := .str zs[i]) (by simp [lt])
    cases Option.some.inj (e.symm.trans hu)
    exact ⟨zs[i], List.getElem?_eq_getElem lt, strKind_is _ _ _ _, rfl⟩
  · obtain ⟨h', tk, m, rfl, hm, R, kept⟩ := F
    exact ⟨.ref _, _, I.laid (t' := tk) kept (Nat.le_refl _) (txtSet_ok R), rfl, q _ m (I.hok.fresh (Nat.le_refl _)) hm⟩
theorem cr_txtSorted (calm : X.calm = true) : CallR X (.builtin "sorted") (rTxtSorted X.prog X.w) := by
  intro pins s σ H vs us Q I r h
  obtain ⟨a, S, n, rfl, ha, few, q⟩ := h
  have R : Stands (PySem.strKind X.prog X.w) s.heap a S n := (I.hok a _ ha).1
  rw [Vals.ref1 r]
  refine sorted_txts R (I.ok.hd calm) few fun s' p out c ys kept e1 e2 hp here are srt nd mem len => ?_
  have fits : (ys.map V.str).length ≤ sizeLine := by
    rw [List.length_map, len]
    exact small64 few
  have free : H p = none := I.hok.fresh hp
  have J : Inv X pins σ (upd H p (.lst (ys.map V.str))) { s with heap := s'.heap, gens := s'.gens, drawn := s'.drawn, toks := s'.toks } :=
    I.call (ch := []) (Un.laid kept hp free) (I.hok.laid kept hp ⟨fits, out.toList, c, vals_of_strs are, here⟩) (by rw [e1]; exact I.bare) fun _ z => nomatch z
  have same : s' = { s with heap := s'.heap, gens := s'.gens, drawn := s'.drawn, toks := s'.toks } := by
    rcases s' with ⟨h', g', d', t', o'⟩
    cases e2
    rfl
  rw [same]
  exact ⟨.ref p, _, J, rfl, q ys p srt nd mem len free⟩
end
end Moot
namespace Moot
open PySem PySem.Spec PyProof.Rows L2
def top (i : Nat) : Stmt := PySem.Challenge.pw_oathmoot_k37_ballots_and_statements.main.body.getD i (.Pass ⟨0, 0, 0, 0⟩)
/-! the box of drawn numbers -/
structure Box (H : Hp) (b g m : Addr) (n : Nat) : Prop where
  ex : ∃ (x k : Int) (gs ms : List Int), H b = some (.lst [.ref g, .int x, .ref m, .int k]) ∧ H g = some (.lst (gs.map V.int)) ∧ H m = some (.lst (ms.map V.int)) ∧ 0 ≤ k ∧ k ≤ n ∧ gs.length ≤ 63 ∧ ms.length ≤ 63
  bg : b ≠ g
  bm : b ≠ m
  gm : g ≠ m
/-- all but the box's own cells stays -/
def Keep (b g : Addr) (H H' : Hp) : Prop := ∀ c o, H c = some o → c ≠ b → c ≠ g → H' c = some o
theorem same_new {H : Hp} {p : Addr} {o : HO} (h : H p = none) : Same H (upd H p o) := fun b x e => by
  rw [upd_ne (ne_of_none e h)]
  exact e
theorem Keep.refl (b g : Addr) (H : Hp) : Keep b g H H := fun _ _ e _ _ => e
theorem Keep.trans {b g : Addr} {H H1 H2 : Hp} (k : Keep b g H H1) (l : Keep b g H1 H2) : Keep b g H H2 := fun c o e n1 n2 => l c o (k c o e n1 n2) n1 n2
theorem Same.keep {b g : Addr} {H H' : Hp} (s : Same H H') : Keep b g H H' := fun c o e _ _ => s c o e
theorem Box.same {H H' : Hp} {b g m : Addr} {n : Nat} (B : Box H b g m n) (s : Same H H') : Box H' b g m n := by
  obtain ⟨⟨x, k, gs, ms, h1, h2, h3, r⟩, n1, n2, n3⟩ := B
  exact ⟨⟨x, k, gs, ms, s _ _ h1, s _ _ h2, s _ _ h3, r⟩, n1, n2, n3⟩
theorem Box.more {H : Hp} {b g m : Addr} {n n' : Nat} (B : Box H b g m n) (h : n ≤ n') : Box H b g m n' := by
  obtain ⟨⟨x, k, gs, ms, h1, h2, h3, h4, h5, r⟩, n1, n2, n3⟩ := B
  exact ⟨⟨x, k, gs, ms, h1, h2, h3, h4, by omega, r⟩, n1, n2, n3⟩
/-- a store elsewhere -/
theorem Box.store {H : Hp} {b g m p : Addr} {n : Nat} {o : HO} (B : Box H b g m n) (p1 : p ≠ b) (p2 : p ≠ g) (p3 : p ≠ m) : Box (upd H p o) b g m n := by
  obtain ⟨⟨x, k, gs, ms, h1, h2, h3, r⟩, n1, n2, n3⟩ := B
  exact ⟨⟨x, k, gs, ms, by rw [upd_ne p1.symm]; exact h1, by rw [upd_ne p2.symm]; exact h2, by rw [upd_ne p3.symm]; exact h3, r⟩, n1, n2, n3⟩
theorem Box.b_in {H : Hp} {b g m : Addr} {n : Nat} (B : Box H b g m n) : ∃ o, H b = some o := let ⟨_, _, _, _, h, _⟩ := B.ex; ⟨_, h⟩
theorem Box.g_in {H : Hp} {b g m : Addr} {n : Nat} (B : Box H b g m n) : ∃ o, H g = some o := let ⟨_, _, _, _, _, h, _⟩ := B.ex; ⟨_, h⟩
theorem Box.m_in {H : Hp} {b g m : Addr} {n : Nat} (B : Box H b g m n) : ∃ o, H m = some o := let ⟨_, _, _, _, _, _, h, _⟩ := B.ex; ⟨_, h⟩
/-- an int at a place in bounds -/
theorem int_at (l : List Int) {i : Int} (h0 : 0 ≤ i) (h1 : i < l.length) : ∃ z : Int, atI (l.map V.int) i = some (.int z) := by
  obtain ⟨j, rfl⟩ := Int.eq_ofNat_of_zero_le h0
  have lt : j < l.length := by omega
  exact ⟨l[j], atI_nat (by rw [List.getElem?_map, List.getElem?_eq_getElem lt]; rfl)⟩
section
variable {P : Program} {w : World} {K : PySem.W.Frag} {mg : Str → Option Value} {base : Heap}
/-! _law_box -/
abbrev sBox : Stmt := top 12
abbrev nBox : List Str := ["_law_script", "_law_great", "_law_cell"]
theorem scBox : FnScope nBox ["_law_script"] (defScope sBox) := ⟨rfl, rfl, rfl, by decide +kernel, rfl, by decide +kernel, by decide +kernel⟩
def spBox (K : PySem.W.Frag) : Sp := fun vs H Q _ => ∃ (a : Addr) (ns : List Int), vs = [.ref a] ∧ SqL K H a (ns.map V.int) ∧ ns.length ≤ 63 ∧
  ∀ H' b g m, Same H H' → Box H' b g m 0 → Q (.ref b) H'
/-- some ints, no more than there were -/
def Ints (H : Hp) (p : Addr) (n : Nat) : Prop := ∃ ns : List Int, H p = some (.lst (ns.map V.int)) ∧ ns.length ≤ n
theorem ok_box {f : Addr} {fd : FuncData} {k : Nat} (F : Fun K "_law_box" "_law_box" sBox f fd) : FnOk P w K mg base CX0 (k + 1) f fd ["_law_script"] (spBox K) := by
  refine F.ok scBox (fun vs H Q E h => ?_) (fun cdv A outer s H vs Q E hr h => ?_)
  · obtain ⟨a, ns, rfl, _⟩ := h
    rfl
  · obtain ⟨a, ns, rfl, hS, len, q⟩ := h
    refine ⟨_, pss_cons (ps_setLc (i := 1) (own := [("_law_cell", 2)]) (g := gName 2) (by rfl) scBox.nd rfl rfl (sw_true rfl rfl rfl (by decide +kernel)) (pi_list (pv 0)) (blkOk_by (N := nBox) (sc := defScope sBox) (by decide +kernel))
        (fun _ _ _ _ _ => pg_name (i := 2) scBox.nd rfl (Or.inl rfl)) (fun _ _ _ _ _ => pts_one (pt_cmpR op_ge (pv 2) (pe_op op_pow pe_int pe_int) (nomark _))) (fun _ _ _ _ _ => pv 2))
      (pss_one (ps_ret (pe_lst (pa_cons (pv 1) (pa_cons pe_int (pa_cons
        (pe_lc (own := [("_law_cell", 2)]) (g := gName 2) (by rfl) scBox.nd (pi_list (pv 0)) (blkOk_by (N := nBox) (sc := defScope sBox) (by decide +kernel))
          (fun _ _ _ _ _ => pg_name (i := 2) scBox.nd rfl (Or.inl rfl)) (fun _ _ _ _ _ => pts_one (pt_cmpR op_lt (pv 2) (pe_op op_pow pe_int pe_int) (nomark _))) (fun _ _ _ _ _ => pv 2))
        (pa_cons pe_int pa_nil))))))), ?_⟩
    have item : ∀ (i : Nat) (x : V), (ns.map V.int)[i]? = some x → ∃ z, x = V.int z := fun i x e => by
      rw [List.getElem?_map] at e
      obtain ⟨z, _, rfl⟩ := Option.map_eq_some_iff.mp e
      exact ⟨z, rfl⟩
    have pow : CPow 10 18 := ⟨by decide, by decide, by decide⟩
    have small : ∀ {l : List Int} {i : Nat}, l.length ≤ i → i < ns.length → (l.map V.int).length < sizeLine := fun h1 h2 => by
      rw [List.length_map]
      exact small1000 (by omega)
    refine ⟨.ref a, rfl, a, rfl, ⟨_, hS⟩, fun D nD => lc_list (K := K) (a := a) (xs := ns.map V.int) (fun i H1 => Same H H1 ∧ ∃ gs : List Int, H1 D = some (.lst (gs.map V.int)) ∧ gs.length ≤ i) ?_ (fun i H1 _ h => Same.seq h.1 hS) ?_ ?_⟩
    · exact ⟨same_new nD, [], upd_same, Nat.le_refl _⟩
    · rintro i x H1 hx ⟨s1, gs, hD, hl⟩
      have hi : i < ns.length := by
        have := (List.getElem?_eq_some_iff.mp hx).1
        rwa [List.length_map] at this
      obtain ⟨z, rfl⟩ := item i x hx
      refine ⟨rfl, .int z, rfl, 10, 18, rfl, rfl, pow, _, _, rfl, rfl, _, rfl, ite2 (fun _ => ?_) (fun _ => ?_)⟩
      · refine ⟨.int z, rfl, _, hD, small hl hi, fun c o e => ?_, gs ++ [z], ?_, ?_⟩
        · rw [upd_ne (ne_of_none e nD)]
          exact s1 c o e
        · rw [upd_same, List.map_append]
          rfl
        · rw [List.length_append]
          exact Nat.succ_le_succ hl
      · exact ⟨s1, gs, hD, Nat.le_succ_of_le hl⟩
    · rintro H1 ⟨s1, gs, hD, hl⟩
      rw [List.length_map] at hl
      have hS1 : SqL K H1 a (ns.map V.int) := Same.seq s1 hS
      refine ⟨.ref D, rfl, .ref a, rfl, a, rfl, ⟨_, hS1⟩, fun D2 nD2 => lc_list (K := K) (a := a) (xs := ns.map V.int) (fun i H2 => Same H1 H2 ∧ ∃ ms : List Int, H2 D2 = some (.lst (ms.map V.int)) ∧ ms.length ≤ i) ?_ (fun i H2 _ h => Same.seq h.1 hS1) ?_ ?_⟩
      · exact ⟨same_new nD2, [], upd_same, Nat.le_refl _⟩
      · rintro i x H2 hx ⟨s2, ms, hD2, hl2⟩
        have hi : i < ns.length := by
          have := (List.getElem?_eq_some_iff.mp hx).1
          rwa [List.length_map] at this
        obtain ⟨z, rfl⟩ := item i x hx
        refine ⟨rfl, .int z, rfl, 10, 18, rfl, rfl, pow, _, _, rfl, rfl, _, rfl, ite2 (fun _ => ?_) (fun _ => ?_)⟩
        · refine ⟨.int z, rfl, _, hD2, small hl2 hi, fun c o e => ?_, ms ++ [z], ?_, ?_⟩
          · rw [upd_ne (ne_of_none e nD2)]
            exact s2 c o e
          · rw [upd_same, List.map_append]
            rfl
          · rw [List.length_append]
            exact Nat.succ_le_succ hl2
        · exact ⟨s2, ms, hD2, Nat.le_succ_of_le hl2⟩
      · rintro H2 ⟨s2, ms, hD2, hl2⟩
        rw [List.length_map] at hl2
        refine ⟨by show 4 ≤ sizeLine; decide, fun b nb => ?_⟩
        have nD' : H2 D = some (.lst (gs.map V.int)) := s2 _ _ hD
        have ne : D ≠ D2 := ne_of_none hD nD2
        have e1 : D ≠ b := ne_of_none nD' nb
        have e2 : D2 ≠ b := ne_of_none hD2 nb
        refine q _ b D D2 ((s1.trans s2).trans (same_new nb)) ⟨⟨0, 0, gs, ms, upd_same, ?_, ?_, Int.le_refl _, Int.le_refl _, by omega, by omega⟩, e1.symm, e2.symm, ne⟩
        · rw [upd_ne e1]
          exact nD'
        · rw [upd_ne e2]
          exact hD2
/-! _law_mixed -/
abbrev sMixed : Stmt := top 13
abbrev nMixed : List Str := ["_law_cell", "_law_k", "_law_whole"]
theorem scMixed : FnScope nMixed ["_law_cell", "_law_k"] (defScope sMixed) := ⟨rfl, rfl, rfl, by decide +kernel, rfl, by decide +kernel, by decide +kernel⟩
def spMixed : Sp := fun vs H Q _ => ∃ c k : Int, vs = [.int c, .int k] ∧ 0 ≤ k ∧ k ≤ 10000000 ∧ ∀ v : Int, Q (.int v) H
theorem ok_mixed {f : Addr} {fd : FuncData} {k : Nat} (F : Fun K "_law_mixed" "_law_mixed" sMixed f fd) : FnOk P w K mg base CX0 (k + 1) f fd ["_law_cell", "_law_k"] spMixed := by
  refine F.ok scMixed (fun vs H Q E h => ?_) (fun cdv A outer s H vs Q E hr h => ?_)
  · obtain ⟨c, k, rfl, _⟩ := h
    rfl
  · obtain ⟨c, k, rfl, k0, k1, q⟩ := h
    refine ⟨_, pss_cons (ps_set (i := 2) scMixed.nd rfl (Or.inl rfl) (pe_op op_mod (pe_op op_pow
        (pe_op op_add (pe_op op_add (pe_op op_add (pe_op op_mod (pv 0) pe_int) (pe_op op_mul (pe_op op_mul pe_int (pv 1)) (pv 1))) (pe_op op_mul pe_int (pv 1))) pe_int) pe_int) pe_int))
      (pss_one (ps_ret (pe_op op_mod (pe_op op_add (pe_op op_mul (pv 2) pe_int) (pe_op op_mul pe_int (pv 1))) pe_int))), ?_⟩
    have m0 : 0 ≤ c % 2147483647 := Int.emod_nonneg _ (by decide)
    have m1 : c % 2147483647 < 2147483647 := Int.emod_lt_of_pos _ (by decide)
    have sq : 0 ≤ k * k ∧ k * k ≤ 10000000 * 10000000 := ⟨Int.mul_nonneg k0 k0, Int.mul_le_mul k1 k1 k0 (by decide)⟩
    have e : 1009 * k * k = 1009 * (k * k) := Int.mul_assoc _ _ _
    have big : (c % 2147483647 + 1009 * k * k + 48611 * k + 17).natAbs < 2 ^ 64 := by
      rw [e]
      omega
    refine ⟨_, rfl, _, _, rfl, rfl, (by show (0 : Int) < 2147483647; decide), _, rfl, _, _, rfl, rfl, .inl ⟨by decide, by decide⟩, _, rfl, _, _, rfl, rfl, .inr ⟨by omega, by omega⟩, _, _, rfl, rfl, _, rfl, _, _, rfl, rfl, .inl ⟨by decide, by decide⟩, _, _, rfl, rfl, _, _, rfl, rfl,
      _, _, rfl, rfl, ⟨by decide, by decide, big⟩, _, _, rfl, rfl, (by show (0 : Int) < 2147483647; decide), ?_⟩
    refine ⟨_, rfl, _, _, rfl, rfl, .inr ⟨by decide, by decide⟩, _, rfl, _, _, rfl, rfl, .inl ⟨by decide, by decide⟩, _, _, rfl, rfl, _, _, rfl, rfl, (by show (0 : Int) < 1000000007; decide), ?_⟩
    exact q _
/-! _law_take -/
abbrev sTake : Stmt := top 14
abbrev nTake : List Str := ["_law_box_here", "_law_size", "_law_found", "_law_cell", "_law_reach"]
theorem scTake : FnScope nTake ["_law_box_here", "_law_size"] (defScope sTake) := ⟨rfl, rfl, rfl, by decide +kernel, rfl, by decide +kernel, by decide +kernel⟩
/-- a drawn number below size; the box is a box again -/
def spTake : Sp := fun vs H Q _ => ∃ (b g m : Addr) (n : Nat) (size : Int), vs = [.ref b, .int size] ∧ Box H b g m n ∧ n ≤ 1000000 ∧ 1 ≤ size ∧ size ≤ 1000 ∧
  ∀ (v : Int) (H' : Hp), 0 ≤ v → v < size → Box H' b g m (n + 1) → Keep b g H H' → Q (.int v) H'
theorem ok_take {f fM : Addr} {fd fdM : FuncData} {k : Nat} (F : Fun K "_law_take" "_law_take" sTake f fd) (FM : Fun K "_law_mixed" "_law_mixed" sMixed fM fdM) (bM : Binds K fdM ["_law_cell", "_law_k"] []) (gM : mg "_law_mixed" = some (.ref fM))
    (ml : mg "len" = none) (mx : mg "max" = none) : FnOk P w K mg base CX0 (k + 2) f fd ["_law_box_here", "_law_size"] spTake := by
  have GM : FnOk P w K mg base CX0 (k + 1) fM fdM ["_law_cell", "_law_k"] spMixed := ok_mixed FM
  refine F.ok scTake (fun vs H Q E h => ?_) (fun cdv A outer s H vs Q E hr h => ?_)
  · obtain ⟨b, g, m, n, size, rfl, _⟩ := h
    rfl
  · obtain ⟨b, g, m, n, size, rfl, B, hn, s1, s2, q⟩ := h
    refine ⟨_, pss_cons (ps_asg (pe_op op_add (pe_ix ix_list (pv 0) pe_int (fun _ _ => rfl)) pe_int) (pg_sub (pv 0) pe_int L2.set_list))
      (C8.pss_cut (ps_if (PW.pt (pw_and (pt_cmpR op_eq (pe_ix ix_list (pv 0) pe_int (fun _ _ => rfl)) pe_int (nomark _))
          (pw_and1 (pt_cmpR op_gt (pe_callB call_len_seq (by rfl) ml PySem.boot_len (pa_cons (pe_ix ix_list (pv 0) pe_int (fun _ _ => rfl)) pa_nil)) pe_int (nomark _)))))
        (pss_one (ps_asg (pe_bm PySem.F.plainAttrs_list PySem.F.slot_list_pop PySem.F.type_list_pop mt_popAt (pe_ix ix_list (pv 0) pe_int (fun _ _ => rfl)) (pa_cons pe_int pa_nil)) (pg_sub (pv 0) pe_int L2.set_list))) pss_nil)
      (pss_cons (ps_if (pt_cmpR op_gt (pe_ix ix_list (pv 0) pe_int (fun _ _ => rfl)) pe_int (nomark _))
        (pss_cons (ps_set (i := 2) scTake.nd rfl (Or.inl rfl) (pe_op op_mod (pe_ix ix_list (pv 0) pe_int (fun _ _ => rfl)) (pv 1)))
        (pss_cons (ps_asg (pe_op op_fdiv (pe_ix ix_list (pv 0) pe_int (fun _ _ => rfl)) (pv 1)) (pg_sub (pv 0) pe_int L2.set_list))
        (pss_one (ps_ret (pv 2))))) pss_nil)
      (pss_cons (ps_set (i := 3) scTake.nd rfl (Or.inl rfl) (pe_ix ix_list (pe_op op_cat (pe_ix ix_list (pv 0) pe_int (fun _ _ => rfl)) (pe_lst (pa_cons (pe_op op_mul pe_int (pe_ix ix_list (pv 0) pe_int (fun _ _ => rfl))) pa_nil)))
          (pe_op op_mod (pe_ix ix_list (pv 0) pe_int (fun _ _ => rfl)) (pe_callB (call_max2 rfl) (by rfl) mx (by decide +kernel) (pa_cons pe_int (pa_cons (pe_callB call_len_seq (by rfl) ml PySem.boot_len (pa_cons (pe_ix ix_list (pv 0) pe_int (fun _ _ => rfl)) pa_nil)) pa_nil)))) (fun _ _ => rfl)))
      (pss_cons (ps_set (i := 2) scTake.nd rfl (Or.inl rfl) pe_int)
      (pss_cons (ps_set (i := 4) scTake.nd rfl (Or.inl rfl) pe_int)
      (pss_cons (ps_while PassesOwn.never (pt_cmpR op_lt (pv 4) (pv 1) (nomark _))
        (pss_cons (ps_set (i := 2) scTake.nd rfl (Or.inl rfl) (pe_op op_add (pe_op op_mul (pv 2) pe_int) (pe_call GM hr (by rfl) gM FM.kp bM .nil pass0 (pa_cons (pv 3) (pa_cons (pe_op op_add (pe_ix ix_list (pv 0) pe_int (fun _ _ => rfl)) (pe_op op_mul pe_int (pe_op op_mod (pv 2) pe_int))) pa_nil)))))
        (pss_one (ps_set (i := 4) scTake.nd rfl (Or.inl rfl) (pe_op op_mul (pv 4) pe_int)))))
      (pss_one (ps_ret (pe_op op_mod (pv 2) (pv 1)))))))))), ?_⟩
    obtain ⟨⟨x, c, gs, ms, hb, hg, hm, c0, c1, gl, mlen⟩, bg, bm, gm⟩ := id B
    -- box[3] = box[3] + 1
    refine ⟨.ref b, rfl, b, _, 3, .int c, rfl, rfl, SqL.of hb, rfl, _, _, rfl, rfl, .ref b, rfl, b, _, 3, 3, rfl, rfl, hb, rfl, ?_⟩
    -- the word between
    refine ⟨fun σ H1 => σ = [some (.ref b), some (.int size), none, none, none] ∧ ∃ (x1 : Int) (gs1 : List Int), H1 b = some (.lst [.ref g, .int x1, .ref m, .int (c + 1)]) ∧ H1 g = some (.lst (gs1.map V.int)) ∧ gs1.length ≤ 63 ∧ Keep b g H H1, ?_, ?_⟩
    · have hb1 : (upd H b (.lst [.ref g, .int x, .ref m, .int (c + 1)])) b = some (.lst [.ref g, .int x, .ref m, .int (c + 1)]) := upd_same
      have hg1 : (upd H b (.lst [.ref g, .int x, .ref m, .int (c + 1)])) g = some (.lst (gs.map V.int)) := by rw [upd_ne bg.symm]; exact hg
      have kp1 : Keep b g H (upd H b (.lst [.ref g, .int x, .ref m, .int (c + 1)])) := fun d o e n1 _ => by rw [upd_ne n1]; exact e
      refine ⟨.ref b, rfl, b, _, 1, .int x, rfl, rfl, SqL.of hb1, rfl, rfl, _, rfl, ?_⟩
      refine ite2 (fun _ => ?_) (fun _ => ?_)
      · refine ⟨.ref b, rfl, b, _, 0, .ref g, rfl, rfl, SqL.of hb1, rfl, g, _, rfl, .inl (SqL.of hg1), _, _, rfl, rfl, _, rfl, ite2 (fun e => ?_) (fun _ => ?_)⟩
        · have pos := of_decide_eq_true e
          rw [List.length_map] at pos
          obtain ⟨z, r, rfl⟩ : ∃ z r, gs = z :: r := by
            cases gs with
            | nil => simp at pos
            | cons z r => exact ⟨z, r, rfl⟩
          refine ⟨.ref b, rfl, b, _, 0, .ref g, rfl, rfl, SqL.of hb1, rfl, .inl ⟨rfl, _, SqL.of hg1⟩, g, _, 0, 0, .int z, rfl, rfl, hg1, by decide, by decide, ?_, rfl, ?_⟩
          · simp [seqIndex?]
          · refine ⟨.ref b, rfl, b, [.ref g, .int x, .ref m, .int (c + 1)], 1, 1, rfl, rfl, by rw [upd_ne bg]; exact hb1, rfl, rfl, z, r, upd_same, ?_, ?_, ?_⟩
            · rw [upd_ne bg.symm, upd_same]
              rfl
            · simp at gl
              omega
            · intro d o e n1 n2
              rw [upd_ne n1, upd_ne n2]
              exact kp1 d o e n1 n2
        · exact ⟨rfl, x, gs, hb1, hg1, gl, kp1⟩
      · exact ⟨rfl, x, gs, hb1, hg1, gl, kp1⟩
    · rintro σ H1 ⟨rfl, x1, gs1, hb1, hg1, gl1, kp1⟩
      have hm1 : H1 m = some (.lst (ms.map V.int)) := kp1 _ _ hm bm.symm gm.symm
      -- if box[1] > 0
      refine ⟨.ref b, rfl, b, _, 1, .int x1, rfl, rfl, SqL.of hb1, rfl, _, _, rfl, rfl, _, rfl, ite2 (fun _ => ?_) (fun _ => ?_)⟩
      · refine ⟨.ref b, rfl, b, _, 1, .int x1, rfl, rfl, SqL.of hb1, rfl, .int size, rfl, _, _, rfl, rfl, (by show 0 < size; omega), ?_⟩
        refine ⟨.ref b, rfl, b, _, 1, .int x1, rfl, rfl, SqL.of hb1, rfl, .int size, rfl, _, _, rfl, rfl, ⟨by omega, by omega⟩, .ref b, rfl, b, _, 1, 1, rfl, rfl, hb1, rfl, ?_⟩
        refine ⟨.int (x1 % size), rfl, q _ _ (Int.emod_nonneg _ (by omega)) (Int.emod_lt_of_pos _ (by omega)) ⟨⟨x1 / size, c + 1, gs1, ms, upd_same, ?_, ?_, by omega, by omega, gl1, mlen⟩, bg, bm, gm⟩ ?_⟩
        · rw [upd_ne bg.symm]
          exact hg1
        · rw [upd_ne bm.symm]
          exact hm1
        · intro d o e n1 n2
          rw [upd_ne n1]
          exact kp1 d o e n1 n2
      · -- the cell
        have mx0 : (0 : Int) < (if ((ms.map V.int).length : Int) > 1 then ((ms.map V.int).length : Int) else 1) := by
          split <;> omega
        refine ⟨.ref b, rfl, b, _, 2, .ref m, rfl, rfl, SqL.of hb1, rfl, .ref b, rfl, b, _, 3, .int (c + 1), rfl, rfl, SqL.of hb1, rfl, _, _, rfl, rfl, .inl ⟨by decide, by decide⟩, by show 1 ≤ sizeLine; decide, fun l1 nl1 => ?_⟩
        have ne1 : m ≠ l1 := ne_of_none hm1 nl1
        refine ⟨m, l1, ms.map V.int, [.int (7 * (c + 1))], rfl, rfl, by rw [upd_ne ne1]; exact hm1, upd_same, ?_, fun l2 nl2 => ?_⟩
        · rw [List.length_map]
          have : (63 : Nat) + 1 ≤ sizeLine := by decide
          show ms.length + 1 ≤ sizeLine
          omega
        have hb2 : upd (upd H1 l1 (.lst [.int (7 * (c + 1))])) l2 (.lst (ms.map V.int ++ [.int (7 * (c + 1))])) b = some (.lst [.ref g, .int x1, .ref m, .int (c + 1)]) := by
          rw [upd_ne (ne_of_none (by rw [upd_ne (ne_of_none hb1 nl1)]; exact hb1) nl2), upd_ne (ne_of_none hb1 nl1)]
          exact hb1
        have s2' : Same H1 (upd (upd H1 l1 (.lst [.int (7 * (c + 1))])) l2 (.lst (ms.map V.int ++ [.int (7 * (c + 1))]))) := (same_new nl1).trans (same_new nl2)
        have at2 : upd (upd H1 l1 (.lst [.int (7 * (c + 1))])) l2 (.lst (ms.map V.int ++ [.int (7 * (c + 1))])) l2 = some (.lst (ms.map V.int ++ [.int (7 * (c + 1))])) := upd_same
        generalize upd (upd H1 l1 (.lst [.int (7 * (c + 1))])) l2 (.lst (ms.map V.int ++ [.int (7 * (c + 1))])) = H2 at hb2 s2' at2
        have hm2 := s2' _ _ hm1
        have idx : ∃ z : Int, atI (ms.map V.int ++ [V.int (7 * (c + 1))]) ((c + 1) % (if ((ms.map V.int).length : Int) > 1 then ((ms.map V.int).length : Int) else 1)) = some (.int z) := by
          have e : ms.map V.int ++ [V.int (7 * (c + 1))] = (ms ++ [7 * (c + 1)]).map V.int := by rw [List.map_append]; rfl
          rw [e]
          refine int_at _ (Int.emod_nonneg _ (by omega)) ?_
          refine Int.lt_of_lt_of_le (Int.emod_lt_of_pos (c + 1) mx0) ?_
          rw [List.length_map, List.length_append, List.length_singleton]
          split <;> omega
        obtain ⟨z, idx⟩ := idx
        refine ⟨.ref b, rfl, b, _, 3, .int (c + 1), rfl, rfl, SqL.of hb2, rfl, .ref b, rfl, b, _, 2, .ref m, rfl, rfl, SqL.of hb2, rfl, m, _, rfl, .inl (SqL.of hm2), _, _, rfl, _, _, rfl, rfl, mx0, l2, _, _, .int z, rfl, rfl, SqL.of at2, idx, ?_⟩
        -- the loop
        refine while_by (fun σ H3 => H3 = H2 ∧ ∃ fo re : Int, σ = [some (.ref b), some (.int size), some (.int fo), some (.int z), some (.int re)] ∧ (re = 1 ∧ fo = 0 ∨ re = 1000000007))
          (fun (σ : L2.St) _ => match σ[4]? with | some (some (V.int r)) => if r = 1 then 1 else 0 | _ => 0) ⟨rfl, 0, 1, rfl, .inl ⟨rfl, rfl⟩⟩ ?_
          (fun σ H Q Q' hq ⟨v, e, v', e', i, j, e1, e2, b, eb, h⟩ => ⟨v, e, v', e', i, j, e1, e2, b, eb, hq _ _ h⟩)
        rintro σ H3 ⟨rfl, fo, re, rfl, hre⟩
        refine ⟨.int re, rfl, .int size, rfl, _, _, rfl, rfl, _, rfl, ite2 (fun e => ?_) (fun _ => ?_)⟩
        · have lt : re < size := of_decide_eq_true e
          obtain ⟨rfl, rfl⟩ : re = 1 ∧ fo = 0 := by
            rcases hre with h | h
            · exact h
            · omega
          refine ⟨.int 0, rfl, _, _, rfl, rfl, .inl ⟨by decide, by decide⟩, .int z, rfl, .ref b, rfl, b, _, 3, .int (c + 1), rfl, rfl, SqL.of hb2, rfl, .int 0, rfl, _, _, rfl, rfl, (by show (0 : Int) < 89; decide), _, _, rfl, rfl, .inl ⟨by decide, by decide⟩, _, _, rfl, rfl, z, _, rfl, ?_, ?_, fun v => ?_⟩
          · show 0 ≤ c + 1 + 1000 * (0 % 89)
            omega
          · show c + 1 + 1000 * (0 % 89) ≤ 10000000
            omega
          · refine ⟨_, _, rfl, rfl, .int 1, rfl, _, _, rfl, rfl, .inl ⟨by decide, by decide⟩, ⟨rfl, _, 1 * 1000000007, rfl, .inr rfl⟩, ?_⟩
            show (if (1 * 1000000007 : Int) = 1 then 1 else 0) < (if (1 : Int) = 1 then 1 else 0)
            decide
        · refine ⟨.int fo, rfl, .int size, rfl, _, _, rfl, rfl, (by show 0 < size; omega), q _ _ (Int.emod_nonneg _ (by omega)) (Int.emod_lt_of_pos _ (by omega)) ⟨⟨x1, c + 1, gs1, ms, hb2, s2' _ _ hg1, hm2, by omega, by omega, gl1, mlen⟩, bg, bm, gm⟩ ?_⟩
          exact kp1.trans (Same.keep s2')
end
end Moot
namespace Moot
open PySem PySem.Spec PyProof.Rows L2
/-! texts of one sign -/
def sg (c : Nat) : Str := ⟨#[c]⟩
theorem sg_inj {c d : Nat} (h : sg c = sg d) : c = d := by
  have := congrArg (fun s : Str => s.cps.toList) h
  simpa [sg] using this
theorem glue_one : ∀ (cs : List Nat) (acc : Array Nat), (cs.map sg).foldl (fun a p => a ++ Str.empty.cps ++ p.cps) acc = acc ++ cs.toArray
  | [], acc => by simp
  | c :: cs, acc => by
    rw [List.map_cons, List.foldl_cons, glue_one cs]
    simp [Str.empty, sg]
theorem join_signs (cs : List Nat) : Txt.join Str.empty (cs.map sg) = ⟨cs.toArray⟩ := by
  unfold Txt.join Builtin.Str.glued
  cases cs with
  | nil => rfl
  | cons c cs =>
    show (⟨(cs.map sg).foldl _ (sg c).cps⟩ : Str) = _
    rw [glue_one]
    simp [sg]
/-- a name: one to eight letters -/
structure Nm (x : Str) : Prop where
  lo : 1 ≤ x.cps.size
  hi : x.cps.size ≤ 8
  low : ∀ c ∈ x.cps.toList, 97 ≤ c ∧ c ≤ 122
theorem Nm.ok {x : Str} (h : Nm x) : PyData.strOk x = true := by
  unfold PyData.strOk
  rw [Array.all_eq_true]
  intro i hi
  have := h.low x.cps[i] (by simp)
  simp
  omega
abbrev abc : Str := "abcdefghijklmnopqrstuvwxyz"
theorem abc_list : abc.cps.toList = (List.range 26).map (· + 97) := by decide +kernel
theorem abc_size : abc.cps.size = 26 := by decide +kernel
theorem abc_at {i : Nat} (h : i < 26) : abc.cps.toList[i]? = some (i + 97) := by
  rw [abc_list, List.getElem?_map, List.getElem?_range h]
  rfl
theorem sg_nm {c : Nat} (h : c < 26) : Nm (sg (c + 97)) := ⟨by simp [sg], by simp [sg], fun d m => by
  have : d = c + 97 := by simpa [sg] using m
  omega⟩
theorem nm_of {cs : List Nat} (h1 : 1 ≤ cs.length) (h2 : cs.length ≤ 8) (h : ∀ c ∈ cs, 97 ≤ c ∧ c ≤ 122) : Nm ⟨cs.toArray⟩ := ⟨by simpa using h1, by simpa using h2, fun c m => h c (by simpa using m)⟩
theorem inV_str (z : Str) (xs : List Str) : inV (.str z) (xs.map V.str) = decide (z ∈ xs) := by
  unfold inV
  rw [List.any_map]
  rw [Bool.eq_iff_iff, List.any_eq_true, decide_eq_true_eq]
  constructor
  · rintro ⟨y, m, e⟩
    have : y = z := by simpa [eqV] using e
    exact this ▸ m
  · intro m
    exact ⟨z, m, by simp [eqV]⟩
theorem flats (xs : List Str) : (xs.map V.str).all flatV = true := by
  rw [List.all_map]
  exact List.all_eq_true.mpr fun _ _ => rfl
/-- some letter is not among fewer than 26 names -/
theorem letter_left (xs : List Str) (h : xs.length < 26) : ∃ c, c < 26 ∧ sg (c + 97) ∉ xs := by
  rcases Classical.em (∃ c, c < 26 ∧ sg (c + 97) ∉ xs) with h' | h'
  · exact h'
  · exfalso
    have all : ∀ y ∈ (List.range 26).map (fun c => sg (c + 97)), y ∈ xs := fun y m => by
      obtain ⟨c, hc, rfl⟩ := List.mem_map.mp m
      rcases Classical.em (sg (c + 97) ∈ xs) with k | k
      · exact k
      · exact absurd ⟨c, List.mem_range.mp hc, k⟩ h'
    have nd : ((List.range 26).map (fun c => sg (c + 97))).Nodup := by
      refine List.Pairwise.map _ (fun a b n e => n ?_) (List.nodup_range (n := 26))
      have := sg_inj e
      omega
    have : ∀ (l D : List Str), l.Nodup → (∀ y ∈ l, y ∈ D) → l.length ≤ D.length := by
      intro l
      induction l with
      | nil => intros; exact Nat.zero_le _
      | cons y l ih =>
        intro D n s
        obtain ⟨n1, n2⟩ := List.nodup_cons.mp n
        have my := s y List.mem_cons_self
        have := ih (D.erase y) n2 fun z mz => (List.mem_erase_of_ne fun (e : z = y) => n1 (e ▸ mz)).mpr (s z (List.mem_cons_of_mem _ mz))
        have e := List.length_erase_of_mem my
        have := List.length_pos_of_mem my
        rw [List.length_cons]
        omega
    have := this _ xs nd all
    rw [List.length_map, List.length_range] at this
    omega
theorem Box.ne {H : Hp} {b g m p : Addr} {n : Nat} (B : Box H b g m n) (h : H p = none) : p ≠ b ∧ p ≠ g ∧ p ≠ m := by
  obtain ⟨o1, h1⟩ := B.b_in
  obtain ⟨o2, h2⟩ := B.g_in
  obtain ⟨o3, h3⟩ := B.m_in
  exact ⟨(ne_of_none h1 h).symm, (ne_of_none h2 h).symm, (ne_of_none h3 h).symm⟩
theorem Keep.free {b g p : Addr} {H H' : Hp} (k : Keep b g H H') (p1 : p ≠ b) (p2 : p ≠ g) (h : H' p = none) : H p = none := by
  cases e : H p with
  | none => rfl
  | some o =>
    rw [k p o e p1 p2] at h
    cases h
theorem one_two_eight {v : Int} (h0 : 0 ≤ v) (h1 : v < 3) : ∃ s : Int, atI [V.int 1, V.int 2, V.int 8] v = some (.int s) ∧ 1 ≤ s ∧ s ≤ 8 := by
  have c : v = 0 ∨ v = 1 ∨ v = 2 := by omega
  rcases c with rfl | rfl | rfl
  · exact ⟨1, rfl, by decide, by decide⟩
  · exact ⟨2, rfl, by decide, by decide⟩
  · exact ⟨8, rfl, by decide, by decide⟩
theorem erase_map {α β : Type} (f : α → β) : ∀ (l : List α) (k : Nat), (l.map f).eraseIdx k = (l.eraseIdx k).map f
  | [], _ => rfl
  | _ :: _, 0 => rfl
  | x :: l, k + 1 => by
    show f x :: (l.map f).eraseIdx k = f x :: (l.eraseIdx k).map f
    rw [erase_map f l k]
theorem seq_at {n : Nat} {v : Int} (h0 : 0 ≤ v) (h1 : v < n) : seqIndex? v n = some v.toNat := by
  have e : ixN n v = some v.toNat := by
    unfold ixN
    rw [if_pos h0, if_pos (by omega)]
  exact (ixN_seq e).1
section
variable {P : Program} {w : World} {K : PySem.W.Frag} {mg : Str → Option Value} {base : Heap}
/-! _law_names -/
abbrev sNames : Stmt := top 15
abbrev nNames : List Str := ["_law_box_here", "_law_many", "_law_letters", "_law_found", "_law_k", "_law_size", "_law_name", "_law_j", "_law_one"]
theorem scNames : FnScope nNames ["_law_box_here", "_law_many"] (defScope sNames) := ⟨rfl, rfl, rfl, by decide +kernel, rfl, by decide +kernel, by decide +kernel⟩
/-- that many names, none twice -/
def spNames : Sp := fun vs H Q _ => ∃ (b g m : Addr) (n : Nat) (many : Nat), vs = [.ref b, .int many] ∧ Box H b g m n ∧ n ≤ 900000 ∧ many ≤ 8 ∧
  ∀ (p : Addr) (xs : List Str) (H' : Hp), H p = none → H' p = some (.lst (xs.map V.str)) → xs.length = many → xs.Nodup → (∀ x ∈ xs, Nm x) → Box H' b g m (n + 100) → Keep b g H H' → Q (.ref p) H'
theorem ok_names {f fT : Addr} {fd fdT : FuncData} {k : Nat} (F : Fun K "_law_names" "_law_names" sNames f fd) (FT : Fun K "_law_take" "_law_take" sTake fT fdT) (bT : Binds K fdT ["_law_box_here", "_law_size"] []) (gT : mg "_law_take" = some (.ref fT))
    (GT : FnOk P w K mg base CX0 k fT fdT ["_law_box_here", "_law_size"] spTake) (mr : mg "range" = none) : FnOk P w K mg base CX0 (k + 1) f fd ["_law_box_here", "_law_many"] spNames := by
  refine F.ok scNames (fun vs H Q E h => ?_) (fun cdv A outer s H vs Q E hr h => ?_)
  · obtain ⟨b, g, m, n, many, rfl, _⟩ := h
    rfl
  · obtain ⟨b, g, m, n, many, rfl, B, hn, hmany, q⟩ := h
    refine ⟨_, pss_cons (ps_set (i := 2) scNames.nd rfl (Or.inr rfl) pe_str)
      (pss_cons (ps_set (i := 3) scNames.nd rfl (Or.inr rfl) (pe_lst pa_nil))
      (pss_cons (ps_for PassesOwn.never rfl (pi_range1 rfl mr (pa_cons (pv 1) pa_nil)) (pg_name (i := 4) scNames.nd rfl (Or.inl rfl))
        (pss_cons (ps_set (i := 5) scNames.nd rfl (Or.inl rfl) (pe_op op_add pe_int (pe_call GT hr (by rfl) gT FT.kp bT .nil pass0 (pa_cons (pv 0) (pa_cons (pe_ix ix_list (pe_lst (pa_cons pe_int (pa_cons pe_int (pa_cons pe_int pa_nil)))) (pe_call GT hr (by rfl) gT FT.kp bT .nil pass0 (pa_cons (pv 0) (pa_cons pe_int pa_nil))) (fun _ _ => rfl)) pa_nil)))))
        (pss_cons (ps_set (i := 6) scNames.nd rfl (Or.inl rfl) (pe_join pe_str (pe_lc (own := [("_law_j", 7)]) (g := gName 7) (tt := tYes) (by rfl) scNames.nd (pi_range1 rfl mr (pa_cons (pv 5) pa_nil)) (blkOk_by (N := nNames) (sc := defScope sNames) (by decide +kernel))
            (fun _ _ _ _ _ => pg_name (i := 7) scNames.nd rfl (Or.inl rfl)) (fun _ _ _ _ _ => pts_nil) (fun _ _ _ _ _ => pe_ix ix_str (pv 2) (pe_call GT hr (by rfl) gT FT.kp bT .nil pass0 (pa_cons (pv 0) (pa_cons pe_int pa_nil))) (fun _ _ => rfl)))))
        (pss_one (ps_expr (pe_bm PySem.F.plainAttrs_list PySem.F.slot_list_append PySem.F.type_list_append mt_append (pv 3) (pa_cons (pe_ifExp (pt_cmpR op_notIn_seq (pv 6) (pv 3) (by rfl)) (pv 6)
            (pe_ix ix_list (pe_lc (own := [("_law_one", 8)]) (g := gName 8) (by rfl) scNames.nd (pi_str (pv 2)) (blkOk_by (N := nNames) (sc := defScope sNames) (by decide +kernel))
              (fun _ _ _ _ _ => pg_name (i := 8) scNames.nd rfl (Or.inl rfl)) (fun _ _ _ _ _ => pts_one (pt_cmpR (show OpR _ (compareOp .NotIn) (rIn K true) from op_notIn_seq) (pv 8) (pv 3) (by rfl))) (fun _ _ _ _ _ => pv 8)) pe_int (fun _ _ => rfl))) pa_nil)))))))
      (pss_one (ps_ret (pv 3))))), ?_⟩
    -- letters, found
    refine ⟨Nat.zero_le _, fun p np => ?_⟩
    obtain ⟨pb, pg, pm⟩ := B.ne np
    refine ⟨.int many, rfl, many, rfl, by omega, by omega, for_range (lo := 0) (n := (many : Int).toNat) (fun i σ H1 => ∃ (xs : List Str) (y4 y5 y6 y7 y8 : Option V), σ = [some (.ref b), some (.int many), some (.str abc), some (.ref p), y4, y5, y6, y7, y8] ∧
      Box H1 b g m (n + 12 * i) ∧ Keep b g H H1 ∧ H1 p = some (.lst (xs.map V.str)) ∧ xs.length = i ∧ xs.Nodup ∧ ∀ x ∈ xs, Nm x) ?_ ?_ ?_⟩
    · exact ⟨[], none, none, none, none, none, rfl, B.store pb pg pm, Same.keep (same_new np), upd_same, rfl, List.nodup_nil, fun x m => by simp at m⟩
    · rintro i σ H1 hi ⟨xs, y4, y5, y6, y7, y8, rfl, B1, K1, h1, len, nd, nm⟩
      have hi8 : i < 8 := by omega
      -- the size
      refine ⟨.ref b, rfl, by show 3 ≤ sizeLine; decide, fun l1 nl1 => ?_⟩
      have B1' := B1.same (same_new (o := .lst [.int 1, .int 2, .int 8]) nl1)
      obtain ⟨lb, lg, lm⟩ := B1.ne nl1
      refine ⟨.ref b, rfl, b, g, m, _, 3, rfl, B1', by omega, by decide, by decide, fun v1 H2 v0 v3 B2 K2 => ?_⟩
      have hl2 : H2 l1 = some (.lst [.int 1, .int 2, .int 8]) := K2 _ _ upd_same lb lg
      obtain ⟨sz, at1, sz1, sz8⟩ := one_two_eight v0 v3
      refine ⟨l1, _, v1, .int sz, rfl, rfl, SqL.of hl2, at1, b, g, m, _, sz, rfl, B2, by omega, sz1, by omega, fun v2 H3 v20 v2s B3 K3 => ?_⟩
      have K13 : Keep b g H1 H3 := ((Same.keep (same_new nl1)).trans K2).trans K3
      refine ⟨_, _, rfl, rfl, ?_⟩
      -- the name
      refine ⟨⟨_, rfl⟩, .int (1 + v2), rfl, 1 + v2, rfl, by omega, by omega, fun D nD => ?_⟩
      obtain ⟨Db, Dg, Dm⟩ := B3.ne nD
      have abcAt : ∀ v : Int, 0 ≤ v → v < 26 → atI abc.cps.toList v = some (v.toNat + 97) := fun v a0 a1 => by
        obtain ⟨j, rfl⟩ := Int.eq_ofNat_of_zero_le a0
        exact atI_nat (abc_at (by omega))
      refine lc_range (lo := 0) (n := (1 + v2).toNat) (fun j H4 => Box H4 b g m (n + 12 * i + 2 + j) ∧ Keep b g H3 H4 ∧ ∃ cs : List Nat, H4 D = some (.lst ((cs.map sg).map V.str)) ∧ cs.length = j ∧ ∀ c ∈ cs, 97 ≤ c ∧ c ≤ 122) ?_ ?_ ?_
      · exact ⟨B3.store Db Dg Dm, Same.keep (same_new nD), [], upd_same, rfl, fun c m => by simp at m⟩
      · rintro j H4 hj ⟨B4, K4, cs, hD, lcs, low⟩
        refine ⟨rfl, .str abc, rfl, .ref b, rfl, b, g, m, _, 26, rfl, B4, by omega, by decide, by decide, fun v H5 a0 a1 B5 K5 => ?_⟩
        refine ⟨abc, v, v.toNat + 97, rfl, rfl, by show abc.cps.size ≤ sizeLine; rw [abc_size]; decide, abcAt v a0 a1, _, K5 _ _ hD Db Dg, ?_, ?_⟩
        · rw [List.length_map, List.length_map]
          exact small1000 (by omega)
        · refine ⟨(B5.store Db Dg Dm).more (by omega), fun d o e n1 n2 => ?_, cs ++ [v.toNat + 97], ?_, ?_, ?_⟩
          · rw [upd_ne (ne_of_none e nD)]
            exact K5 _ _ (K4 _ _ e n1 n2) n1 n2
          · rw [upd_same, List.map_append, List.map_append]
            rfl
          · rw [List.length_append, lcs]
            rfl
          · intro c mc
            rcases List.mem_append.mp mc with mc | mc
            · exact low c mc
            · have := List.mem_singleton.mp mc
              omega
      · rintro H4 ⟨B4, K4, cs, hD, lcs, low⟩
        have K14 : Keep b g H1 H4 := K13.trans K4
        have hp4 : H4 p = some (.lst (xs.map V.str)) := K14 _ _ h1 pb pg
        have lc8 : cs.length ≤ 8 := by omega
        have lc1 : 1 ≤ cs.length := by omega
        refine ⟨Str.empty, D, cs.map sg, rfl, rfl, .inl (SqL.of hD), ?_, ?_⟩
        · have : ((cs.map sg).map (·.length)).sum = cs.length := by
            clear lcs low hD lc8 lc1
            induction cs with
            | nil => rfl
            | cons c cs ih =>
              rw [List.map_cons, List.map_cons, List.sum_cons, ih, List.length_cons]
              show 1 + cs.length = _
              omega
          rw [this]
          show cs.length + _ * 0 ≤ _
          omega
        rw [join_signs]
        have nmN : Nm ⟨cs.toArray⟩ := nm_of lc1 lc8 low
        generalize (⟨cs.toArray⟩ : Str) = name at nmN ⊢
        refine ⟨.ref p, rfl, .inl ⟨rfl, _, SqL.of hp4⟩, .str name, rfl, .ref p, rfl, p, _, rfl, .inl (SqL.of hp4), rfl, flats xs, _, rfl, ?_⟩
        have put : ∀ (z : Str) (H5 : Hp), Nm z → z ∉ xs → Same H4 H5 → Box (upd H5 p (.lst (xs.map V.str ++ [.str z]))) b g m (n + 12 * (i + 1)) ∧ Keep b g H (upd H5 p (.lst (xs.map V.str ++ [.str z]))) ∧
            upd H5 p (.lst (xs.map V.str ++ [.str z])) p = some (.lst ((xs ++ [z]).map V.str)) ∧ (xs ++ [z]).length = i + 1 ∧ (xs ++ [z]).Nodup ∧ ∀ x ∈ xs ++ [z], Nm x := fun z H5 nz out s5 => by
          refine ⟨((B4.same s5).store pb pg pm).more (by omega), ?_, ?_, ?_, ?_, ?_⟩
          · intro d o e n1 n2
            rw [upd_ne (ne_of_none e np)]
            exact s5 _ _ (K14 _ _ (K1 _ _ e n1 n2) n1 n2)
          · rw [upd_same, List.map_append]
            rfl
          · rw [List.length_append, len]
            rfl
          · exact List.nodup_append.mpr ⟨nd, List.nodup_cons.mpr ⟨by simp, List.nodup_nil⟩, fun a ma c mc e => out (by rw [← List.mem_singleton.mp mc, ← e]; exact ma)⟩
          · intro x mx
            rcases List.mem_append.mp mx with mx | mx
            · exact nm x mx
            · rw [List.mem_singleton.mp mx]
              exact nz
        have room : (xs.map V.str).length < sizeLine := by
          rw [List.length_map, len]
          exact small1000 (by omega)
        rw [inV_str]
        by_cases inn : name ∈ xs
        · rw [decide_eq_true inn]
          refine iteF ?_
          refine ⟨.str abc, rfl, abc, rfl, fun D2 nD2 => ?_⟩
          refine lc_it walk_str (fun j H5 => Same H4 H5 ∧ H5 D2 = some (.lst (((((List.range 26).take j).filter fun c => decide (sg (c + 97) ∉ xs)).map fun c => sg (c + 97)).map V.str))) ?_ (fun _ _ _ _ => trivial) ?_ ?_
          · exact ⟨same_new nD2, upd_same⟩
          · rintro j x H5 H6 hj ⟨s5, hD2⟩ ⟨rfl, c, hc, rfl⟩
            have hj26 : j < 26 := by
              rw [abc_size] at hj
              exact hj
            have ec : c = j + 97 := by
              have := abc_at hj26
              rw [Array.getElem?_toList] at this
              exact Option.some.inj (hc.symm.trans this)
            subst ec
            have hp5 := s5 _ _ hp4
            have tk : (List.range 26).take (j + 1) = (List.range 26).take j ++ [j] := by
              rw [List.take_add_one, List.getElem?_range hj26]
              rfl
            refine ⟨rfl, .str (sg (j + 97)), rfl, .ref p, rfl, p, _, rfl, .inl (SqL.of hp5), rfl, flats xs, _, rfl, ?_⟩
            rw [inV_str]
            by_cases isIn : sg (j + 97) ∈ xs
            · rw [decide_eq_true isIn]
              refine iteF ⟨s5, ?_⟩
              rw [hD2, tk, List.filter_append]
              simp [isIn]
            · rw [decide_eq_false isIn]
              refine iteT ⟨.str (sg (j + 97)), rfl, _, hD2, ?_, fun d o e => ?_, ?_⟩
              · rw [List.length_map, List.length_map]
                refine small1000 (Nat.le_trans (List.length_filter_le _ _) ?_)
                rw [List.length_take]
                omega
              · rw [upd_ne (ne_of_none e nD2)]
                exact s5 d o e
              · rw [upd_same, tk, List.filter_append]
                simp [isIn]
          · rintro H5 ⟨s5, hD2⟩
            obtain ⟨c, hc, out⟩ := letter_left xs (by omega)
            have e26 : (List.range 26).take abc.cps.size = List.range 26 := by
              rw [abc_size]
              rfl
            rw [e26] at hD2
            have mem : c ∈ (List.range 26).filter fun c => decide (sg (c + 97) ∉ xs) := List.mem_filter.mpr ⟨List.mem_range.mpr hc, decide_eq_true out⟩
            obtain ⟨d, r, er⟩ : ∃ d r, ((List.range 26).filter fun c => decide (sg (c + 97) ∉ xs)) = d :: r := by
              cases h : ((List.range 26).filter fun c => decide (sg (c + 97) ∉ xs)) with
              | nil => rw [h] at mem; simp at mem
              | cons d r => exact ⟨d, r, rfl⟩
            have hd : d < 26 ∧ sg (d + 97) ∉ xs := by
              have : d ∈ (List.range 26).filter fun c => decide (sg (c + 97) ∉ xs) := by rw [er]; exact List.mem_cons_self
              obtain ⟨m1, m2⟩ := List.mem_filter.mp this
              exact ⟨List.mem_range.mp m1, of_decide_eq_true m2⟩
            rw [er] at hD2
            exact ⟨D2, _, 0, .str (sg (d + 97)), rfl, rfl, SqL.of hD2, atI_nat (j := 0) rfl, p, _, _, rfl, rfl, s5 _ _ hp4, room, xs ++ [sg (d + 97)], _, _, _, _, _, rfl, put _ H5 (sg_nm hd.1) hd.2 s5⟩
        · rw [decide_eq_false inn]
          refine iteT ?_
          exact ⟨.str name, rfl, p, _, _, rfl, rfl, hp4, room, xs ++ [name], _, _, _, _, _, rfl, put name H4 nmN inn (Same.refl _)⟩
    · rintro σ H1 ⟨xs, y4, y5, y6, y7, y8, rfl, B1, K1, h1, len, nd, nm⟩
      exact ⟨.ref p, rfl, q p xs H1 np h1 (by omega) nd nm (B1.more (by omega)) K1⟩
/-- len by a reading over K alone -/
abbrev rLen (K : PySem.W.Frag) : List V → Hp → VK → Prop := fun xs H Q => ∃ p ys, xs = [.ref p] ∧ (SqL K H p ys ∨ SqT K H p ys) ∧ Q (.int ys.length) H
end
end Moot
/-! some rules more: reversed tuples, truth values among numbers, x in a tuple of data -/
namespace Moot
open PySem PySem.Spec PyProof.Rows L2
section
variable {prog : Program} {w : World} {A : Around} {E : Value → Shared → Prop} {s : Shared}
theorem sadj_rev (n : Nat) : Builtin.Slice.sliceAdjust none none (-1) (n : Int) = ((n : Int) - 1, -1) := by
  unfold Builtin.Slice.sliceAdjust
  simp
theorem spl_rev (n : Nat) : Builtin.Slice.slicePlaces ((n : Int) - 1) (-1) (-1) = n := by
  unfold Builtin.Slice.slicePlaces
  simp
  omega
theorem fm_some {α β : Type} (f : α → Option β) (g : α → β) : ∀ l : List α, (∀ x ∈ l, f x = some (g x)) → l.filterMap f = l.map g
  | [], _ => rfl
  | x :: l, h => by
    rw [List.filterMap_cons, h x List.mem_cons_self, List.map_cons]
    show g x :: _ = _
    rw [fm_some f g l fun y m => h y (List.mem_cons_of_mem _ m)]
theorem spick_rev (xs : Array Value) : ((List.range xs.size).filterMap fun (k : Nat) => xs[(((xs.size : Int) - 1) + (k : Int) * -1).toNat]?).toArray = xs.toList.reverse.toArray := by
  have key : ((List.range xs.size).filterMap fun (k : Nat) => xs[(((xs.size : Int) - 1) + (k : Int) * -1).toNat]?) = xs.toList.reverse := by
    rw [fm_some _ (fun k => xs.toList.reverse.getD k default) _ fun k hk => ?_]
    · apply List.ext_getElem?
      intro i
      rw [List.getElem?_map]
      by_cases hi : i < xs.size
      · rw [List.getElem?_range hi]
        show some (xs.toList.reverse.getD i default) = _
        rw [List.getD_eq_getElem?_getD, List.getElem?_eq_getElem (by simpa using hi)]
        rfl
      · rw [List.getElem?_eq_none (by simpa using hi), List.getElem?_eq_none (by simpa using hi)]
        rfl
    · have lt := List.mem_range.mp hk
      have e : (((xs.size : Int) - 1) + (k : Int) * -1).toNat = xs.size - 1 - k := by omega
      show xs[(((xs.size : Int) - 1) + (k : Int) * -1).toNat]? = _
      rw [e, List.getD_eq_getElem?_getD, List.getElem?_reverse (by simpa using lt), Array.length_toList, Array.getElem?_toList, Array.getElem?_eq_getElem (by omega)]
      rfl
  rw [key]
theorem rev_of_tuple {t sl : Addr} {items : Array Value} {vs : Value} {Q : Value → Shared → Prop} (ht : IsTup s.heap t items) (hs : s.heap.IsSliceOf sl .none .none vs) (ps : IsPart vs (some (-1)))
    (h : Q (.ref s.heap.objs.size) { s with heap := s.heap.push { cls := .type "tuple", data := .seq items.toList.reverse.toArray } }) (hz : items.size ≤ sizeLine) : wpAny (model prog w) A (getItem (.ref t) (.ref sl)) Q E s := by
  obtain ⟨os, hos, hcs, hds⟩ := id hs
  have sT : s.TypeIs (.ref sl) "slice" := ⟨os, hos, hcs⟩
  have ok : sizeOk (.seq items.toList.reverse.toArray) := by
    show items.toList.reverse.toArray.size ≤ sizeLine
    simpa using hz
  unfold getItem
  try with_reducible refine wpAny_holding ?_
  first | refine wpAny_bind (wpAny_pure ?_) | skip
  refine wpAny_bind (wpAny_sequenceKey ht.typeIs (by decide) (wpAny_bind (wpAny_callSpecial?_slot (name := Str.ofString "__getitem__") ht.typeIs PyProof.Rows.slot_tuple_getitem
    (wpAny_call_entry PyProof.Rows.slot_tuple_getitem ht.typeIs entry_tuple_getitem ?_ (args_tuple_getitem _ _)))))
  show wpAny _ _ (Builtin.Tuple.tupleItemsOf (.ref t) >>= _) _ _ s
  refine wpAny_bind (tupleItemsOf_ ht (wpAny_bind (wpAny_typeOf sT ?_)))
  rw [if_pos (by decide)]
  have sa : ∀ {A : Around} {E : Value → Shared → Prop} {Q1 : Int × Int × Nat → Shared → Prop}, Q1 ((items.size : Int) - 1, -1, items.size) s → wpAny (model prog w) A (Builtin.Slice.sliceApplied (.ref sl) (pure (items.size : Int))) Q1 E s := fun q => by
    unfold Builtin.Slice.sliceApplied Builtin.Slice.sliceFields
    refine wpAny_bind (wpAny_bind (wpAny_field hos hds (x := .none) rfl (wpAny_bind (wpAny_field hos hds (x := .none) rfl (wpAny_bind (wpAny_field hos hds (x := vs) rfl (wpAny_pure ?_)))))))
    refine wpAny_bind (HT.slicePart_ ps ?_)
    show wpAny _ _ (if ((-1 : Int) == 0) = true then _ else _) _ _ s
    rw [if_neg (by decide)]
    refine wpAny_bind (HT.slicePart_ .none (wpAny_bind (HT.slicePart_ .none (wpAny_bind (wpAny_pure ?_)))))
    show wpAny _ _ (match Builtin.Slice.sliceAdjust none none (-1) (items.size : Int) with | (lo, hi) => pure (lo, (-1 : Int), Builtin.Slice.slicePlaces lo hi (-1))) _ _ s
    rw [sadj_rev]
    show wpAny _ _ (pure ((items.size : Int) - 1, (-1 : Int), Builtin.Slice.slicePlaces ((items.size : Int) - 1) (-1) (-1))) _ _ s
    rw [spl_rev]
    exact wpAny_pure q
  refine wpAny_bind (sa ?_)
  show wpAny _ _ (if ((items.size : Int) - 1 == 0 && (-1 : Int) == 1 && items.size == items.size) = true then _ else _) _ _ s
  rw [if_neg (by simp), spick_rev]
  first
    | exact wpAny_bind (m := Builtin.Tuple.tupleExact _) (wpAny_newObj_type (wpAny_pure ⟨_, rfl, wpAny_pure h⟩) ok)
    | exact wpAny_bind (m := Builtin.Tuple.tupleExact _) (wpAny_newObj_type (wpAny_bind (wpAny_pure (wpAny_pure ⟨_, rfl, wpAny_pure h⟩))) ok)
    | exact wpAny_bind (wpAny_bind (m := Builtin.Tuple.tupleExact _) (wpAny_newObj_type (wpAny_pure (wpAny_pure ⟨_, rfl, wpAny_pure h⟩)) ok))
    | exact wpAny_bind (wpAny_bind (m := Builtin.Tuple.tupleExact _) (wpAny_newObj_type (wpAny_pure ⟨_, rfl, wpAny_pure h⟩) ok))
end
section
variable {X : Cx}
/-- t[::-1] -/
def tRevT (K : PySem.W.Frag) (te : TE) : TE := fun σ H Q => te σ H fun x H1 => ∃ a xs, x = .ref a ∧ SqT K H1 a xs ∧ ∀ p, H1 p = none → Q (.ref p) (upd H1 p (.tup xs.reverse))
theorem pe_revT {e : Expr} {te : TE} {k : Nat} {p1 p2 p3 pos : Pos} (he : PE X e te) : PE X (.Subscript e (.Slice none none (some (.UnaryOp .USub (.Constant (.int 1) k p1) p2)) p3) pos) (tRevT X.K te) := by
  refine ⟨fun pins s σ H Q I h => Subscript_ (thn (he.run pins s σ H _ I h) fun v s1 z => ?_)⟩
  obtain ⟨x, H1, I1, r1, a, xs, rfl, hx, q⟩ := z
  cases r1
  have one : PO X (some (.UnaryOp .USub (.Constant (.int 1) k p1) p2)) _ := po_some (pe_un un_neg pe_int)
  refine wpAny_Slice (thn (po_none.run pins s1 σ H1 (fun o H2 => o = none ∧ H2 = H1) I1 ⟨rfl, rfl⟩) fun vl s2 z => ?_)
  obtain ⟨l, H2, I2, pl, rfl, rfl⟩ := z
  refine thn (po_none.run pins s2 σ _ (fun o H3 => o = none ∧ H3 = H2) I2 ⟨rfl, rfl⟩) fun vu s3 z => ?_
  obtain ⟨u, H3, I3, pu, rfl, rfl⟩ := z
  refine thn (one.run pins s3 σ _ (fun o H4 => o = some (-1) ∧ H4 = H3) I3 ⟨1, rfl, -1, rfl, rfl, rfl⟩) fun vs s4 z => ?_
  obtain ⟨o, H4, I4, ps, rfl, rfl⟩ := z
  cases pl
  cases pu
  have I5 : Inv X pins σ H4 { s4 with heap := s4.heap.push { cls := .type "slice", data := .fields #[.none, .none, vs] } } := I4.kept (t' := s4.toks) fun b ob q => Heap.get?_push_of_some _ q
  obtain ⟨its, r, ht, hz⟩ := I5.tuple hx
  have len := r.length
  show wpAny (model X.prog X.w) X.A (subscriptTail e (.Slice none none (some (.UnaryOp .USub (.Constant (.int 1) k p1) p2)) p3) (.ref a) (.ref s4.heap.objs.size)) (EP X pins σ Q) X.xe { s4 with heap := s4.heap.push { cls := .type "slice", data := .fields #[.none, .none, vs] } }
  refine tail_any (ops := [.ref a, .ref s4.heap.objs.size]) ht.typeIs (PyProof.Rows.slot_tuple_getitem.lookup) ?_ (by with_unfolding_all rfl)
  refine rev_of_tuple ht (Heap.IsSliceOf.new _ .none .none vs) ps ?_ (by rw [List.size_toArray]; omega)
  refine ⟨.ref _, _, I5.laid (t' := s4.toks) (o := .tup xs.reverse) (fun b ob q => Heap.get?_push_of_some _ q) (Nat.le_refl _) ?_, rfl, q _ (I5.hok.fresh (Nat.le_refl _))⟩
  exact ⟨by rw [List.length_reverse]; exact hz, its.reverse, r.reverse, ⟨_, Heap.get?_push_size _ rfl, rfl, 0, rfl⟩⟩
/-- True + n, n - True -/
theorem op_add_bi : OpR X (binaryOp .Add) (fun x y H Q => ∃ k j, x = .bl k ∧ y = .int j ∧ Q (.int (b2i k + j)) H) := by
  intro pins s σ H x y v u Q I rx ry h
  obtain ⟨k, j, rfl, rfl, q⟩ := h
  obtain ⟨t, rfl⟩ := ry
  cases rx
  exact PySem.IntBool.add_bool_int ⟨.int (b2i k + j), H, I.tok _, ⟨_, rfl⟩, q⟩
theorem op_sub_ib : OpR X (binaryOp .Sub) (fun x y H Q => ∃ j k, x = .int j ∧ y = .bl k ∧ Q (.int (j - b2i k)) H) := by
  intro pins s σ H x y v u Q I rx ry h
  obtain ⟨j, k, rfl, rfl, q⟩ := h
  obtain ⟨t, rfl⟩ := rx
  cases ry
  exact PySem.IntBool.sub_int_bool ⟨.int (j - b2i k), H, I.tok _, ⟨_, rfl⟩, q⟩
/-- str(True) -/
theorem call_str_bl : CallR X (.type "str") (fun xs H Q => ∃ k, xs = [.bl k] ∧ Q (.str (if k then "True" else "False")) H) := by
  intro pins s σ H xs us Q I r h
  obtain ⟨k, rfl, q⟩ := h
  obtain ⟨u, rfl, ru⟩ := vals1 r
  cases ru
  exact PySem.P.str_of_bool ⟨.str _, H, I.tok _, ⟨_, rfl⟩, q⟩
/-- x in t, t a tuple of data -/
def rInT (K : PySem.W.Frag) : R2 := fun x y H Q => ∃ d ds, Dp K H x d ∧ Dp K H y (.tuple ds) ∧ SeqAt.shaped d = true ∧ SeqAt.shaped (.tuple ds) = true ∧ Q (.bl (ds.any fun z => PyData.eqv z d)) H
theorem op_inT (hu : X.A.units + 65 < cLine) : OpR X (compareOp .In) (rInT X.K) := by
  intro pins s σ H x y v u Q I rx ry h
  obtain ⟨d, ds, hd, he, sd, se, q⟩ := h
  obtain ⟨as, r1⟩ := Dp.reads I d x v hd rx
  obtain ⟨bs, r2⟩ := Dp.reads I (.tuple ds) y u he ry
  exact SeqAt.in_tuple_reads r2 r1 (SeqAt.canLay_of_shaped se) (SeqAt.canLay_of_shaped sd) (room_in_shaped sd hu) ⟨.bl _, H, I, rfl, q⟩
/-- 'x' * 8 -/
theorem op_rep8 : OpR X (binaryOp .Mult) (fun x y H Q => x = .str "x" ∧ y = .int 8 ∧ Q (.str "xxxxxxxx") H) := by
  intro pins s σ H x y v u Q I rx ry h
  obtain ⟨rfl, rfl, q⟩ := h
  obtain ⟨t, rfl⟩ := rx
  obtain ⟨t', rfl⟩ := ry
  refine PySem.P.mul_str (by decide) (fun _ _ => by decide +kernel) (fun _ _ => by decide +kernel) ?_
  rw [if_neg (by decide), if_neg (by decide +kernel)]
  exact ⟨by decide +kernel, .str "xxxxxxxx", H, I.tok _, ⟨_, by rfl⟩, q⟩
end
end Moot
namespace Moot
open PySem PySem.Spec PyProof.Rows L2
/-! data of any kind, away from the box -/
mutual
def Dv (b g : Addr) (H : Hp) : PyData → V → Prop
  | .none, v => v = .non
  | .bool x, v => v = .bl x
  | .int i, v => v = .int i
  | .str x, v => v = .str x
  | .list ds, v => ∃ a xs, v = .ref a ∧ a ≠ b ∧ a ≠ g ∧ H a = some (.lst xs) ∧ DvAll b g H ds xs
  | .tuple ds, v => ∃ a xs, v = .ref a ∧ a ≠ b ∧ a ≠ g ∧ H a = some (.tup xs) ∧ DvAll b g H ds xs
  | .dict _, _ => False
def DvAll (b g : Addr) (H : Hp) : List PyData → List V → Prop
  | [], xs => xs = []
  | d :: ds, xs => ∃ v vs, xs = v :: vs ∧ Dv b g H d v ∧ DvAll b g H ds vs
end
mutual
theorem Dv.keep {b g : Addr} {H H' : Hp} (k : Keep b g H H') : ∀ (d : PyData) (v : V), Dv b g H d v → Dv b g H' d v
  | .none, _, h => h
  | .bool _, _, h => h
  | .int _, _, h => h
  | .str _, _, h => h
  | .list ds, _, h => let ⟨a, xs, e, n1, n2, h1, h2⟩ := h; ⟨a, xs, e, n1, n2, k _ _ h1 n1 n2, DvAll.keep k ds xs h2⟩
  | .tuple ds, _, h => let ⟨a, xs, e, n1, n2, h1, h2⟩ := h; ⟨a, xs, e, n1, n2, k _ _ h1 n1 n2, DvAll.keep k ds xs h2⟩
  | .dict _, _, h => h.elim
theorem DvAll.keep {b g : Addr} {H H' : Hp} (k : Keep b g H H') : ∀ (ds : List PyData) (xs : List V), DvAll b g H ds xs → DvAll b g H' ds xs
  | [], _, h => h
  | d :: ds, _, h => let ⟨v, vs, e, h1, h2⟩ := h; ⟨v, vs, e, Dv.keep k d v h1, DvAll.keep k ds vs h2⟩
end
mutual
theorem Dv.dp {b g : Addr} {K : PySem.W.Frag} {H : Hp} : ∀ (d : PyData) (v : V), Dv b g H d v → Dp K H v d
  | .none, _, h => by cases h; exact .non
  | .bool _, _, h => by cases h; exact .bl _
  | .int _, _, h => by cases h; exact .int _
  | .str _, _, h => by cases h; exact .str _
  | .list ds, _, h => by
    obtain ⟨a, xs, rfl, n1, n2, h1, h2⟩ := h
    exact .lst (SqL.of h1) (DvAll.dp ds xs h2)
  | .tuple ds, _, h => by
    obtain ⟨a, xs, rfl, n1, n2, h1, h2⟩ := h
    exact .tup (SqT.of h1) (DvAll.dp ds xs h2)
  | .dict _, _, h => h.elim
theorem DvAll.dp {b g : Addr} {K : PySem.W.Frag} {H : Hp} : ∀ (ds : List PyData) (xs : List V), DvAll b g H ds xs → DpAll K H xs ds
  | [], _, h => by cases h; exact .nil
  | d :: ds, _, h => by
    obtain ⟨v, vs, rfl, h1, h2⟩ := h
    exact .cons (Dv.dp d v h1) (DvAll.dp ds vs h2)
end
theorem DvAll.length {b g : Addr} {H : Hp} : ∀ {ds : List PyData} {xs : List V}, DvAll b g H ds xs → xs.length = ds.length
  | [], _, h => by cases h; rfl
  | d :: ds, _, h => by
    obtain ⟨v, vs, rfl, h1, h2⟩ := h
    rw [List.length_cons, List.length_cons, DvAll.length h2]
/-- small data: short texts, short lists, ints of few digits -/
def maxI : Int := 10 ^ 40
mutual
def Sm : PyData → Prop
  | .none => True
  | .bool _ => True
  | .int i => -maxI < i ∧ i < maxI
  | .str x => x.length ≤ 1000 ∧ PyData.strOk x = true
  | .list ds => ds.length ≤ 100 ∧ SmAll ds
  | .tuple ds => ds.length ≤ 100 ∧ SmAll ds
  | .dict _ => False
def SmAll : List PyData → Prop
  | [] => True
  | d :: ds => Sm d ∧ SmAll ds
end
mutual
theorem Sm.lay : ∀ d : PyData, Sm d → d.canLay0 = true
  | .none, _ => rfl
  | .bool _, _ => rfl
  | .int _, _ => rfl
  | .str _, h => h.2
  | .list ds, h => SmAll.lay ds h.2
  | .tuple ds, h => SmAll.lay ds h.2
  | .dict _, h => h.elim
theorem SmAll.lay : ∀ ds : List PyData, SmAll ds → PyData.canLayAll0 ds = true
  | [], _ => rfl
  | d :: ds, h => by
    show (d.canLay0 && PyData.canLayAll0 ds) = true
    rw [Sm.lay d h.1, SmAll.lay ds h.2]
    rfl
end
theorem Sm.shaped {d : PyData} (h : Sm d) (hd : d.depth ≤ 64) : SeqAt.shaped d = true := by
  unfold SeqAt.shaped
  rw [Sm.lay d h, decide_eq_true hd]
  rfl
/-- the type of data -/
def tyD : PyData → Value
  | .none => .type "NoneType"
  | .bool _ => .type "bool"
  | .int _ => .type "int"
  | .str _ => .type "str"
  | .list _ => .type "list"
  | .tuple _ => .type "tuple"
  | .dict _ => .type "dict"
theorem Dv.ty {b g : Addr} {K : PySem.W.Frag} {H : Hp} : ∀ {d : PyData} {v : V}, Dv b g H d v → TyX K H v (tyD d)
  | .none, _, h => by cases h; exact .base .non
  | .bool _, _, h => by cases h; exact .base (.bl _)
  | .int _, _, h => by cases h; exact .base (.int _)
  | .str _, _, h => by cases h; exact .base (.str _)
  | .list ds, _, h => by
    obtain ⟨a, xs, rfl, n1, n2, h1, h2⟩ := h
    exact .base (.lst h1)
  | .tuple ds, _, h => by
    obtain ⟨a, xs, rfl, n1, n2, h1, h2⟩ := h
    exact .base (.tup h1)
  | .dict _, _, h => h.elim
def isS : PyData → Bool | .str _ => true | _ => false
def isB : PyData → Bool | .bool _ => true | _ => false
def isI : PyData → Bool | .int _ => true | .bool _ => true | _ => false
def isL : PyData → Bool | .list _ => true | _ => false
def isT : PyData → Bool | .tuple _ => true | _ => false
section
variable {K : PySem.W.Frag}
theorem dkS {d : PyData} (h : Sm d) : PySem.W.kitOne K (tyD d) (.type "str") = some (isS d) := by
  cases d <;> first | exact h.elim | exact kit_ty (r := true) (by decide +kernel) | exact kit_ty (r := false) (by decide +kernel)
theorem dkB {d : PyData} (h : Sm d) : PySem.W.kitOne K (tyD d) (.type "bool") = some (isB d) := by
  cases d <;> first | exact h.elim | exact kit_ty (r := true) (by decide +kernel) | exact kit_ty (r := false) (by decide +kernel)
theorem dkI {d : PyData} (h : Sm d) : PySem.W.kitOne K (tyD d) (.type "int") = some (isI d) := by
  cases d <;> first | exact h.elim | exact kit_ty (r := true) (by decide +kernel) | exact kit_ty (r := false) (by decide +kernel)
theorem dkL {d : PyData} (h : Sm d) : PySem.W.kitOne K (tyD d) (.type "list") = some (isL d) := by
  cases d <;> first | exact h.elim | exact kit_ty (r := true) (by decide +kernel) | exact kit_ty (r := false) (by decide +kernel)
theorem dkT {d : PyData} (h : Sm d) : PySem.W.kitOne K (tyD d) (.type "tuple") = some (isT d) := by
  cases d <;> first | exact h.elim | exact kit_ty (r := true) (by decide +kernel) | exact kit_ty (r := false) (by decide +kernel)
end
/-! what the promise asks -/
def isNameD : PyData → Bool
  | .str x => decide (1 ≤ x.cps.size ∧ x.cps.size ≤ 8) && x.cps.toList.all fun c => decide (c ∈ abc.cps.toList)
  | _ => false
def isNumD : PyData → Bool
  | .int i => decide (0 ≤ i ∧ i ≤ 6)
  | _ => false
def isBalD : PyData → Bool
  | .tuple [n, x] => isNumD n && isNameD x
  | _ => false
def isAnsD (d : PyData) : Bool := PyData.eqv (.str "commit") d || PyData.eqv (.str "abort") d
def isStD : PyData → Bool
  | .tuple [x, a] => isBalD x && isAnsD a
  | _ => false
structure Bl (mg : Str → Option Value) : Prop where
  isi : mg "isinstance" = none
  str : mg "str" = none
  len : mg "len" = none
  tup : mg "tuple" = none
  lst : mg "list" = none
  rng : mg "range" = none
  int : mg "int" = none
  bool : mg "bool" = none
  all : mg "all" = none
  max : mg "max" = none
  letters : ∃ u, mg "LETTERS" = some u ∧ RelV (.str abc) u
  longest : ∃ u, mg "LONGEST_NAME" = some u ∧ RelV (.int 8) u
  largest : ∃ u, mg "LARGEST_NUMBER" = some u ∧ RelV (.int 6) u
end Moot
namespace Moot
open PySem PySem.Spec PyProof.Rows L2
section
variable {P : Program} {w : World} {K : PySem.W.Frag} {mg : Str → Option Value} {base : Heap}
/-! is_name -/
abbrev sIn : Stmt := top 3
abbrev nIn : List Str := ["value", "letter"]
theorem scIn : FnScope nIn ["value"] (defScope sIn) := ⟨rfl, rfl, rfl, by decide +kernel, rfl, by decide +kernel, by decide +kernel⟩
def spD (f : PyData → Bool) (ok : PyData → Prop) : Sp := fun vs H Q _ => ∃ (b g : Addr) (d : PyData) (v : V), vs = [v] ∧ Dv b g H d v ∧ Sm d ∧ ok d ∧ ∀ H', Same H H' → Q (.bl (f d)) H'
/-- every sign of a text is tested -/
theorem all_signs (z : Str) : (((z.cps.toList.take z.cps.size).map fun c => decide (c ∈ abc.cps.toList)).all id) = z.cps.toList.all fun c => decide (c ∈ abc.cps.toList) := by
  rw [List.take_of_length_le (by simp), List.all_map]
  rfl
theorem ok_isname {f : Addr} {fd : FuncData} {k : Nat} (F : Fun K "is_name" "is_name" sIn f fd) (T : Bl mg) : FnOk P w K mg base CX0 (k + 1) f fd ["value"] (spD isNameD fun _ => True) := by
  obtain ⟨uL, mL, rL⟩ := T.letters
  obtain ⟨uG, mG, rG⟩ := T.longest
  refine F.ok scIn (fun vs H Q E h => ?_) (fun cdv A outer s H vs Q E hr h => ?_)
  · obtain ⟨b, g, d, v, rfl, _⟩ := h
    rfl
  · obtain ⟨b, g, d, v, rfl, dv, sm, _, q⟩ := h
    refine ⟨_, pss_cons (ps_if (pt_not (pt_val (pe_callB call_isi (by rfl) T.isi (by decide +kernel) (pa_cons (pv 0) (pa_cons (pe_bltn (v := .ty "str") (by rfl) T.str (by decide +kernel) rfl) pa_nil))))) (pss_one (ps_ret pe_bl)) pss_nil)
      (pss_cons (ps_if (pt_not (pt_chain op_le op_le pe_int (pe_callB call_len_str (by rfl) T.len PySem.boot_len (pa_cons (pv 0) pa_nil)) (pe_glob (by rfl) mG rG))) (pss_one (ps_ret pe_bl)) pss_nil)
      (pss_one (ps_ret (pe_callB (cr_all rfl) (by rfl) T.all (by decide +kernel) (pa_cons (pe_lc (own := [("letter", 1)]) (g := gName 1) (tt := tYes) (by rfl) scIn.nd (pi_str (pv 0)) (blkOk_by (N := nIn) (sc := defScope sIn) (by decide +kernel))
          (fun _ _ _ _ _ => pg_name (i := 1) scIn.nd rfl (Or.inl rfl)) (fun _ _ _ _ _ => pts_nil) (fun _ _ _ _ _ => pe_cmpR op_in_sign (pv 1) (pe_glob (by rfl) mL rL) (by rfl))) pa_nil))))), ?_⟩
    refine ⟨v, rfl, _, _, tyD d, .type "str", isS d, rfl, .ty _, dv.ty, dkS sm, _, rfl, ?_⟩
    cases d with
    | str z =>
      cases dv
      refine iteF ?_
      have len : z.length ≤ sizeLine := Nat.le_of_lt (small1000 sm.1)
      refine ⟨.str z, rfl, z, rfl, len, _, _, rfl, rfl, _, rfl, ?_⟩
      by_cases h1 : (1 : Int) ≤ (z.length : Int)
      · rw [decide_eq_true h1]
        refine iteT ⟨_, _, rfl, rfl, _, rfl, ?_⟩
        by_cases h2 : (z.length : Int) ≤ 8
        · rw [decide_eq_true h2]
          refine iteF ?_
          have fin : isNameD (.str z) = z.cps.toList.all fun c => decide (c ∈ abc.cps.toList) := by
            show (decide (1 ≤ z.cps.size ∧ z.cps.size ≤ 8) && _) = _
            rw [decide_eq_true (show 1 ≤ z.cps.size ∧ z.cps.size ≤ 8 from ⟨by have : (1 : Int) ≤ (z.cps.size : Int) := h1; omega, by have : (z.cps.size : Int) ≤ 8 := h2; omega⟩), Bool.true_and]
          refine ⟨.str z, rfl, z, rfl, fun D nD => ?_⟩
          refine lc_it walk_str (fun j H1 => Same H H1 ∧ H1 D = some (.lst (((z.cps.toList.take j).map fun c => decide (c ∈ abc.cps.toList)).map V.bl))) ?_ (fun _ _ _ _ => trivial) ?_ ?_
          · exact ⟨same_new nD, upd_same⟩
          · rintro j x H1 H2 hj ⟨s1, hD⟩ ⟨rfl, c, hc, rfl⟩
            have tk : z.cps.toList.take (j + 1) = z.cps.toList.take j ++ [c] := by
              rw [List.take_add_one, Array.getElem?_toList, hc]
              rfl
            refine ⟨rfl, .str (sg c), rfl, c, abc, rfl, rfl, _, hD, ?_, fun a o e => ?_, ?_⟩
            · rw [List.length_map, List.length_map, List.length_take]
              have : z.cps.toList.length = z.length := by simp [Str.length]
              exact small1000 (by have := sm.1; omega)
            · rw [upd_ne (ne_of_none e nD)]
              exact s1 a o e
            · rw [upd_same, tk, List.map_append, List.map_append]
              rfl
          · rintro H1 ⟨s1, hD⟩
            refine ⟨D, _, rfl, SqL.of hD, ?_⟩
            have e := all_signs z
            rw [fin] at q
            rw [← e] at q
            exact q H1 s1
        · rw [decide_eq_false h2]
          refine iteT ?_
          have fin : isNameD (.str z) = false := by
            show (decide (1 ≤ z.cps.size ∧ z.cps.size ≤ 8) && _) = false
            rw [decide_eq_false (fun c => h2 (by show (z.cps.size : Int) ≤ 8; omega)), Bool.false_and]
          rw [fin] at q
          exact q H (Same.refl H)
      · rw [decide_eq_false h1]
        refine iteF ⟨_, rfl, iteT ?_⟩
        have fin : isNameD (.str z) = false := by
          show (decide (1 ≤ z.cps.size ∧ z.cps.size ≤ 8) && _) = false
          rw [decide_eq_false (fun c => h1 (by show (1 : Int) ≤ (z.cps.size : Int); omega)), Bool.false_and]
        rw [fin] at q
        exact q H (Same.refl H)
    | dict _ => exact sm.elim
    | _ => exact iteT (q H (Same.refl H))
end
end Moot
namespace Moot
open PySem PySem.Spec PyProof.Rows L2
/-- no two-tuple: no ballot, no statement -/
theorem isBalD_len {ds : List PyData} (h : ds.length ≠ 2) : isBalD (.tuple ds) = false := by
  match ds, h with
  | [], _ => rfl
  | [_], _ => rfl
  | [_, _], h => exact absurd rfl h
  | _ :: _ :: _ :: _, _ => rfl
theorem isStD_len {ds : List PyData} (h : ds.length ≠ 2) : isStD (.tuple ds) = false := by
  match ds, h with
  | [], _ => rfl
  | [_], _ => rfl
  | [_, _], h => exact absurd rfl h
  | _ :: _ :: _ :: _, _ => rfl
theorem two {α : Type} {ds : List α} (h : ds.length = 2) : ∃ x y, ds = [x, y] := by
  match ds, h with
  | [x, y], _ => exact ⟨x, y, rfl⟩
section
variable {P : Program} {w : World} {K : PySem.W.Frag} {mg : Str → Option Value} {base : Heap}
/-! is_whole_number -/
abbrev sWh : Stmt := top 4
theorem scWh : FnScope ["value"] ["value"] (defScope sWh) := ⟨rfl, rfl, rfl, by decide +kernel, rfl, by decide +kernel, by decide +kernel⟩
def isWhD : PyData → Bool | .int _ => true | _ => false
theorem ok_whole {f : Addr} {fd : FuncData} {k : Nat} (F : Fun K "is_whole_number" "is_whole_number" sWh f fd) (T : Bl mg) : FnOk P w K mg base CX0 (k + 1) f fd ["value"] (spD isWhD fun _ => True) := by
  refine F.ok scWh (fun vs H Q E h => ?_) (fun cdv A outer s H vs Q E hr h => ?_)
  · obtain ⟨b, g, d, v, rfl, _⟩ := h
    rfl
  · obtain ⟨b, g, d, v, rfl, dv, sm, _, q⟩ := h
    refine ⟨_, pss_one (ps_ret (pe_and (pe_callB call_isi (by rfl) T.isi (by decide +kernel) (pa_cons (pv 0) (pa_cons (pe_bltn (v := .ty "int") (by rfl) T.int (by decide +kernel) rfl) pa_nil)))
      (pe_one (pe_not (pe_callB call_isi (by rfl) T.isi (by decide +kernel) (pa_cons (pv 0) (pa_cons (pe_bltn (v := .ty "bool") (by rfl) T.bool (by decide +kernel) rfl) pa_nil))))))), ?_⟩
    refine ⟨v, rfl, _, _, tyD d, .type "int", isI d, rfl, .ty _, dv.ty, dkI sm, _, rfl, ?_⟩
    have r := q H (Same.refl H)
    have tail : isI d = true → (∃ v1, [some v][0]? = some (some v1) ∧ True) := fun _ => ⟨v, rfl, trivial⟩
    cases d with
    | int i => exact iteT ⟨v, rfl, _, _, _, .type "bool", false, rfl, .ty _, dv.ty, dkB (d := .int i) sm, false, rfl, r⟩
    | bool x => exact iteT ⟨v, rfl, _, _, _, .type "bool", true, rfl, .ty _, dv.ty, dkB (d := .bool x) sm, true, rfl, r⟩
    | dict _ => exact sm.elim
    | _ => exact iteF r
/-! is_ballot -/
abbrev sBal : Stmt := top 8
abbrev nBal : List Str := ["value", "number", "name"]
theorem scBal : FnScope nBal ["value"] (defScope sBal) := ⟨rfl, rfl, rfl, by decide +kernel, rfl, by decide +kernel, by decide +kernel⟩
theorem ok_ballot {f fW fN : Addr} {fd fdW fdN : FuncData} {k : Nat} (F : Fun K "is_ballot" "is_ballot" sBal f fd) (T : Bl mg)
    (FW : Fun K "is_whole_number" "is_whole_number" sWh fW fdW) (bW : Binds K fdW ["value"] []) (gW : mg "is_whole_number" = some (.ref fW))
    (FN : Fun K "is_name" "is_name" sIn fN fdN) (bN : Binds K fdN ["value"] []) (gN : mg "is_name" = some (.ref fN)) : FnOk P w K mg base CX0 (k + 2) f fd ["value"] (spD isBalD fun _ => True) := by
  obtain ⟨uG, mG, rG⟩ := T.largest
  have GW : FnOk P w K mg base CX0 (k + 1) fW fdW ["value"] (spD isWhD fun _ => True) := ok_whole FW T
  have GN : FnOk P w K mg base CX0 (k + 1) fN fdN ["value"] (spD isNameD fun _ => True) := ok_isname FN T
  refine F.ok scBal (fun vs H Q E h => ?_) (fun cdv A outer s H vs Q E hr h => ?_)
  · obtain ⟨b, g, d, v, rfl, _⟩ := h
    rfl
  · obtain ⟨b, g, d, v, rfl, dv, sm, _, q⟩ := h
    refine ⟨_, pss_cons (ps_if (PW.pt (pw_or (pt_not (pt_val (pe_callB call_isi (by rfl) T.isi (by decide +kernel) (pa_cons (pv 0) (pa_cons (pe_bltn (v := .ty "tuple") (by rfl) T.tup (by decide +kernel) rfl) pa_nil)))))
          (pw_or1 (pt_cmpR op_ne (pe_callB call_len_seq (by rfl) T.len PySem.boot_len (pa_cons (pv 0) pa_nil)) pe_int (nomark _))))) (pss_one (ps_ret pe_bl)) pss_nil)
      (pss_cons (ps_asg (pv 0) (pg_tup (by rfl) (pgs_cons (pg_name (i := 1) scBal.nd rfl (Or.inl rfl)) (pgs_cons (pg_name (i := 2) scBal.nd rfl (Or.inl rfl)) pgs_nil))))
      (pss_one (ps_ret (pe_and (pe_call GW hr (by rfl) gW FW.kp bW .nil pass0 (pa_cons (pv 1) pa_nil)) (pe_and (pe_chain op_le op_le pe_int (pv 1) (pe_glob (by rfl) mG rG)) (pe_one (pe_call GN hr (by rfl) gN FN.kp bN .nil pass0 (pa_cons (pv 2) pa_nil)))))))), ?_⟩
    refine ⟨v, rfl, _, _, tyD d, .type "tuple", isT d, rfl, .ty _, dv.ty, dkT sm, _, rfl, ?_⟩
    cases d with
    | tuple ds =>
      obtain ⟨a, xs, rfl, n1, n2, ha, dvs⟩ := dv
      have len := dvs.length
      refine iteF ⟨.ref a, rfl, a, _, rfl, .inr (SqT.of ha), rfl, _, rfl, ?_⟩
      by_cases l2 : ds.length = 2
      · obtain ⟨dn, dx, rfl⟩ := two l2
        obtain ⟨vn, vs1, rfl, dvn, vx, vs2, rfl, dvx, e⟩ := dvs
        cases e
        refine iteF ?_
        refine ⟨.ref a, rfl, a, _, rfl, SqT.of ha, rfl, _, _, rfl, _, _, rfl, rfl, ?_⟩
        obtain ⟨_, sn, sx, _⟩ := sm
        refine ⟨vn, rfl, b, g, dn, vn, rfl, dvn, sn, trivial, fun H1 s1 => ⟨_, rfl, ?_⟩⟩
        cases dn with
        | int i =>
          cases dvn
          refine iteT ⟨.int i, rfl, _, _, rfl, rfl, _, rfl, ?_⟩
          by_cases h0 : (0 : Int) ≤ i
          · rw [decide_eq_true h0]
            refine iteT ⟨_, _, rfl, rfl, _, rfl, ?_⟩
            by_cases h6 : i ≤ 6
            · rw [decide_eq_true h6]
              refine iteT ⟨vx, rfl, b, g, dx, vx, rfl, Dv.keep (Same.keep s1) dx vx dvx, sx, trivial, fun H2 s2 => ?_⟩
              have r := q H2 (s1.trans s2)
              have e : isBalD (.tuple [.int i, dx]) = isNameD dx := by
                show (decide (0 ≤ i ∧ i ≤ 6) && isNameD dx) = _
                rw [decide_eq_true ⟨h0, h6⟩, Bool.true_and]
              rw [e] at r
              exact r
            · rw [decide_eq_false h6]
              refine iteF ?_
              have r := q H1 s1
              have e : isBalD (.tuple [.int i, dx]) = false := by
                show (decide (0 ≤ i ∧ i ≤ 6) && isNameD dx) = _
                rw [decide_eq_false (fun c => h6 c.2), Bool.false_and]
              rw [e] at r
              exact r
          · rw [decide_eq_false h0]
            refine iteF ⟨_, rfl, iteF ?_⟩
            have r := q H1 s1
            have e : isBalD (.tuple [.int i, dx]) = false := by
              show (decide (0 ≤ i ∧ i ≤ 6) && isNameD dx) = _
              rw [decide_eq_false (fun c => h0 c.1), Bool.false_and]
            rw [e] at r
            exact r
        | dict _ => exact sn.elim
        | _ => exact iteF (q H1 s1)
      · have e : (V.int ((xs.length : Nat) : Int) = V.int 2) = False := by
          refine eq_false fun c => l2 ?_
          have := V.int.inj c
          omega
        have r := q H (Same.refl H)
        rw [isBalD_len l2] at r
        refine ite2 (fun _ => r) fun z => ?_
        exfalso
        revert z
        rw [show decide (V.int ((xs.length : Nat) : Int) = V.int 2) = false from decide_eq_false (by rw [e]; exact id)]
        decide
    | dict _ => exact sm.elim
    | _ => exact iteT (q H (Same.refl H))
end
end Moot
namespace Moot
open PySem PySem.Spec PyProof.Rows L2
section
variable {P : Program} {w : World} {K : PySem.W.Frag} {mg : Str → Option Value} {base : Heap}
/-- what the name ANSWERS holds -/
def Ans (K : PySem.W.Frag) (mg : Str → Option Value) (a : Addr) : Prop := mg "ANSWERS" = some (.ref a) ∧ ∀ H, SqT K H a [.str "commit", .str "abort"]
/-! is_answer -/
abbrev sAns : Stmt := top 9
theorem scAns : FnScope ["value"] ["value"] (defScope sAns) := ⟨rfl, rfl, rfl, by decide +kernel, rfl, by decide +kernel, by decide +kernel⟩
theorem shAns : SeqAt.shaped (.tuple [.str "commit", .str "abort"]) = true := by decide +kernel
theorem ok_answer {f aA : Addr} {fd : FuncData} {k : Nat} (F : Fun K "is_answer" "is_answer" sAns f fd) (T : Bl mg) (An : Ans K mg aA) : FnOk P w K mg base CX0 (k + 1) f fd ["value"] (spD isAnsD fun d => d.depth ≤ 64) := by
  refine F.ok scAns (fun vs H Q E h => ?_) (fun cdv A outer s H vs Q E hr h => ?_)
  · obtain ⟨b, g, d, v, rfl, _⟩ := h
    rfl
  · obtain ⟨b, g, d, v, rfl, dv, sm, dep, q⟩ := h
    have hu : (A.deeper (envOfC "is_answer" (defScope sAns) s.heap.objs.size f cdv)).units + 65 < cLine := by
      have := hr.un
      omega
    refine ⟨_, pss_one (ps_ret (pe_cmpR (op_inT hu) (pv 0) (pe_glob (v := .ref aA) (by rfl) An.1 rfl) (by rfl))), ?_⟩
    refine ⟨v, rfl, d, _, Dv.dp d v dv, .tup (An.2 _) (.cons (.str _) (.cons (.str _) .nil)), sm.shaped dep, shAns, ?_⟩
    have r := q H (Same.refl H)
    have e : (List.any [PyData.str "commit", PyData.str "abort"] fun z => PyData.eqv z d) = isAnsD d := by
      show (_ || (_ || false)) = _
      rw [Bool.or_false]
      rfl
    rw [e]
    exact r
/-! is_statement -/
abbrev sSt : Stmt := top 10
abbrev nSt : List Str := ["value", "ballot", "answer"]
theorem scSt : FnScope nSt ["value"] (defScope sSt) := ⟨rfl, rfl, rfl, by decide +kernel, rfl, by decide +kernel, by decide +kernel⟩
theorem depth2 {x y : PyData} {n : Nat} (h : (PyData.tuple [x, y]).depth ≤ n) : y.depth ≤ n := by
  have e : (PyData.tuple [x, y]).depth = max x.depth (max y.depth 0) + 1 := rfl
  omega
theorem ok_statement {f fB fA : Addr} {fd fdB fdA : FuncData} {k : Nat} (F : Fun K "is_statement" "is_statement" sSt f fd) (T : Bl mg)
    (FB : Fun K "is_ballot" "is_ballot" sBal fB fdB) (bB : Binds K fdB ["value"] []) (gB : mg "is_ballot" = some (.ref fB)) (GB : FnOk P w K mg base CX0 k fB fdB ["value"] (spD isBalD fun _ => True))
    (FA : Fun K "is_answer" "is_answer" sAns fA fdA) (bA : Binds K fdA ["value"] []) (gA : mg "is_answer" = some (.ref fA)) (GA : FnOk P w K mg base CX0 k fA fdA ["value"] (spD isAnsD fun d => d.depth ≤ 64)) :
    FnOk P w K mg base CX0 (k + 1) f fd ["value"] (spD isStD fun d => d.depth ≤ 64) := by
  refine F.ok scSt (fun vs H Q E h => ?_) (fun cdv A outer s H vs Q E hr h => ?_)
  · obtain ⟨b, g, d, v, rfl, _⟩ := h
    rfl
  · obtain ⟨b, g, d, v, rfl, dv, sm, dep, q⟩ := h
    refine ⟨_, pss_cons (ps_if (PW.pt (pw_or (pt_not (pt_val (pe_callB call_isi (by rfl) T.isi (by decide +kernel) (pa_cons (pv 0) (pa_cons (pe_bltn (v := .ty "tuple") (by rfl) T.tup (by decide +kernel) rfl) pa_nil)))))
          (pw_or1 (pt_cmpR op_ne (pe_callB call_len_seq (by rfl) T.len PySem.boot_len (pa_cons (pv 0) pa_nil)) pe_int (nomark _))))) (pss_one (ps_ret pe_bl)) pss_nil)
      (pss_cons (ps_asg (pv 0) (pg_tup (by rfl) (pgs_cons (pg_name (i := 1) scSt.nd rfl (Or.inl rfl)) (pgs_cons (pg_name (i := 2) scSt.nd rfl (Or.inl rfl)) pgs_nil))))
      (pss_one (ps_ret (pe_and (pe_call GB hr (by rfl) gB FB.kp bB .nil pass0 (pa_cons (pv 1) pa_nil)) (pe_one (pe_call GA hr (by rfl) gA FA.kp bA .nil pass0 (pa_cons (pv 2) pa_nil))))))), ?_⟩
    refine ⟨v, rfl, _, _, tyD d, .type "tuple", isT d, rfl, .ty _, dv.ty, dkT sm, _, rfl, ?_⟩
    cases d with
    | tuple ds =>
      obtain ⟨a, xs, rfl, n1, n2, ha, dvs⟩ := dv
      have len := dvs.length
      refine iteF ⟨.ref a, rfl, a, _, rfl, .inr (SqT.of ha), rfl, _, rfl, ?_⟩
      by_cases l2 : ds.length = 2
      · obtain ⟨dn, dx, rfl⟩ := two l2
        obtain ⟨vn, vs1, rfl, dvn, vx, vs2, rfl, dvx, e⟩ := dvs
        cases e
        refine iteF ?_
        refine ⟨.ref a, rfl, a, _, rfl, SqT.of ha, rfl, _, _, rfl, _, _, rfl, rfl, ?_⟩
        obtain ⟨_, sn, sx, _⟩ := sm
        refine ⟨vn, rfl, b, g, dn, vn, rfl, dvn, sn, trivial, fun H1 s1 => ⟨_, rfl, ?_⟩⟩
        have e : isStD (.tuple [dn, dx]) = (isBalD dn && isAnsD dx) := rfl
        rw [e] at q
        cases c : isBalD dn with
        | true =>
          rw [c, Bool.true_and] at q
          exact iteT ⟨vx, rfl, b, g, dx, vx, rfl, Dv.keep (Same.keep s1) dx vx dvx, sx, depth2 dep, fun H2 s2 => q H2 (s1.trans s2)⟩
        | false =>
          rw [c, Bool.false_and] at q
          exact iteF (q H1 s1)
      · have r := q H (Same.refl H)
        rw [isStD_len l2] at r
        refine ite2 (fun _ => r) fun z => ?_
        exfalso
        revert z
        rw [show decide (V.int ((xs.length : Nat) : Int) = V.int 2) = false from decide_eq_false fun c => l2 (by have := V.int.inj c; omega)]
        decide
    | dict _ => exact sm.elim
    | _ => exact iteT (q H (Same.refl H))
/-! _law_is_name -/
abbrev sLn : Stmt := top 17
abbrev nLn : List Str := ["_law_value", "_law_letter"]
theorem scLn : FnScope nLn ["_law_value"] (defScope sLn) := ⟨rfl, rfl, rfl, by decide +kernel, rfl, by decide +kernel, by decide +kernel⟩
theorem ok_lname {f : Addr} {fd : FuncData} {k : Nat} (F : Fun K "_law_is_name" "_law_is_name" sLn f fd) (T : Bl mg) : FnOk P w K mg base CX0 (k + 1) f fd ["_law_value"] (spD isNameD fun _ => True) := by
  refine F.ok scLn (fun vs H Q E h => ?_) (fun cdv A outer s H vs Q E hr h => ?_)
  · obtain ⟨b, g, d, v, rfl, _⟩ := h
    rfl
  · obtain ⟨b, g, d, v, rfl, dv, sm, _, q⟩ := h
    refine ⟨_, pss_cons (ps_if (PW.pt (pw_or (pt_not (pt_val (pe_callB call_isi (by rfl) T.isi (by decide +kernel) (pa_cons (pv 0) (pa_cons (pe_bltn (v := .ty "str") (by rfl) T.str (by decide +kernel) rfl) pa_nil)))))
          (pw_or1 (pt_not (pt_chain op_lt op_lt pe_int (pe_callB call_len_str (by rfl) T.len PySem.boot_len (pa_cons (pv 0) pa_nil)) pe_int))))) (pss_one (ps_ret pe_bl)) pss_nil)
      (pss_one (ps_ret (pe_callB (cr_all rfl) (by rfl) T.all (by decide +kernel) (pa_cons (pe_lc (own := [("_law_letter", 1)]) (g := gName 1) (tt := tYes) (by rfl) scLn.nd (pi_str (pv 0)) (blkOk_by (N := nLn) (sc := defScope sLn) (by decide +kernel))
          (fun _ _ _ _ _ => pg_name (i := 1) scLn.nd rfl (Or.inl rfl)) (fun _ _ _ _ _ => pts_nil) (fun _ _ _ _ _ => pe_cmpR op_in_sign (pv 1) pe_str (by rfl))) pa_nil)))), ?_⟩
    refine ⟨v, rfl, _, _, tyD d, .type "str", isS d, rfl, .ty _, dv.ty, dkS sm, _, rfl, ?_⟩
    cases d with
    | str z =>
      cases dv
      refine iteF ?_
      have len : z.length ≤ sizeLine := Nat.le_of_lt (small1000 sm.1)
      refine ⟨.str z, rfl, z, rfl, len, _, _, rfl, rfl, _, rfl, ?_⟩
      by_cases h1 : (0 : Int) < (z.length : Int)
      · rw [decide_eq_true h1]
        refine iteT ⟨_, _, rfl, rfl, _, rfl, ?_⟩
        by_cases h2 : (z.length : Int) < 9
        · rw [decide_eq_true h2]
          refine iteF ?_
          have fin : isNameD (.str z) = z.cps.toList.all fun c => decide (c ∈ abc.cps.toList) := by
            show (decide (1 ≤ z.cps.size ∧ z.cps.size ≤ 8) && _) = _
            rw [decide_eq_true (show 1 ≤ z.cps.size ∧ z.cps.size ≤ 8 from ⟨by have : (0 : Int) < (z.cps.size : Int) := h1; omega, by have : (z.cps.size : Int) < 9 := h2; omega⟩), Bool.true_and]
          refine ⟨.str z, rfl, z, rfl, fun D nD => ?_⟩
          refine lc_it walk_str (fun j H1 => Same H H1 ∧ H1 D = some (.lst (((z.cps.toList.take j).map fun c => decide (c ∈ abc.cps.toList)).map V.bl))) ?_ (fun _ _ _ _ => trivial) ?_ ?_
          · exact ⟨same_new nD, upd_same⟩
          · rintro j x H1 H2 hj ⟨s1, hD⟩ ⟨rfl, c, hc, rfl⟩
            have tk : z.cps.toList.take (j + 1) = z.cps.toList.take j ++ [c] := by
              rw [List.take_add_one, Array.getElem?_toList, hc]
              rfl
            refine ⟨rfl, .str (sg c), rfl, c, abc, rfl, rfl, _, hD, ?_, fun a o e => ?_, ?_⟩
            · rw [List.length_map, List.length_map, List.length_take]
              have : z.cps.toList.length = z.length := by simp [Str.length]
              exact small1000 (by have := sm.1; omega)
            · rw [upd_ne (ne_of_none e nD)]
              exact s1 a o e
            · rw [upd_same, tk, List.map_append, List.map_append]
              rfl
          · rintro H1 ⟨s1, hD⟩
            refine ⟨D, _, rfl, SqL.of hD, ?_⟩
            have e := all_signs z
            rw [fin] at q
            rw [← e] at q
            exact q H1 s1
        · rw [decide_eq_false h2]
          refine iteT ?_
          have fin : isNameD (.str z) = false := by
            show (decide (1 ≤ z.cps.size ∧ z.cps.size ≤ 8) && _) = false
            rw [decide_eq_false (fun c => h2 (by show (z.cps.size : Int) < 9; omega)), Bool.false_and]
          rw [fin] at q
          exact q H (Same.refl H)
      · rw [decide_eq_false h1]
        refine iteF ⟨_, rfl, iteT ?_⟩
        have fin : isNameD (.str z) = false := by
          show (decide (1 ≤ z.cps.size ∧ z.cps.size ≤ 8) && _) = false
          rw [decide_eq_false (fun c => h1 (by show (0 : Int) < (z.cps.size : Int); omega)), Bool.false_and]
        rw [fin] at q
        exact q H (Same.refl H)
    | dict _ => exact sm.elim
    | _ => exact iteT (q H (Same.refl H))
end
end Moot
namespace Moot
open PySem PySem.Spec PyProof.Rows L2
theorem ans_str (z : Str) : inV (.str z) [V.str "commit", V.str "abort"] = isAnsD (.str z) := by
  have e := inV_str z ["commit", "abort"]
  show inV (.str z) ([("commit" : Str), "abort"].map V.str) = _
  rw [e]
  show decide (z ∈ [("commit" : Str), "abort"]) = (("commit" : Str) == z || ("abort" : Str) == z)
  rw [Bool.eq_iff_iff, decide_eq_true_eq, Bool.or_eq_true, beq_iff_eq, beq_iff_eq]
  constructor
  · intro m
    rcases List.mem_cons.mp m with h | h
    · exact .inl h.symm
    · exact .inr (List.mem_singleton.mp h).symm
  · rintro (h | h)
    · exact List.mem_cons.mpr (.inl h.symm)
    · exact List.mem_cons.mpr (.inr (List.mem_singleton.mpr h.symm))
section
variable {P : Program} {w : World} {K : PySem.W.Frag} {mg : Str → Option Value} {base : Heap}
/-! _law_is_ballot -/
abbrev sLb : Stmt := top 18
theorem scLb : FnScope ["_law_value"] ["_law_value"] (defScope sLb) := ⟨rfl, rfl, rfl, by decide +kernel, rfl, by decide +kernel, by decide +kernel⟩
theorem ok_lballot {f fN : Addr} {fd fdN : FuncData} {k : Nat} (F : Fun K "_law_is_ballot" "_law_is_ballot" sLb f fd) (T : Bl mg)
    (FN : Fun K "_law_is_name" "_law_is_name" sLn fN fdN) (bN : Binds K fdN ["_law_value"] []) (gN : mg "_law_is_name" = some (.ref fN)) : FnOk P w K mg base CX0 (k + 2) f fd ["_law_value"] (spD isBalD fun _ => True) := by
  have GN : FnOk P w K mg base CX0 (k + 1) fN fdN ["_law_value"] (spD isNameD fun _ => True) := ok_lname FN T
  refine F.ok scLb (fun vs H Q E h => ?_) (fun cdv A outer s H vs Q E hr h => ?_)
  · obtain ⟨b, g, d, v, rfl, _⟩ := h
    rfl
  · obtain ⟨b, g, d, v, rfl, dv, sm, _, q⟩ := h
    refine ⟨_, pss_cons (ps_if (PW.pt (pw_or (pt_not (pt_val (pe_callB call_isi (by rfl) T.isi (by decide +kernel) (pa_cons (pv 0) (pa_cons (pe_bltn (v := .ty "tuple") (by rfl) T.tup (by decide +kernel) rfl) pa_nil)))))
          (pw_or (pt_cmpR op_ne (pe_callB call_len_seq (by rfl) T.len PySem.boot_len (pa_cons (pv 0) pa_nil)) pe_int (nomark _))
          (pw_or1 (pt_val (pe_callB call_isi (by rfl) T.isi (by decide +kernel) (pa_cons (pe_ix ix_tup (pv 0) pe_int (fun _ _ => rfl)) (pa_cons (pe_bltn (v := .ty "bool") (by rfl) T.bool (by decide +kernel) rfl) pa_nil)))))))) (pss_one (ps_ret pe_bl)) pss_nil)
      (pss_one (ps_ret (pe_and (pe_callB call_isi (by rfl) T.isi (by decide +kernel) (pa_cons (pe_ix ix_tup (pv 0) pe_int (fun _ _ => rfl)) (pa_cons (pe_bltn (v := .ty "int") (by rfl) T.int (by decide +kernel) rfl) pa_nil)))
        (pe_and (pe_chain op_le op_le pe_int (pe_ix ix_tup (pv 0) pe_int (fun _ _ => rfl)) pe_int) (pe_one (pe_call GN hr (by rfl) gN FN.kp bN .nil pass0 (pa_cons (pe_ix ix_tup (pv 0) pe_int (fun _ _ => rfl)) pa_nil))))))), ?_⟩
    refine ⟨v, rfl, _, _, tyD d, .type "tuple", isT d, rfl, .ty _, dv.ty, dkT sm, _, rfl, ?_⟩
    cases d with
    | tuple ds =>
      obtain ⟨a, xs, rfl, n1, n2, ha, dvs⟩ := dv
      have len := dvs.length
      refine iteF ⟨.ref a, rfl, a, _, rfl, .inr (SqT.of ha), rfl, _, rfl, ?_⟩
      by_cases l2 : ds.length = 2
      · obtain ⟨dn, dx, rfl⟩ := two l2
        obtain ⟨vn, vs1, rfl, dvn, vx, vs2, rfl, dvx, e⟩ := dvs
        cases e
        refine iteF ?_
        obtain ⟨_, sn, sx, _⟩ := sm
        refine ⟨.ref a, rfl, a, _, 0, vn, rfl, rfl, SqT.of ha, rfl, _, _, tyD dn, .type "bool", isB dn, rfl, .ty _, dvn.ty, dkB sn, _, rfl, ?_⟩
        have r := q H (Same.refl H)
        cases dn with
        | bool x => exact iteT r
        | int i =>
          have dvi := dvn
          cases dvn
          refine iteF ⟨.ref a, rfl, a, _, 0, .int i, rfl, rfl, SqT.of ha, rfl, _, _, .type "int", .type "int", true, rfl, .ty _, dvi.ty (d := .int i), dkI (d := .int i) sn, _, rfl, iteT ?_⟩
          refine ⟨.ref a, rfl, a, _, 0, .int i, rfl, rfl, SqT.of ha, rfl, _, _, rfl, rfl, _, rfl, ?_⟩
          have e : isBalD (.tuple [.int i, dx]) = (decide (0 ≤ i ∧ i ≤ 6) && isNameD dx) := rfl
          rw [e] at r
          by_cases h0 : (0 : Int) ≤ i
          · rw [decide_eq_true h0]
            refine iteT ⟨_, _, rfl, rfl, _, rfl, ?_⟩
            by_cases h6 : i ≤ 6
            · rw [decide_eq_true h6]
              refine iteT ⟨.ref a, rfl, a, _, 1, vx, rfl, rfl, SqT.of ha, atI_nat (j := 1) rfl, b, g, dx, vx, rfl, dvx, sx, trivial, fun H2 s2 => ?_⟩
              have r := q H2 s2
              rw [e, decide_eq_true ⟨h0, h6⟩, Bool.true_and] at r
              exact r
            · rw [decide_eq_false h6]
              rw [decide_eq_false (fun c => h6 c.2), Bool.false_and] at r
              exact iteF r
          · rw [decide_eq_false h0]
            rw [decide_eq_false (fun c => h0 c.1), Bool.false_and] at r
            exact iteF ⟨_, rfl, iteF r⟩
        | dict _ => exact sn.elim
        | none => exact iteF ⟨.ref a, rfl, a, _, 0, vn, rfl, rfl, SqT.of ha, rfl, _, _, _, .type "int", false, rfl, .ty _, dvn.ty, dkI sn, _, rfl, iteF r⟩
        | str _ => exact iteF ⟨.ref a, rfl, a, _, 0, vn, rfl, rfl, SqT.of ha, rfl, _, _, _, .type "int", false, rfl, .ty _, dvn.ty, dkI sn, _, rfl, iteF r⟩
        | list _ => exact iteF ⟨.ref a, rfl, a, _, 0, vn, rfl, rfl, SqT.of ha, rfl, _, _, _, .type "int", false, rfl, .ty _, dvn.ty, dkI sn, _, rfl, iteF r⟩
        | tuple _ => exact iteF ⟨.ref a, rfl, a, _, 0, vn, rfl, rfl, SqT.of ha, rfl, _, _, _, .type "int", false, rfl, .ty _, dvn.ty, dkI sn, _, rfl, iteF r⟩
      · have r := q H (Same.refl H)
        rw [isBalD_len l2] at r
        refine ite2 (fun _ => r) fun z => ?_
        exfalso
        revert z
        rw [show decide (V.int ((xs.length : Nat) : Int) = V.int 2) = false from decide_eq_false fun c => l2 (by have := V.int.inj c; omega)]
        decide
    | dict _ => exact sm.elim
    | _ => exact iteT (q H (Same.refl H))
/-! _law_is_statement -/
abbrev sLs : Stmt := top 19
theorem scLs : FnScope ["_law_value"] ["_law_value"] (defScope sLs) := ⟨rfl, rfl, rfl, by decide +kernel, rfl, by decide +kernel, by decide +kernel⟩
theorem ok_lstatement {f fB : Addr} {fd fdB : FuncData} {k : Nat} (F : Fun K "_law_is_statement" "_law_is_statement" sLs f fd) (T : Bl mg)
    (FB : Fun K "_law_is_ballot" "_law_is_ballot" sLb fB fdB) (bB : Binds K fdB ["_law_value"] []) (gB : mg "_law_is_ballot" = some (.ref fB)) (GB : FnOk P w K mg base CX0 k fB fdB ["_law_value"] (spD isBalD fun _ => True)) :
    FnOk P w K mg base CX0 (k + 1) f fd ["_law_value"] (spD isStD fun _ => True) := by
  refine F.ok scLs (fun vs H Q E h => ?_) (fun cdv A outer s H vs Q E hr h => ?_)
  · obtain ⟨b, g, d, v, rfl, _⟩ := h
    rfl
  · obtain ⟨b, g, d, v, rfl, dv, sm, _, q⟩ := h
    refine ⟨_, pss_cons (ps_if (PW.pt (pw_or (pt_not (pt_val (pe_callB call_isi (by rfl) T.isi (by decide +kernel) (pa_cons (pv 0) (pa_cons (pe_bltn (v := .ty "tuple") (by rfl) T.tup (by decide +kernel) rfl) pa_nil)))))
          (pw_or (pt_cmpR op_ne (pe_callB call_len_seq (by rfl) T.len PySem.boot_len (pa_cons (pv 0) pa_nil)) pe_int (nomark _))
          (pw_or1 (pt_not (pt_val (pe_call GB hr (by rfl) gB FB.kp bB .nil pass0 (pa_cons (pe_ix ix_tup (pv 0) pe_int (fun _ _ => rfl)) pa_nil)))))))) (pss_one (ps_ret pe_bl)) pss_nil)
      (pss_one (ps_ret (pe_and (pe_callB call_isi (by rfl) T.isi (by decide +kernel) (pa_cons (pe_ix ix_tup (pv 0) pe_int (fun _ _ => rfl)) (pa_cons (pe_bltn (v := .ty "str") (by rfl) T.str (by decide +kernel) rfl) pa_nil)))
        (pe_one (pe_cmpR op_in_seq (pe_ix ix_tup (pv 0) pe_int (fun _ _ => rfl)) (pe_lst (pa_cons pe_str (pa_cons pe_str pa_nil))) (by rfl)))))), ?_⟩
    refine ⟨v, rfl, _, _, tyD d, .type "tuple", isT d, rfl, .ty _, dv.ty, dkT sm, _, rfl, ?_⟩
    cases d with
    | tuple ds =>
      obtain ⟨a, xs, rfl, n1, n2, ha, dvs⟩ := dv
      have len := dvs.length
      refine iteF ⟨.ref a, rfl, a, _, rfl, .inr (SqT.of ha), rfl, _, rfl, ?_⟩
      by_cases l2 : ds.length = 2
      · obtain ⟨dn, dx, rfl⟩ := two l2
        obtain ⟨vn, vs1, rfl, dvn, vx, vs2, rfl, dvx, e⟩ := dvs
        cases e
        refine iteF ?_
        obtain ⟨_, sn, sx, _⟩ := sm
        refine ⟨.ref a, rfl, a, _, 0, vn, rfl, rfl, SqT.of ha, rfl, b, g, dn, vn, rfl, dvn, sn, trivial, fun H1 s1 => ⟨_, rfl, ?_⟩⟩
        have e : isStD (.tuple [dn, dx]) = (isBalD dn && isAnsD dx) := rfl
        rw [e] at q
        cases c : isBalD dn with
        | true =>
          rw [c, Bool.true_and] at q
          have ha1 := s1 _ _ ha
          refine iteF ⟨.ref a, rfl, a, _, 1, vx, rfl, rfl, SqT.of ha1, atI_nat (j := 1) rfl, _, _, tyD dx, .type "str", isS dx, rfl, .ty _, (Dv.keep (Same.keep s1) dx vx dvx).ty, dkS sx, _, rfl, ?_⟩
          cases dx with
          | str z =>
            cases dvx
            refine iteT ⟨.ref a, rfl, a, _, 1, .str z, rfl, rfl, SqT.of ha1, atI_nat (j := 1) rfl, by show 2 ≤ sizeLine; decide, fun l nl => ?_⟩
            refine ⟨l, _, rfl, .inl (SqL.of upd_same), rfl, rfl, ?_⟩
            have r := q _ (s1.trans (same_new (o := .lst [.str "commit", .str "abort"]) nl))
            rw [← ans_str z] at r
            exact r
          | dict _ => exact sx.elim
          | _ => exact iteF (q H1 s1)
        | false =>
          rw [c, Bool.false_and] at q
          exact iteT (q H1 s1)
      · have r := q H (Same.refl H)
        rw [isStD_len l2] at r
        refine ite2 (fun _ => r) fun z => ?_
        exfalso
        revert z
        rw [show decide (V.int ((xs.length : Nat) : Int) = V.int 2) = false from decide_eq_false fun c => l2 (by have := V.int.inj c; omega)]
        decide
    | dict _ => exact sm.elim
    | _ => exact iteT (q H (Same.refl H))
end
end Moot
namespace Moot
open PySem PySem.Spec PyProof.Rows L2
/-! smaller data yet -/
def limI : Int := 10 ^ 30
mutual
def Bs : PyData → Prop
  | .none => True
  | .bool _ => True
  | .int i => -limI < i ∧ i < limI
  | .str x => x.cps.size ≤ 9 ∧ ∀ c ∈ x.cps.toList, c < 128
  | .list ds => ds.length ≤ 2 ∧ BsAll ds
  | .tuple ds => ds.length ≤ 2 ∧ BsAll ds
  | .dict _ => False
def BsAll : List PyData → Prop
  | [] => True
  | d :: ds => Bs d ∧ BsAll ds
end
theorem strOk_of {x : Str} (h : ∀ c ∈ x.cps.toList, c < 1114112) : PyData.strOk x = true := by
  unfold PyData.strOk
  rw [Array.all_eq_true]
  intro i hi
  exact decide_eq_true (h _ (by simp))
mutual
theorem Bs.sm : ∀ d : PyData, Bs d → Sm d
  | .none, _ => trivial
  | .bool _, _ => trivial
  | .int i, h => ⟨by have := h.1; unfold limI at this; unfold maxI; omega, by have := h.2; unfold limI at this; unfold maxI; omega⟩
  | .str x, h => ⟨by show x.cps.size ≤ 1000; have := h.1; omega, strOk_of fun c m => by have := h.2 c m; omega⟩
  | .list ds, h => ⟨by have := h.1; omega, BsAll.sm ds h.2⟩
  | .tuple ds, h => ⟨by have := h.1; omega, BsAll.sm ds h.2⟩
  | .dict _, h => h.elim
theorem BsAll.sm : ∀ ds : List PyData, BsAll ds → SmAll ds
  | [], _ => trivial
  | d :: ds, h => ⟨Bs.sm d h.1, BsAll.sm ds h.2⟩
end
/-- a value of the kind that is drawn -/
def Drawn (b g : Addr) (H : Hp) (v : V) : Prop := ∃ d, Dv b g H d v ∧ Bs d ∧ d.depth ≤ 2
theorem Drawn.keep {b g : Addr} {H H' : Hp} {v : V} (k : Keep b g H H') (h : Drawn b g H v) : Drawn b g H' v := let ⟨d, h1, h2⟩ := h; ⟨d, Dv.keep k d v h1, h2⟩
theorem dr_non {b g : Addr} {H : Hp} : Drawn b g H .non := ⟨.none, rfl, trivial, by decide⟩
theorem dr_bl {b g : Addr} {H : Hp} (x : Bool) : Drawn b g H (.bl x) := ⟨.bool x, rfl, trivial, Nat.zero_le _⟩
theorem dr_int {b g : Addr} {H : Hp} (i : Int) (h : -limI < i ∧ i < limI) : Drawn b g H (.int i) := ⟨.int i, rfl, h, Nat.zero_le _⟩
theorem dr_str {b g : Addr} {H : Hp} (x : Str) (h : x.cps.size ≤ 9 ∧ ∀ c ∈ x.cps.toList, c < 128) : Drawn b g H (.str x) := ⟨.str x, rfl, h, Nat.zero_le _⟩
section
variable {P : Program} {w : World} {K : PySem.W.Frag} {mg : Str → Option Value} {base : Heap}
/-! _law_any -/
abbrev sAny : Stmt := top 20
abbrev nAny : List Str := ["_law_box_here", "_law_some"]
theorem scAny : FnScope nAny ["_law_box_here"] (defScope sAny) := ⟨rfl, rfl, rfl, by decide +kernel, rfl, by decide +kernel, by decide +kernel⟩
def spAny : Sp := fun vs H Q _ => ∃ (b g m : Addr) (n : Nat), vs = [.ref b] ∧ Box H b g m n ∧ n ≤ 900000 ∧
  ∀ (v : V) (H' : Hp), Drawn b g H' v → Box H' b g m (n + 1) → Keep b g H H' → Q v H'
theorem ok_any {f fT : Addr} {fd fdT : FuncData} {k : Nat} (F : Fun K "_law_any" "_law_any" sAny f fd) (T : Bl mg) (FT : Fun K "_law_take" "_law_take" sTake fT fdT) (bT : Binds K fdT ["_law_box_here", "_law_size"] []) (gT : mg "_law_take" = some (.ref fT))
    (GT : FnOk P w K mg base CX0 k fT fdT ["_law_box_here", "_law_size"] spTake) : FnOk P w K mg base CX0 (k + 1) f fd ["_law_box_here"] spAny := by
  refine F.ok scAny (fun vs H Q E h => ?_) (fun cdv A outer s H vs Q E hr h => ?_)
  · obtain ⟨b, g, m, n, rfl, _⟩ := h
    rfl
  · obtain ⟨b, g, m, n, rfl, B, hn, q⟩ := h
    refine ⟨_, pss_cons (ps_set (i := 1) scAny.nd rfl (Or.inl rfl) (pe_lst (pa_cons pe_non (pa_cons pe_bl (pa_cons pe_bl (pa_cons pe_int (pa_cons pe_int (pa_cons pe_int (pa_cons pe_int (pa_cons (pe_un un_neg pe_int) (pa_cons (pe_op op_pow pe_int pe_int) (pa_cons pe_str (pa_cons pe_str (pa_cons pe_str (pa_cons pe_str (pa_cons pe_str (pa_cons (pe_tup pa_nil) (pa_cons (pe_lst pa_nil) pa_nil))))))))))))))))))
      (pss_cons (ps_set (i := 1) scAny.nd rfl (Or.inl rfl) (pe_op op_cat (pv 1) (pe_lst (pa_cons (pe_tup (pa_cons pe_int pa_nil)) (pa_cons (pe_lst (pa_cons pe_int (pa_cons pe_str pa_nil))) (pa_cons (pe_tup (pa_cons pe_int (pa_cons pe_str pa_nil))) (pa_cons (pe_tup (pa_cons (pe_tup (pa_cons pe_int (pa_cons pe_str pa_nil))) (pa_cons pe_str pa_nil))) (pa_cons (pe_lst (pa_cons (pe_lst pa_nil) pa_nil)) (pa_cons (pe_tup (pa_cons pe_non (pa_cons (pe_tup pa_nil) pa_nil))) (pa_cons pe_str (pa_cons pe_str (pa_cons pe_str pa_nil))))))))))))
      (pss_one (ps_ret (pe_ix ix_list (pv 1) (pe_call GT hr (by rfl) gT FT.kp bT .nil pass0 (pa_cons (pv 0) (pa_cons (pe_callB call_len_seq (by rfl) T.len PySem.boot_len (pa_cons (pv 1) pa_nil)) pa_nil))) (fun _ _ => rfl))))), ?_⟩
    refine ⟨_, rfl, _, _, rfl, rfl, ⟨by decide, by decide, by decide⟩, Nat.zero_le _, fun p1 n1 => ?_⟩
    have s1 := same_new (o := .tup []) n1
    have h1 : (upd H p1 (.tup [])) p1 = some (.tup []) := upd_same
    generalize upd H p1 (.tup []) = H1 at s1 h1 ⊢
    refine ⟨Nat.zero_le _, fun p2 n2 => ?_⟩
    have s2 := same_new (o := .lst []) n2
    have h2 : (upd H1 p2 (.lst [])) p2 = some (.lst []) := upd_same
    generalize upd H1 p2 (.lst []) = H2 at s2 h2 ⊢
    refine ⟨by show 16 ≤ sizeLine; decide, fun p3 n3 => ?_⟩
    have s3 := same_new (o := .lst [V.non, V.bl true, V.bl false, V.int 0, V.int 1, V.int 6, V.int 7, V.int (-1), V.int (10 ^ (29 : Int).toNat), V.str "", V.str "a", V.str "commit", V.str "abort", V.str "Commit", V.ref p1, V.ref p2]) n3
    have h3 : (upd H2 p3 (.lst [V.non, V.bl true, V.bl false, V.int 0, V.int 1, V.int 6, V.int 7, V.int (-1), V.int (10 ^ (29 : Int).toNat), V.str "", V.str "a", V.str "commit", V.str "abort", V.str "Commit", V.ref p1, V.ref p2])) p3 = some (.lst [V.non, V.bl true, V.bl false, V.int 0, V.int 1, V.int 6, V.int 7, V.int (-1), V.int (10 ^ (29 : Int).toNat), V.str "", V.str "a", V.str "commit", V.str "abort", V.str "Commit", V.ref p1, V.ref p2]) := upd_same
    generalize upd H2 p3 (.lst [V.non, V.bl true, V.bl false, V.int 0, V.int 1, V.int 6, V.int 7, V.int (-1), V.int (10 ^ (29 : Int).toNat), V.str "", V.str "a", V.str "commit", V.str "abort", V.str "Commit", V.ref p1, V.ref p2]) = H3 at s3 h3 ⊢
    refine ⟨_, rfl, by show 1 ≤ sizeLine; decide, fun p4 n4 => ?_⟩
    have s4 := same_new (o := .tup [V.int 1]) n4
    have h4 : (upd H3 p4 (.tup [V.int 1])) p4 = some (.tup [V.int 1]) := upd_same
    generalize upd H3 p4 (.tup [V.int 1]) = H4 at s4 h4 ⊢
    refine ⟨by show 2 ≤ sizeLine; decide, fun p5 n5 => ?_⟩
    have s5 := same_new (o := .lst [V.int 1, V.str "a"]) n5
    have h5 : (upd H4 p5 (.lst [V.int 1, V.str "a"])) p5 = some (.lst [V.int 1, V.str "a"]) := upd_same
    generalize upd H4 p5 (.lst [V.int 1, V.str "a"]) = H5 at s5 h5 ⊢
    refine ⟨by show 2 ≤ sizeLine; decide, fun p6 n6 => ?_⟩
    have s6 := same_new (o := .tup [V.int 1, V.str "a"]) n6
    have h6 : (upd H5 p6 (.tup [V.int 1, V.str "a"])) p6 = some (.tup [V.int 1, V.str "a"]) := upd_same
    generalize upd H5 p6 (.tup [V.int 1, V.str "a"]) = H6 at s6 h6 ⊢
    refine ⟨by show 2 ≤ sizeLine; decide, fun p7 n7 => ?_⟩
    have s7 := same_new (o := .tup [V.int 1, V.str "a"]) n7
    have h7 : (upd H6 p7 (.tup [V.int 1, V.str "a"])) p7 = some (.tup [V.int 1, V.str "a"]) := upd_same
    generalize upd H6 p7 (.tup [V.int 1, V.str "a"]) = H7 at s7 h7 ⊢
    refine ⟨by show 2 ≤ sizeLine; decide, fun p8 n8 => ?_⟩
    have s8 := same_new (o := .tup [V.ref p7, V.str "commit"]) n8
    have h8 : (upd H7 p8 (.tup [V.ref p7, V.str "commit"])) p8 = some (.tup [V.ref p7, V.str "commit"]) := upd_same
    generalize upd H7 p8 (.tup [V.ref p7, V.str "commit"]) = H8 at s8 h8 ⊢
    refine ⟨Nat.zero_le _, fun p9 n9 => ?_⟩
    have s9 := same_new (o := .lst []) n9
    have h9 : (upd H8 p9 (.lst [])) p9 = some (.lst []) := upd_same
    generalize upd H8 p9 (.lst []) = H9 at s9 h9 ⊢
    refine ⟨by show 1 ≤ sizeLine; decide, fun p10 n10 => ?_⟩
    have s10 := same_new (o := .lst [V.ref p9]) n10
    have h10 : (upd H9 p10 (.lst [V.ref p9])) p10 = some (.lst [V.ref p9]) := upd_same
    generalize upd H9 p10 (.lst [V.ref p9]) = H10 at s10 h10 ⊢
    refine ⟨Nat.zero_le _, fun p11 n11 => ?_⟩
    have s11 := same_new (o := .tup []) n11
    have h11 : (upd H10 p11 (.tup [])) p11 = some (.tup []) := upd_same
    generalize upd H10 p11 (.tup []) = H11 at s11 h11 ⊢
    refine ⟨by show 2 ≤ sizeLine; decide, fun p12 n12 => ?_⟩
    have s12 := same_new (o := .tup [V.non, V.ref p11]) n12
    have h12 : (upd H11 p12 (.tup [V.non, V.ref p11])) p12 = some (.tup [V.non, V.ref p11]) := upd_same
    generalize upd H11 p12 (.tup [V.non, V.ref p11]) = H12 at s12 h12 ⊢
    refine ⟨by show 9 ≤ sizeLine; decide, fun p13 n13 => ?_⟩
    have s13 := same_new (o := .lst [V.ref p4, V.ref p5, V.ref p6, V.ref p8, V.ref p10, V.ref p12, V.str "abcdefghi", V.str "a1", V.str "A"]) n13
    have h13 : (upd H12 p13 (.lst [V.ref p4, V.ref p5, V.ref p6, V.ref p8, V.ref p10, V.ref p12, V.str "abcdefghi", V.str "a1", V.str "A"])) p13 = some (.lst [V.ref p4, V.ref p5, V.ref p6, V.ref p8, V.ref p10, V.ref p12, V.str "abcdefghi", V.str "a1", V.str "A"]) := upd_same
    generalize upd H12 p13 (.lst [V.ref p4, V.ref p5, V.ref p6, V.ref p8, V.ref p10, V.ref p12, V.str "abcdefghi", V.str "a1", V.str "A"]) = H13 at s13 h13 ⊢
    have s3_13 : Same H3 H13 := ((((((((s4.trans s5).trans s6).trans s7).trans s8).trans s9).trans s10).trans s11).trans s12).trans s13
    have s13_ : Same H H13 := ((s1.trans s2).trans s3).trans s3_13
    refine ⟨p3, p13, _, _, rfl, rfl, s3_13 _ _ h3, h13, by show 25 ≤ sizeLine; decide, fun p14 n14 => ?_⟩
    have s14 := same_new (o := .lst ([V.non, V.bl true, V.bl false, V.int 0, V.int 1, V.int 6, V.int 7, V.int (-1), V.int (10 ^ (29 : Int).toNat), V.str "", V.str "a", V.str "commit", V.str "abort", V.str "Commit", V.ref p1, V.ref p2] ++ [V.ref p4, V.ref p5, V.ref p6, V.ref p8, V.ref p10, V.ref p12, V.str "abcdefghi", V.str "a1", V.str "A"])) n14
    have h14 : (upd H13 p14 (.lst ([V.non, V.bl true, V.bl false, V.int 0, V.int 1, V.int 6, V.int 7, V.int (-1), V.int (10 ^ (29 : Int).toNat), V.str "", V.str "a", V.str "commit", V.str "abort", V.str "Commit", V.ref p1, V.ref p2] ++ [V.ref p4, V.ref p5, V.ref p6, V.ref p8, V.ref p10, V.ref p12, V.str "abcdefghi", V.str "a1", V.str "A"]))) p14 = some (.lst ([V.non, V.bl true, V.bl false, V.int 0, V.int 1, V.int 6, V.int 7, V.int (-1), V.int (10 ^ (29 : Int).toNat), V.str "", V.str "a", V.str "commit", V.str "abort", V.str "Commit", V.ref p1, V.ref p2] ++ [V.ref p4, V.ref p5, V.ref p6, V.ref p8, V.ref p10, V.ref p12, V.str "abcdefghi", V.str "a1", V.str "A"])) := upd_same
    generalize upd H13 p14 (.lst ([V.non, V.bl true, V.bl false, V.int 0, V.int 1, V.int 6, V.int 7, V.int (-1), V.int (10 ^ (29 : Int).toNat), V.str "", V.str "a", V.str "commit", V.str "abort", V.str "Commit", V.ref p1, V.ref p2] ++ [V.ref p4, V.ref p5, V.ref p6, V.ref p8, V.ref p10, V.ref p12, V.str "abcdefghi", V.str "a1", V.str "A"])) = H14 at s14 h14 ⊢
    have sA : Same H H14 := s13_.trans s14
    have B14 := B.same sA
    refine ⟨.ref p14, rfl, .ref b, rfl, .ref p14, rfl, p14, _, rfl, .inl (SqL.of h14), b, g, m, n, 25, rfl, B14, by omega, by decide, by decide, fun v H15 v0 v25 B15 K15 => ?_⟩
    have K0 : Keep b g H H15 := (Same.keep sA).trans K15
    have nb : ∀ {p : Addr} {H0 : Hp}, Same H H0 → H0 p = none → p ≠ b ∧ p ≠ g := fun {p H0} s0 h0 => ⟨((B.same s0).ne h0).1, ((B.same s0).ne h0).2.1⟩
    have a1 := nb (Same.refl H) n1
    have a2 := nb (s1) n2
    have a3 := nb ((s1).trans s2) n3
    have a4 := nb (((s1).trans s2).trans s3) n4
    have a5 := nb ((((s1).trans s2).trans s3).trans s4) n5
    have a6 := nb (((((s1).trans s2).trans s3).trans s4).trans s5) n6
    have a7 := nb ((((((s1).trans s2).trans s3).trans s4).trans s5).trans s6) n7
    have a8 := nb (((((((s1).trans s2).trans s3).trans s4).trans s5).trans s6).trans s7) n8
    have a9 := nb ((((((((s1).trans s2).trans s3).trans s4).trans s5).trans s6).trans s7).trans s8) n9
    have a10 := nb (((((((((s1).trans s2).trans s3).trans s4).trans s5).trans s6).trans s7).trans s8).trans s9) n10
    have a11 := nb ((((((((((s1).trans s2).trans s3).trans s4).trans s5).trans s6).trans s7).trans s8).trans s9).trans s10) n11
    have a12 := nb (((((((((((s1).trans s2).trans s3).trans s4).trans s5).trans s6).trans s7).trans s8).trans s9).trans s10).trans s11) n12
    have a13 := nb ((((((((((((s1).trans s2).trans s3).trans s4).trans s5).trans s6).trans s7).trans s8).trans s9).trans s10).trans s11).trans s12) n13
    have a14 := nb (((((((((((((s1).trans s2).trans s3).trans s4).trans s5).trans s6).trans s7).trans s8).trans s9).trans s10).trans s11).trans s12).trans s13) n14
    have s14_14 : Same H14 H14 := Same.refl H14
    have s13_14 : Same H13 H14 := s14.trans s14_14
    have s12_14 : Same H12 H14 := s13.trans s13_14
    have s11_14 : Same H11 H14 := s12.trans s12_14
    have s10_14 : Same H10 H14 := s11.trans s11_14
    have s9_14 : Same H9 H14 := s10.trans s10_14
    have s8_14 : Same H8 H14 := s9.trans s9_14
    have s7_14 : Same H7 H14 := s8.trans s8_14
    have s6_14 : Same H6 H14 := s7.trans s7_14
    have s5_14 : Same H5 H14 := s6.trans s6_14
    have s4_14 : Same H4 H14 := s5.trans s5_14
    have s3_14 : Same H3 H14 := s4.trans s4_14
    have s2_14 : Same H2 H14 := s3.trans s3_14
    have s1_14 : Same H1 H14 := s2.trans s2_14
    have f1 : H15 p1 = some (.tup []) := K15 _ _ (s1_14 _ _ h1) a1.1 a1.2
    have f2 : H15 p2 = some (.lst []) := K15 _ _ (s2_14 _ _ h2) a2.1 a2.2
    have f4 : H15 p4 = some (.tup [V.int 1]) := K15 _ _ (s4_14 _ _ h4) a4.1 a4.2
    have f5 : H15 p5 = some (.lst [V.int 1, V.str "a"]) := K15 _ _ (s5_14 _ _ h5) a5.1 a5.2
    have f6 : H15 p6 = some (.tup [V.int 1, V.str "a"]) := K15 _ _ (s6_14 _ _ h6) a6.1 a6.2
    have f7 : H15 p7 = some (.tup [V.int 1, V.str "a"]) := K15 _ _ (s7_14 _ _ h7) a7.1 a7.2
    have f8 : H15 p8 = some (.tup [V.ref p7, V.str "commit"]) := K15 _ _ (s8_14 _ _ h8) a8.1 a8.2
    have f9 : H15 p9 = some (.lst []) := K15 _ _ (s9_14 _ _ h9) a9.1 a9.2
    have f10 : H15 p10 = some (.lst [V.ref p9]) := K15 _ _ (s10_14 _ _ h10) a10.1 a10.2
    have f11 : H15 p11 = some (.tup []) := K15 _ _ (s11_14 _ _ h11) a11.1 a11.2
    have f12 : H15 p12 = some (.tup [V.non, V.ref p11]) := K15 _ _ (s12_14 _ _ h12) a12.1 a12.2
    have hL : H15 p14 = some (.lst ([V.non, V.bl true, V.bl false, V.int 0, V.int 1, V.int 6, V.int 7, V.int (-1), V.int (10 ^ (29 : Int).toNat), V.str "", V.str "a", V.str "commit", V.str "abort", V.str "Commit", V.ref p1, V.ref p2] ++ [V.ref p4, V.ref p5, V.ref p6, V.ref p8, V.ref p10, V.ref p12, V.str "abcdefghi", V.str "a1", V.str "A"])) := K15 _ _ h14 a14.1 a14.2
    have lim1 : ∀ i : Int, -10 ≤ i → i ≤ 10 → -limI < i ∧ i < limI := fun i h1 h2 => by unfold limI; omega
    have dI : Dv b g H15 (.int 1) (.int 1) := rfl
    have dA : Dv b g H15 (.str "a") (.str "a") := rfl
    have bI : Bs (.int 1) := lim1 1 (by decide) (by decide)
    have bA : Bs (.str "a") := ⟨by decide +kernel, by decide +kernel⟩
    have bC : Bs (.str "commit") := ⟨by decide +kernel, by decide +kernel⟩
    have pair : ∀ p, p ≠ b ∧ p ≠ g → H15 p = some (.tup [V.int 1, V.str "a"]) → Dv b g H15 (.tuple [.int 1, .str "a"]) (.ref p) := fun p hp h => ⟨p, _, rfl, hp.1, hp.2, h, _, _, rfl, dI, _, _, rfl, dA, rfl⟩
    have bP : Bs (.tuple [.int 1, .str "a"]) := ⟨by decide, bI, bA, trivial⟩
    have d1 : Drawn b g H15 (.ref p1) := ⟨.tuple [], ⟨p1, _, rfl, a1.1, a1.2, f1, rfl⟩, ⟨by decide, trivial⟩, by decide⟩
    have d2 : Drawn b g H15 (.ref p2) := ⟨.list [], ⟨p2, _, rfl, a2.1, a2.2, f2, rfl⟩, ⟨by decide, trivial⟩, by decide⟩
    have d4 : Drawn b g H15 (.ref p4) := ⟨.tuple [.int 1], ⟨p4, _, rfl, a4.1, a4.2, f4, _, _, rfl, dI, rfl⟩, ⟨by decide, bI, trivial⟩, by decide⟩
    have d5 : Drawn b g H15 (.ref p5) := ⟨.list [.int 1, .str "a"], ⟨p5, _, rfl, a5.1, a5.2, f5, _, _, rfl, dI, _, _, rfl, dA, rfl⟩, ⟨by decide, bI, bA, trivial⟩, by decide⟩
    have d6 : Drawn b g H15 (.ref p6) := ⟨_, pair p6 a6 f6, bP, by decide⟩
    have d8 : Drawn b g H15 (.ref p8) := ⟨.tuple [.tuple [.int 1, .str "a"], .str "commit"], ⟨p8, _, rfl, a8.1, a8.2, f8, _, _, rfl, pair p7 a7 f7, _, _, rfl, rfl, rfl⟩, ⟨by decide, bP, bC, trivial⟩, by decide⟩
    have d10 : Drawn b g H15 (.ref p10) := ⟨.list [.list []], ⟨p10, _, rfl, a10.1, a10.2, f10, _, _, rfl, ⟨p9, _, rfl, a9.1, a9.2, f9, rfl⟩, rfl⟩, ⟨by decide, ⟨by decide, trivial⟩, trivial⟩, by decide⟩
    have d12 : Drawn b g H15 (.ref p12) := ⟨.tuple [.none, .tuple []], ⟨p12, _, rfl, a12.1, a12.2, f12, _, _, rfl, rfl, _, _, rfl, ⟨p11, _, rfl, a11.1, a11.2, f11, rfl⟩, rfl⟩, ⟨by decide, trivial, ⟨by decide, trivial⟩, trivial⟩, by decide⟩
    have dS : ∀ x : Str, (x.cps.size ≤ 9 ∧ ∀ c ∈ x.cps.toList, c < 128) → Drawn b g H15 (.str x) := fun x h => dr_str x h
    have dN : ∀ i : Int, -10 ≤ i → i ≤ 10 → Drawn b g H15 (.int i) := fun i h1 h2 => dr_int i (lim1 i h1 h2)
    have each : ∀ x ∈ ([V.non, V.bl true, V.bl false, V.int 0, V.int 1, V.int 6, V.int 7, V.int (-1), V.int (10 ^ (29 : Int).toNat), V.str "", V.str "a", V.str "commit", V.str "abort", V.str "Commit", V.ref p1, V.ref p2] ++ [V.ref p4, V.ref p5, V.ref p6, V.ref p8, V.ref p10, V.ref p12, V.str "abcdefghi", V.str "a1", V.str "A"]), Drawn b g H15 x := by
      intro x mx
      simp only [List.cons_append, List.nil_append, List.mem_cons, List.not_mem_nil, or_false] at mx
      rcases mx with rfl | rfl | rfl | rfl | rfl | rfl | rfl | rfl | rfl | rfl | rfl | rfl | rfl | rfl | rfl | rfl | rfl | rfl | rfl | rfl | rfl | rfl | rfl | rfl | rfl
      · exact dr_non
      · exact dr_bl _
      · exact dr_bl _
      · exact dN _ (by decide) (by decide)
      · exact dN _ (by decide) (by decide)
      · exact dN _ (by decide) (by decide)
      · exact dN _ (by decide) (by decide)
      · exact dN _ (by decide) (by decide)
      · exact dr_int _ (by unfold limI; decide +kernel)
      · exact dS _ ⟨by decide +kernel, by decide +kernel⟩
      · exact dS _ ⟨by decide +kernel, by decide +kernel⟩
      · exact dS _ ⟨by decide +kernel, by decide +kernel⟩
      · exact dS _ ⟨by decide +kernel, by decide +kernel⟩
      · exact dS _ ⟨by decide +kernel, by decide +kernel⟩
      · exact d1
      · exact d2
      · exact d4
      · exact d5
      · exact d6
      · exact d8
      · exact d10
      · exact d12
      · exact dS _ ⟨by decide +kernel, by decide +kernel⟩
      · exact dS _ ⟨by decide +kernel, by decide +kernel⟩
      · exact dS _ ⟨by decide +kernel, by decide +kernel⟩
    obtain ⟨j, rfl⟩ := Int.eq_ofNat_of_zero_le v0
    have lt : j < ([V.non, V.bl true, V.bl false, V.int 0, V.int 1, V.int 6, V.int 7, V.int (-1), V.int (10 ^ (29 : Int).toNat), V.str "", V.str "a", V.str "commit", V.str "abort", V.str "Commit", V.ref p1, V.ref p2] ++ [V.ref p4, V.ref p5, V.ref p6, V.ref p8, V.ref p10, V.ref p12, V.str "abcdefghi", V.str "a1", V.str "A"]).length := by show j < 25; omega
    refine ⟨p14, _, j, _, rfl, rfl, SqL.of hL, atI_nat (List.getElem?_eq_getElem lt), ?_⟩
    exact q _ H15 (each _ (List.getElem_mem lt)) B15 K0
end
end Moot
namespace Moot
open PySem PySem.Spec PyProof.Rows L2
def Away (b g p : Addr) : Prop := p ≠ b ∧ p ≠ g
theorem Box.away {H : Hp} {b g m p : Addr} {n : Nat} (B : Box H b g m n) (h : H p = none) : Away b g p := ⟨(B.ne h).1, (B.ne h).2.1⟩
/-- small data of a depth -/
def SmV (b g : Addr) (H : Hp) (n : Nat) (v : V) : Prop := ∃ d, Dv b g H d v ∧ Sm d ∧ d.depth ≤ n
/-- smaller data of less than a depth -/
def BV (b g : Addr) (H : Hp) (n : Nat) (v : V) : Prop := ∃ d, Dv b g H d v ∧ Bs d ∧ d.depth < n
section
variable {b g : Addr} {H H' : Hp} {n : Nat} {v : V}
theorem SmV.keep (k : Keep b g H H') (h : SmV b g H n v) : SmV b g H' n v := let ⟨d, h1, h2⟩ := h; ⟨d, Dv.keep k d v h1, h2⟩
theorem SmV.same (k : Same H H') (h : SmV b g H n v) : SmV b g H' n v := h.keep (Same.keep k)
theorem BV.keep (k : Keep b g H H') (h : BV b g H n v) : BV b g H' n v := let ⟨d, h1, h2⟩ := h; ⟨d, Dv.keep k d v h1, h2⟩
theorem SmV.more {n' : Nat} (h : SmV b g H n v) (le : n ≤ n') : SmV b g H n' v := let ⟨d, h1, h2, h3⟩ := h; ⟨d, h1, h2, Nat.le_trans h3 le⟩
theorem BV.sm (h : BV b g H n v) : SmV b g H n v := let ⟨d, h1, h2, h3⟩ := h; ⟨d, h1, Bs.sm d h2, Nat.le_of_lt h3⟩
theorem Drawn.sm (h : Drawn b g H v) : SmV b g H 2 v := let ⟨d, h1, h2, h3⟩ := h; ⟨d, h1, Bs.sm d h2, h3⟩
theorem Drawn.bv (h : Drawn b g H v) : BV b g H 3 v := let ⟨d, h1, h2, h3⟩ := h; ⟨d, h1, h2, Nat.lt_succ_of_le h3⟩
theorem all_of : ∀ {xs : List V}, (∀ x ∈ xs, SmV b g H n x) → ∃ ds, DvAll b g H ds xs ∧ SmAll ds ∧ PyData.depthAll ds ≤ n ∧ ds.length = xs.length
  | [], _ => ⟨[], rfl, trivial, Nat.zero_le _, rfl⟩
  | x :: xs, h => by
    obtain ⟨d, h1, h2, h3⟩ := h x List.mem_cons_self
    obtain ⟨ds, k1, k2, k3, k4⟩ := all_of fun y m => h y (List.mem_cons_of_mem _ m)
    refine ⟨d :: ds, ⟨x, xs, rfl, h1, k1⟩, ⟨h2, k2⟩, ?_, by rw [List.length_cons, List.length_cons, k4]⟩
    show max d.depth (PyData.depthAll ds) ≤ n
    omega
theorem SmV.tup {p : Addr} {xs : List V} (aw : Away b g p) (h : H p = some (.tup xs)) (len : xs.length ≤ 100) (all : ∀ x ∈ xs, SmV b g H n x) : SmV b g H (n + 1) (.ref p) := by
  obtain ⟨ds, k1, k2, k3, k4⟩ := all_of all
  refine ⟨.tuple ds, ⟨p, xs, rfl, aw.1, aw.2, h, k1⟩, ⟨by omega, k2⟩, ?_⟩
  show PyData.depthAll ds + 1 ≤ n + 1
  omega
theorem SmV.lst {p : Addr} {xs : List V} (aw : Away b g p) (h : H p = some (.lst xs)) (len : xs.length ≤ 100) (all : ∀ x ∈ xs, SmV b g H n x) : SmV b g H (n + 1) (.ref p) := by
  obtain ⟨ds, k1, k2, k3, k4⟩ := all_of all
  refine ⟨.list ds, ⟨p, xs, rfl, aw.1, aw.2, h, k1⟩, ⟨by omega, k2⟩, ?_⟩
  show PyData.depthAll ds + 1 ≤ n + 1
  omega
theorem BV.items {ds : List PyData} : ∀ {xs : List V}, DvAll b g H ds xs → BsAll ds → PyData.depthAll ds < n → ∀ x ∈ xs, BV b g H n x := by
  induction ds with
  | nil =>
    intro xs h _ _ x m
    cases h
    cases m
  | cons d ds ih =>
    intro xs h bs dp x m
    obtain ⟨v, vs, rfl, h1, h2⟩ := h
    have dp' : max d.depth (PyData.depthAll ds) < n := dp
    rcases List.mem_cons.mp m with rfl | m
    · exact ⟨d, h1, bs.1, by omega⟩
    · exact ih h2 bs.2 (by omega) x m
theorem sm_str {x : Str} (h1 : x.length ≤ 1000) (h2 : PyData.strOk x = true) : SmV b g H n (.str x) := ⟨.str x, rfl, ⟨h1, h2⟩, Nat.zero_le _⟩
theorem sm_int {i : Int} (h : -maxI < i ∧ i < maxI) : SmV b g H n (.int i) := ⟨.int i, rfl, h, Nat.zero_le _⟩
theorem sm_bl (x : Bool) : SmV b g H n (.bl x) := ⟨.bool x, rfl, trivial, Nat.zero_le _⟩
end
/-! texts -/
theorem ok_signs {x : Str} (h : PyData.strOk x = true) : ∀ c ∈ x.cps.toList, c < 1114112 := fun c m => by
  unfold PyData.strOk at h
  rw [Array.all_eq_true] at h
  obtain ⟨i, hi, rfl⟩ := List.getElem_of_mem m
  have := h i (by simpa using hi)
  simpa using this
theorem ok_cat {x y : Str} (h : ∀ c ∈ x.cps.toList, c < 1114112) (k : ∀ c ∈ y.cps.toList, c < 1114112) : PyData.strOk (x ++ y) = true := strOk_of fun c m => by
  have e : (x ++ y).cps = x.cps ++ y.cps := rfl
  rw [e, Array.toList_append] at m
  rcases List.mem_append.mp m with m | m
  · exact h c m
  · exact k c m
theorem len_cat (x y : Str) : (x ++ y).length = x.length + y.length := by
  show (x.cps ++ y.cps).size = _
  rw [Array.size_append]
  rfl
theorem upper_small : ∀ c, c < 128 → ∀ e ∈ Unicode.upperOf c, e < 1114112 := by decide +kernel
theorem ok_upper {x : Str} (h : ∀ c ∈ x.cps.toList, c < 128) : PyData.strOk (Txt.upper x) = true := strOk_of fun c m => by
  have e : (Txt.upper x).cps = (x.cps.mapIdx fun _ c => (Unicode.upperOf c).toArray).flatten := rfl
  rw [e, Array.mem_toList_iff, Array.mem_flatten] at m
  obtain ⟨l, ml, mc⟩ := m
  obtain ⟨i, hi, rfl⟩ := Array.mem_mapIdx.mp ml
  exact upper_small x.cps[i] (h x.cps[i] (by simp)) c (by simpa using mc)
theorem ok_text (z : String) : PyData.strOk (Str.ofString z) = true := strOk_of fun c m => by
  have e : (Str.ofString z).cps.toList = z.toList.map Char.toNat := by rw [Str.ofString_eq_toList]
  rw [e] at m
  obtain ⟨k, _, rfl⟩ := List.mem_map.mp m
  have := k.valid
  rcases this with h | h
  · have : k.toNat < 55296 := h
    omega
  · exact h.2
theorem len_text (z : String) : (Str.ofString z).length = z.length := PySem.ofString_length z
theorem log_small {i : Int} (h : -maxI < i ∧ i < maxI) : i.natAbs.log2 < 1920 := by
  have e : i.natAbs < 2 ^ 200 := by
    have h1 := h.1
    have h2 := h.2
    unfold maxI at h1 h2
    have : (10 : Int) ^ 40 = 10000000000000000000000000000000000000000 := by decide
    have t : (2 : Nat) ^ 200 = 1606938044258990275541962092341162602522202993782792835301376 := by decide
    omega
  have : i.natAbs.log2 < 200 := by
    by_cases z : i.natAbs = 0
    · rw [z]
      decide
    · exact (Nat.log2_lt z).mpr e
  omega
theorem sm_digits {b g : Addr} {H : Hp} {n : Nat} {i : Int} (h : -maxI < i ∧ i < maxI) : SmV b g H n (.str (toString i)) := by
  refine sm_str ?_ (ok_text _)
  have e : i.natAbs < 10 ^ 41 := by
    have h1 := h.1
    have h2 := h.2
    unfold maxI at h1 h2
    have : (10 : Int) ^ 40 = 10000000000000000000000000000000000000000 := by decide
    omega
  have l := int_text_length_le10 (k := 41) (by decide) e
  have := len_text (toString i)
  show (Str.ofString (toString i)).length ≤ 1000
  omega
theorem cut_mem {z : Str} {lo hi : Option Int} {c : Nat} (h : c ∈ (cutS z lo hi).cps.toList) : c ∈ z.cps.toList := by
  unfold cutS at h
  exact List.mem_of_mem_drop (List.mem_of_mem_take h)
theorem cut_len (z : Str) (lo hi : Option Int) : (cutS z lo hi).length ≤ z.length := by
  show ((z.cps.toList.drop _).take _).toArray.size ≤ z.cps.size
  rw [List.size_toArray, List.length_take, List.length_drop, Array.length_toList]
  omega
theorem cutV_mem {xs : List V} {lo hi : Option Int} {x : V} (h : x ∈ cutV xs lo hi) : x ∈ xs := List.mem_of_mem_drop (List.mem_of_mem_take h)
theorem cutV_len (xs : List V) (lo hi : Option Int) : (cutV xs lo hi).length ≤ xs.length := by
  show ((xs.drop _).take _).length ≤ _
  rw [List.length_take, List.length_drop]
  omega
section
variable {K : PySem.W.Frag} {b g m : Addr} {H : Hp} {n : Nat} {Q : VK}
/-- a slice of a tuple, whichever way -/
theorem slA_of {a : Addr} {xs : List V} {lo hi : Option Int} (B : Box H b g m n) (aw : Away b g a) (h : H a = some (.tup xs))
    (q : ∀ p H', Same H H' → Away b g p → H' p = some (.tup (cutV xs lo hi)) → Q (.ref p) H') : rSlA K (.ref a) lo hi H Q := by
  refine ⟨a, xs, rfl, SqT.of h, fun w => ?_, fun _ p np => q p _ (same_new np) (B.away np) upd_same⟩
  refine q a H (Same.refl H) aw ?_
  have e : cutV xs lo hi = xs := by
    show (xs.drop (HT.sIx xs.length 0 lo)).take (HT.sIx xs.length xs.length hi - HT.sIx xs.length 0 lo) = xs
    rw [w.1, w.2, List.drop_zero, Nat.sub_zero, List.take_length]
  rw [e]
  exact h
/-- a sum of tuples, whichever way -/
theorem catA_of {a c : Addr} {xs ys : List V} (B : Box H b g m n) (aw : Away b g a) (cw : Away b g c) (h : H a = some (.tup xs)) (k : H c = some (.tup ys)) (few : xs.length + ys.length ≤ 100)
    (q : ∀ p H', Same H H' → Away b g p → H' p = some (.tup (xs ++ ys)) → Q (.ref p) H') : rCatA K (.ref a) (.ref c) H Q := by
  refine ⟨a, c, xs, ys, rfl, rfl, SqT.of h, SqT.of k, Nat.le_of_lt (small1000 (by omega)), fun e => ?_, fun _ e => ?_, fun _ _ p np => q p _ (same_new np) (B.away np) upd_same⟩
  · subst e
    exact q c H (Same.refl H) cw k
  · subst e
    refine q a H (Same.refl H) aw ?_
    rw [List.append_nil]
    exact h
end
end Moot
namespace Moot
open PySem PySem.Spec PyProof.Rows L2
/-- an item of a list all of whose items are such -/
theorem at_sm {b g : Addr} {H : Hp} {n : Nat} {xs : List V} (all : ∀ x ∈ xs, SmV b g H n x) {i : Int} (h0 : 0 ≤ i) (h1 : i < xs.length) : ∃ x, atI xs i = some x ∧ SmV b g H n x := by
  obtain ⟨j, rfl⟩ := Int.eq_ofNat_of_zero_le h0
  have lt : j < xs.length := by omega
  exact ⟨xs[j], atI_nat (List.getElem?_eq_getElem lt), all _ (List.getElem_mem lt)⟩
theorem at_mem {xs : List V} {i : Int} (h0 : 0 ≤ i) (h1 : i < xs.length) : ∃ x, atI xs i = some x ∧ x ∈ xs := by
  obtain ⟨j, rfl⟩ := Int.eq_ofNat_of_zero_le h0
  have lt : j < xs.length := by omega
  exact ⟨xs[j], atI_nat (List.getElem?_eq_getElem lt), List.getElem_mem lt⟩
section
variable {P : Program} {w : World} {K : PySem.W.Frag} {mg : Str → Option Value} {base : Heap}
/-! _law_changed -/
abbrev sCh : Stmt := top 21
abbrev nCh : List Str := ["_law_box_here", "_law_value", "_law_at", "_law_some"]
theorem scCh : FnScope nCh ["_law_box_here", "_law_value"] (defScope sCh) := ⟨rfl, rfl, rfl, by decide +kernel, rfl, by decide +kernel, by decide +kernel⟩
def spCh (n : Nat) : Sp := fun vs H Q _ => ∃ (b g m : Addr) (c : Nat) (v : V), vs = [.ref b, v] ∧ Box H b g m c ∧ c + 8 * n ≤ 800000 ∧ BV b g H n v ∧
  ∀ (v' : V) (H' : Hp), SmV b g H' (n + 3) v' → Box H' b g m (c + 8 * n) → Keep b g H H' → Q v' H'
theorem ok_changed {f fT fA : Addr} {fd fdT fdA : FuncData} {k n : Nat} (hn : n ≤ 10) (F : Fun K "_law_changed" "_law_changed" sCh f fd) (bF : Binds K fd ["_law_box_here", "_law_value"] []) (gF : mg "_law_changed" = some (.ref f)) (T : Bl mg)
    (G : FnOk P w K mg base CX0 k f fd ["_law_box_here", "_law_value"] (spCh n))
    (FT : Fun K "_law_take" "_law_take" sTake fT fdT) (bT : Binds K fdT ["_law_box_here", "_law_size"] []) (gT : mg "_law_take" = some (.ref fT)) (GT : FnOk P w K mg base CX0 k fT fdT ["_law_box_here", "_law_size"] spTake)
    (FA : Fun K "_law_any" "_law_any" sAny fA fdA) (bA : Binds K fdA ["_law_box_here"] []) (gA : mg "_law_any" = some (.ref fA)) (GA : FnOk P w K mg base CX0 k fA fdA ["_law_box_here"] spAny) :
    FnOk P w K mg base CX0 (k + 1) f fd ["_law_box_here", "_law_value"] (spCh (n + 1)) := by
  refine F.ok scCh (fun vs H Q E h => ?_) (fun cdv A outer s H vs Q E hr h => ?_)
  · obtain ⟨b, g, m, c, v, rfl, _⟩ := h
    rfl
  · obtain ⟨b, g, m, c, v, rfl, B, hc, ⟨d, dv, bs, dp⟩, q⟩ := h
    have sm := Bs.sm d bs
    refine ⟨_, pss_cons (ps_if (PW.pt (pw_or (pt_cmpR op_isN (pv 1) pe_non (nomark _)) (pw_or1 (pt_val (pe_callB call_isi (by rfl) T.isi (by decide +kernel) (pa_cons (pv 1) (pa_cons (pe_bltn (v := .ty "list") (by rfl) T.lst (by decide +kernel) rfl) pa_nil)))))))
        (pss_one (ps_ret (pe_call GA hr (by rfl) gA FA.kp bA .nil pass0 (pa_cons (pv 0) pa_nil)))) pss_nil)
      (C8.pss_cut (ps_if (PW.pt (pw_and (pt_val (pe_callB call_isi (by rfl) T.isi (by decide +kernel) (pa_cons (pv 1) (pa_cons (pe_bltn (v := .ty "tuple") (by rfl) T.tup (by decide +kernel) rfl) pa_nil))))
          (pw_and (pt_cmpR op_gt (pe_callB call_len_seq (by rfl) T.len PySem.boot_len (pa_cons (pv 1) pa_nil)) pe_int (nomark _)) (pw_and1 (pt_cmpR op_gt (pe_call GT hr (by rfl) gT FT.kp bT .nil pass0 (pa_cons (pv 0) (pa_cons pe_int pa_nil))) pe_int (nomark _))))))
        (pss_cons (ps_set (i := 2) scCh.nd rfl (Or.inl rfl) (pe_call GT hr (by rfl) gT FT.kp bT .nil pass0 (pa_cons (pv 0) (pa_cons (pe_callB call_len_seq (by rfl) T.len PySem.boot_len (pa_cons (pv 1) pa_nil)) pa_nil))))
        (pss_one (ps_ret (pe_op op_catA (pe_op op_catA (pe_slice sl_tupA (pv 1) po_none (po_some (pv 2))) (pe_tup (pa_cons (pe_call G hr (by rfl) gF F.kp bF .nil pass0 (pa_cons (pv 0) (pa_cons (pe_ix ix_tup (pv 1) (pv 2) (fun _ _ => rfl)) pa_nil))) pa_nil)))
          (pe_slice sl_tupA (pv 1) (po_some (pe_op op_add (pv 2) pe_int)) po_none))))) pss_nil)
      (pss_cons (ps_if (pt_val (pe_callB call_isi (by rfl) T.isi (by decide +kernel) (pa_cons (pv 1) (pa_cons (pe_bltn (v := .ty "tuple") (by rfl) T.tup (by decide +kernel) rfl) pa_nil))))
        (pss_cons (ps_set (i := 2) scCh.nd rfl (Or.inl rfl) (pe_call GT hr (by rfl) gT FT.kp bT .nil pass0 (pa_cons (pv 0) (pa_cons (pe_op op_add (pe_callB call_len_seq (by rfl) T.len PySem.boot_len (pa_cons (pv 1) pa_nil)) pe_int) pa_nil))))
        (pss_cons (ps_set (i := 3) scCh.nd rfl (Or.inl rfl) (pe_lst (pa_cons (pe_callTy call_list_of (by rfl) T.lst (by decide +kernel) (pa_cons (pv 1) pa_nil))
          (pa_cons (pe_op op_catA (pv 1) (pe_tup (pa_cons (pe_call GA hr (by rfl) gA FA.kp bA .nil pass0 (pa_cons (pv 0) pa_nil)) pa_nil)))
          (pa_cons (pe_op op_catA (pe_op op_catA (pe_slice sl_tupA (pv 1) po_none (po_some (pv 2))) (pe_tup (pa_cons (pe_call GA hr (by rfl) gA FA.kp bA .nil pass0 (pa_cons (pv 0) pa_nil)) pa_nil))) (pe_slice sl_tupA (pv 1) (po_some (pv 2)) po_none))
          (pa_cons (pe_slice sl_tupA (pv 1) (po_some pe_int) po_none) pa_nil))))))
        (pss_one (ps_ret (pe_ix ix_list (pe_op op_cat (pv 3) (pe_lst (pa_cons (pe_revT (pv 1))
          (pa_cons (pe_op op_catA (pe_slice sl_tupA (pv 1) po_none (po_some (pv 2))) (pe_slice sl_tupA (pv 1) (po_some (pe_op op_add (pv 2) pe_int)) po_none))
          (pa_cons (pe_op op_catA (pv 1) (pe_slice sl_tupA (pv 1) po_none (po_some pe_int))) pa_nil)))))
          (pe_call GT hr (by rfl) gT FT.kp bT .nil pass0 (pa_cons (pv 0) (pa_cons pe_int pa_nil))) (fun _ _ => rfl)))))) pss_nil)
      (pss_cons (ps_if (pt_val (pe_callB call_isi (by rfl) T.isi (by decide +kernel) (pa_cons (pv 1) (pa_cons (pe_bltn (v := .ty "str") (by rfl) T.str (by decide +kernel) rfl) pa_nil))))
        (pss_cons (ps_set (i := 3) scCh.nd rfl (Or.inl rfl) (pe_lst (pa_cons (pe_op op_add_str (pv 1) (pe_op op_rep8 pe_str pe_int)) (pa_cons (pe_slice sl_str (pv 1) po_none (po_some (pe_un un_neg pe_int))) (pa_cons (pe_upper (pv 1)) (pa_cons (pe_op op_add_str (pv 1) pe_str)
          (pa_cons (pe_lst (pa_cons (pv 1) pa_nil)) (pa_cons (pe_tup (pa_cons (pv 1) pa_nil)) (pa_cons (pe_op op_add_str (pv 1) pe_str) pa_nil)))))))))
        (pss_one (ps_ret (pe_ix ix_list (pe_op op_cat (pv 3) (pe_lst (pa_cons (pe_call GA hr (by rfl) gA FA.kp bA .nil pass0 (pa_cons (pv 0) pa_nil)) pa_nil))) (pe_call GT hr (by rfl) gT FT.kp bT .nil pass0 (pa_cons (pv 0) (pa_cons pe_int pa_nil))) (fun _ _ => rfl))))) pss_nil)
      (pss_one (ps_ret (pe_ix ix_list (pe_lst (pa_cons (pe_op (op_add.or op_add_bi) (pv 1) pe_int) (pa_cons (pe_op op_sub (pe_op (op_sub.or op_sub_ib) pe_int (pv 1)) pe_int) (pa_cons pe_bl (pa_cons (pe_callTy (call_str_int.or call_str_bl) (by rfl) T.str (by decide +kernel) (pa_cons (pv 1) pa_nil))
        (pa_cons (pe_call GA hr (by rfl) gA FA.kp bA .nil pass0 (pa_cons (pv 0) pa_nil)) pa_nil)))))) (pe_call GT hr (by rfl) gT FT.kp bT .nil pass0 (pa_cons (pv 0) (pa_cons pe_int pa_nil))) (fun _ _ => rfl))))))), ?_⟩
    -- what any gives
    have any : ∀ (v' : V) (H' : Hp), Drawn b g H' v' → Box H' b g m (c + 1) → Keep b g H H' → Q v' H' := fun v' H' dr B' K' => q v' H' (dr.sm.more (by omega)) (B'.more (by omega)) K'
    refine ⟨v, rfl, rfl, _, rfl, ?_⟩
    by_cases vn : v = .non
    · subst vn
      exact iteT ⟨.ref b, rfl, b, g, m, c, rfl, B, by omega, any⟩
    rw [decide_eq_false vn]
    refine iteF ⟨v, rfl, _, _, tyD d, .type "list", isL d, rfl, .ty _, dv.ty, dkL sm, _, rfl, ?_⟩
    cases hL : isL d with
    | true => exact iteT ⟨.ref b, rfl, b, g, m, c, rfl, B, by omega, any⟩
    | false =>
    refine iteF ?_
    -- the word between
    refine ⟨fun σ H1 => σ = [some (.ref b), some v, none, none] ∧ Box H1 b g m (c + 1) ∧ Keep b g H H1, ?_, ?_⟩
    · refine ⟨v, rfl, _, _, tyD d, .type "tuple", isT d, rfl, .ty _, dv.ty, dkT sm, _, rfl, ?_⟩
      cases hT : isT d with
      | false => exact iteF ⟨rfl, B.more (by omega), Keep.refl b g H⟩
      | true =>
        cases d with
        | tuple ds =>
          obtain ⟨a, xs, rfl, n1, n2, ha, dvs⟩ := dv
          have aw : Away b g a := ⟨n1, n2⟩
          have len : xs.length ≤ 2 := by
            have := bs.1
            have := dvs.length
            omega
          have items : ∀ x ∈ xs, BV b g H n x := BV.items dvs bs.2 (by have : PyData.depthAll ds + 1 < n + 1 := dp; omega)
          have it : ∀ H', Keep b g H H' → ∀ x ∈ xs, SmV b g H' (n + 3) x := fun H' k x mx => ((items x mx).keep k).sm.more (by omega)
          refine iteT ⟨.ref a, rfl, a, _, rfl, .inr (SqT.of ha), _, _, rfl, rfl, _, rfl, ?_⟩
          by_cases pos : xs = []
          · subst pos
            exact iteF ⟨rfl, B.more (by omega), Keep.refl b g H⟩
          have lp : 0 < xs.length := List.length_pos_iff.mpr pos
          rw [decide_eq_true (show ((xs.length : Nat) : Int) > 0 by omega)]
          refine iteT ⟨.ref b, rfl, b, g, m, c, 3, rfl, B, by omega, by decide, by decide, fun t H1 t0 t3 B1 K1 => ⟨_, _, rfl, rfl, _, rfl, ?_⟩⟩
          refine ite2 (fun _ => ?_) (fun _ => ⟨rfl, B1, K1⟩)
          have ha1 := K1 _ _ ha n1 n2
          refine ⟨.ref b, rfl, .ref a, rfl, a, _, rfl, .inr (SqT.of ha1), b, g, m, c + 1, _, rfl, B1, by omega, by omega, by omega, fun at' H2 u0 u1 B2 K2 => ?_⟩
          have ha2 := K2 _ _ ha1 n1 n2
          have K02 := K1.trans K2
          refine ⟨.ref a, rfl, .int at', rfl, at', rfl, slA_of B2 aw ha2 fun p1 H3 s3 w1 h1 => ?_⟩
          have B3 := B2.same s3
          have ha3 := s3 _ _ ha2
          have K03 := K02.trans (Same.keep s3)
          obtain ⟨x, hx, mx⟩ := at_mem u0 u1
          refine ⟨.ref b, rfl, .ref a, rfl, .int at', rfl, a, _, at', x, rfl, rfl, SqT.of ha3, hx, b, g, m, c + 1 + 1, x, rfl, B3, by omega, (items x mx).keep K03, fun v' H4 sv B4 K4 => ⟨by show 1 ≤ sizeLine; decide, fun p2 np2 => ?_⟩⟩
          have w2 := B4.away np2
          have s5 := same_new (o := .tup [v']) np2
          have h2 : (upd H4 p2 (.tup [v'])) p2 = some (.tup [v']) := upd_same
          generalize upd H4 p2 (.tup [v']) = H5 at s5 h2 ⊢
          have K04 := K03.trans K4
          have K05 := K04.trans (Same.keep s5)
          have B5 := B4.same s5
          have h1' := s5 _ _ (K4 _ _ h1 w1.1 w1.2)
          have ha5 := s5 _ _ (K4 _ _ ha3 n1 n2)
          have c1 := cutV_len xs none (some at')
          refine catA_of B5 w1 w2 h1' h2 (by rw [List.length_singleton]; omega) fun p3 H6 s6 w3 h3 => ?_
          have B6 := B5.same s6
          have ha6 := s6 _ _ ha5
          have K06 := K05.trans (Same.keep s6)
          refine ⟨.ref a, rfl, .int at', rfl, at', 1, rfl, rfl, at' + 1, rfl, ?_⟩
          dsimp only [tNoPart]
          refine slA_of B6 aw ha6 fun p4 H7 s7 w4 h4 => ?_
          have B7 := B6.same s7
          have K07 := K06.trans (Same.keep s7)
          have c2 := cutV_len xs (some (at' + 1)) none
          refine catA_of B7 w3 w4 (s7 _ _ h3) h4 (by rw [List.length_append, List.length_singleton]; omega) fun p5 H8 s8 w5 h5 => ?_
          have K08 := K07.trans (Same.keep s8)
          have K48 : Keep b g H4 H8 := ((Same.keep s5).trans (Same.keep s6)).trans ((Same.keep s7).trans (Same.keep s8))
          refine q _ H8 (SmV.tup (n := n + 3) w5 h5 (by rw [List.length_append, List.length_append, List.length_singleton]; omega) fun y my => ?_) ((B7.same s8).more (by omega)) K08
          rcases List.mem_append.mp my with my | my
          · rcases List.mem_append.mp my with my | my
            · exact it H8 K08 y (cutV_mem my)
            · rw [List.mem_singleton.mp my]
              exact sv.keep K48
          · exact it H8 K08 y (cutV_mem my)
        | dict _ => exact bs.elim
        | _ => cases hT
    · rintro σ H1 ⟨rfl, B1, K01⟩
      have dv1 := Dv.keep K01 d v dv
      cases d with
      | none => exact absurd dv vn
      | list _ => cases hL
      | dict _ => exact bs.elim
      | tuple ds =>
        refine ⟨v, rfl, _, _, _, .type "tuple", true, rfl, .ty _, dv1.ty, dkT sm, _, rfl, iteT ?_⟩
        have dpn : PyData.depthAll ds < n := by
          have : PyData.depthAll ds + 1 < n + 1 := dp
          omega
        obtain ⟨a, xs, rfl, n1, n2, ha0, dvs⟩ := dv
        have aw : Away b g a := ⟨n1, n2⟩
        have len : xs.length ≤ 2 := by
          have := bs.1
          have := dvs.length
          omega
        have items : ∀ x ∈ xs, BV b g H n x := BV.items dvs bs.2 dpn
        have it : ∀ H', Keep b g H H' → ∀ x ∈ xs, SmV b g H' (n + 2) x := fun H' k x mx => ((items x mx).keep k).sm.more (by omega)
        have ha1 := K01 _ _ ha0 n1 n2
        refine ⟨.ref b, rfl, .ref a, rfl, a, _, rfl, .inr (SqT.of ha1), _, _, rfl, rfl, b, g, m, c + 1, _, rfl, B1, by omega, by omega, by omega, fun at' H2 u0 u1 B2 K2 => ?_⟩
        have ha2 := K2 _ _ ha1 n1 n2
        have K02 := K01.trans K2
        have c1 := cutV_len xs none (some at')
        have c2 := cutV_len xs (some at') none
        have c3 := cutV_len xs (some (1 : Int)) none
        have c4 := cutV_len xs (some (at' + 1)) none
        have c5 := cutV_len xs none (some (1 : Int))
        refine ⟨.ref a, rfl, a, _, rfl, .inr (SqT.of ha2), fun l1 nl1 => ?_⟩
        have wl1 := B2.away nl1
        have s3 := same_new (o := .lst xs) nl1
        have hl1 : (upd H2 l1 (.lst xs)) l1 = some (.lst xs) := upd_same
        generalize upd H2 l1 (.lst xs) = H3 at s3 hl1 ⊢
        have B3 := B2.same s3
        have ha3 := s3 _ _ ha2
        have K03 := K02.trans (Same.keep s3)
        refine ⟨.ref a, rfl, .ref b, rfl, b, g, m, c + 1 + 1, rfl, B3, by omega, fun v1 H4 dr1 B4 K4 => ⟨by show 1 ≤ sizeLine; decide, fun p1 np1 => ?_⟩⟩
        have ha4 := K4 _ _ ha3 n1 n2
        have K04 := K03.trans K4
        have wp1 := B4.away np1
        have s5 := same_new (o := .tup [v1]) np1
        have h1 : (upd H4 p1 (.tup [v1])) p1 = some (.tup [v1]) := upd_same
        generalize upd H4 p1 (.tup [v1]) = H5 at s5 h1 ⊢
        have B5 := B4.same s5
        have ha5 := s5 _ _ ha4
        have K05 := K04.trans (Same.keep s5)
        refine catA_of B5 aw wp1 ha5 h1 (by rw [List.length_singleton]; omega) fun p2 H6 s6 wp2 h2 => ?_
        have B6 := B5.same s6
        have ha6 := s6 _ _ ha5
        have K06 := K05.trans (Same.keep s6)
        refine ⟨.ref a, rfl, .int at', rfl, at', rfl, slA_of B6 aw ha6 fun p3 H7 s7 wp3 h3 => ?_⟩
        have B7 := B6.same s7
        have ha7 := s7 _ _ ha6
        have K07 := K06.trans (Same.keep s7)
        refine ⟨.ref b, rfl, b, g, m, c + 1 + 1 + 1, rfl, B7, by omega, fun v2 H8 dr2 B8 K8 => ⟨by show 1 ≤ sizeLine; decide, fun p4 np4 => ?_⟩⟩
        have ha8 := K8 _ _ ha7 n1 n2
        have K08 := K07.trans K8
        have wp4 := B8.away np4
        have s9 := same_new (o := .tup [v2]) np4
        have h4 : (upd H8 p4 (.tup [v2])) p4 = some (.tup [v2]) := upd_same
        generalize upd H8 p4 (.tup [v2]) = H9 at s9 h4 ⊢
        have B9 := B8.same s9
        have ha9 := s9 _ _ ha8
        have K09 := K08.trans (Same.keep s9)
        refine catA_of B9 wp3 wp4 (s9 _ _ (K8 _ _ h3 wp3.1 wp3.2)) h4 (by rw [List.length_singleton]; omega) fun p5 H10 s10 wp5 h5 => ?_
        have B10 := B9.same s10
        have ha10 := s10 _ _ ha9
        have K010 := K09.trans (Same.keep s10)
        refine ⟨.ref a, rfl, .int at', rfl, at', rfl, ?_⟩
        dsimp only [tNoPart]
        refine slA_of B10 aw ha10 fun p6 H11 s11 wp6 h6 => ?_
        have B11 := B10.same s11
        have ha11 := s11 _ _ ha10
        have K011 := K010.trans (Same.keep s11)
        refine catA_of B11 wp5 wp6 (s11 _ _ h5) h6 (by rw [List.length_append, List.length_singleton]; omega) fun p7 H12 s12 wp7 h7 => ?_
        have B12 := B11.same s12
        have ha12 := s12 _ _ ha11
        have K012 := K011.trans (Same.keep s12)
        refine ⟨.ref a, rfl, 1, rfl, ?_⟩
        dsimp only [tNoPart]
        refine slA_of B12 aw ha12 fun p8 H13 s13 wp8 h8 => ⟨by show 4 ≤ sizeLine; decide, fun l2 nl2 => ?_⟩
        have B13 := B12.same s13
        have ha13 := s13 _ _ ha12
        have K013 := K012.trans (Same.keep s13)
        have wl2 := B13.away nl2
        have s14 := same_new (o := .lst [.ref l1, .ref p2, .ref p7, .ref p8]) nl2
        have hl2 : (upd H13 l2 (.lst [.ref l1, .ref p2, .ref p7, .ref p8])) l2 = some (.lst [.ref l1, .ref p2, .ref p7, .ref p8]) := upd_same
        generalize upd H13 l2 (.lst [.ref l1, .ref p2, .ref p7, .ref p8]) = H14 at s14 hl2 ⊢
        have B14 := B13.same s14
        have ha14 := s14 _ _ ha13
        have K014 := K013.trans (Same.keep s14)
        refine ⟨.ref l2, rfl, .ref a, rfl, a, _, rfl, SqT.of ha14, fun p9 np9 => ?_⟩
        have wp9 := B14.away np9
        have s15 := same_new (o := .tup xs.reverse) np9
        have h9 : (upd H14 p9 (.tup xs.reverse)) p9 = some (.tup xs.reverse) := upd_same
        generalize upd H14 p9 (.tup xs.reverse) = H15 at s15 h9 ⊢
        have B15 := B14.same s15
        have ha15 := s15 _ _ ha14
        have K015 := K014.trans (Same.keep s15)
        refine ⟨.ref a, rfl, .int at', rfl, at', rfl, slA_of B15 aw ha15 fun p10 H16 s16 wp10 h10 => ?_⟩
        have B16 := B15.same s16
        have ha16 := s16 _ _ ha15
        have K016 := K015.trans (Same.keep s16)
        refine ⟨.ref a, rfl, .int at', rfl, at', 1, rfl, rfl, at' + 1, rfl, ?_⟩
        dsimp only [tNoPart]
        refine slA_of B16 aw ha16 fun p11 H17 s17 wp11 h11 => ?_
        have B17 := B16.same s17
        have ha17 := s17 _ _ ha16
        have K017 := K016.trans (Same.keep s17)
        refine catA_of B17 wp10 wp11 (s17 _ _ h10) h11 (by omega) fun p12 H18 s18 wp12 h12 => ?_
        have B18 := B17.same s18
        have ha18 := s18 _ _ ha17
        have K018 := K017.trans (Same.keep s18)
        refine ⟨.ref a, rfl, .ref a, rfl, 1, rfl, slA_of B18 aw ha18 fun p13 H19 s19 wp13 h13 => ?_⟩
        have B19 := B18.same s19
        have ha19 := s19 _ _ ha18
        have K019 := K018.trans (Same.keep s19)
        refine catA_of B19 aw wp13 ha19 h13 (by omega) fun p14 H20 s20 wp14 h14 => ⟨by show 3 ≤ sizeLine; decide, fun l3 nl3 => ?_⟩
        have B20 := B19.same s20
        have ha20 := s20 _ _ ha19
        have K020 := K019.trans (Same.keep s20)
        have wl3 := B20.away nl3
        have s21 := same_new (o := .lst [.ref p9, .ref p12, .ref p14]) nl3
        have hl3 : (upd H20 l3 (.lst [.ref p9, .ref p12, .ref p14])) l3 = some (.lst [.ref p9, .ref p12, .ref p14]) := upd_same
        generalize upd H20 l3 (.lst [.ref p9, .ref p12, .ref p14]) = H21 at s21 hl3 ⊢
        have B21 := B20.same s21
        have ha21 := s21 _ _ ha20
        have K021 := K020.trans (Same.keep s21)
        have s14_21 : Same H14 H21 := (((((s15.trans s16).trans s17).trans s18).trans s19).trans s20).trans s21
        refine ⟨l2, l3, _, _, rfl, rfl, s14_21 _ _ hl2, hl3, by show 7 ≤ sizeLine; decide, fun l4 nl4 => ?_⟩
        have wl4 := B21.away nl4
        have s22 := same_new (o := .lst ([.ref l1, .ref p2, .ref p7, .ref p8] ++ [.ref p9, .ref p12, .ref p14])) nl4
        have hl4 : (upd H21 l4 (.lst ([.ref l1, .ref p2, .ref p7, .ref p8] ++ [.ref p9, .ref p12, .ref p14]))) l4 = some (.lst ([.ref l1, .ref p2, .ref p7, .ref p8] ++ [.ref p9, .ref p12, .ref p14])) := upd_same
        generalize upd H21 l4 (.lst ([.ref l1, .ref p2, .ref p7, .ref p8] ++ [.ref p9, .ref p12, .ref p14])) = H22 at s22 hl4 ⊢
        have B22 := B21.same s22
        have ha22 := s22 _ _ ha21
        have K022 := K021.trans (Same.keep s22)
        refine ⟨.ref b, rfl, b, g, m, c + 1 + 1 + 1 + 1, 7, rfl, B22, by omega, by decide, by decide, fun t H23 t0 t7 B23 K23 => ?_⟩
        have K023 := K022.trans K23
        have k22 : Keep b g H22 H23 := K23
        have k21 : Keep b g H21 H23 := (Same.keep s22).trans k22
        have k20 : Keep b g H20 H23 := (Same.keep s21).trans k21
        have k19 : Keep b g H19 H23 := (Same.keep s20).trans k20
        have k18 : Keep b g H18 H23 := (Same.keep s19).trans k19
        have k17 : Keep b g H17 H23 := (Same.keep s18).trans k18
        have k16 : Keep b g H16 H23 := (Same.keep s17).trans k17
        have k15 : Keep b g H15 H23 := (Same.keep s16).trans k16
        have k14 : Keep b g H14 H23 := (Same.keep s15).trans k15
        have k13 : Keep b g H13 H23 := (Same.keep s14).trans k14
        have k12 : Keep b g H12 H23 := (Same.keep s13).trans k13
        have k11 : Keep b g H11 H23 := (Same.keep s12).trans k12
        have k10 : Keep b g H10 H23 := (Same.keep s11).trans k11
        have k9 : Keep b g H9 H23 := (Same.keep s10).trans k10
        have k8 : Keep b g H8 H23 := (Same.keep s9).trans k9
        have k7 : Keep b g H7 H23 := (K8).trans k8
        have k6 : Keep b g H6 H23 := (Same.keep s7).trans k7
        have k5 : Keep b g H5 H23 := (Same.keep s6).trans k6
        have k4 : Keep b g H4 H23 := (Same.keep s5).trans k5
        have k3 : Keep b g H3 H23 := (K4).trans k4
        have m1 : SmV b g H23 (n + 3) (.ref l1) := SmV.lst (n := n + 2) wl1 (k3 _ _ hl1 wl1.1 wl1.2) (by omega) (it H23 K023)
        have m2 : SmV b g H23 (n + 3) (.ref p2) := SmV.tup (n := n + 2) wp2 (k6 _ _ h2 wp2.1 wp2.2) (by rw [List.length_append, List.length_singleton]; omega) fun y my => by
          rcases List.mem_append.mp my with my | my
          · exact it H23 K023 y my
          · rw [List.mem_singleton.mp my]
            exact ((dr1.sm.more (by omega)).keep ((Same.keep s5).trans k5))
        have m3 : SmV b g H23 (n + 3) (.ref p7) := SmV.tup (n := n + 2) wp7 (k12 _ _ h7 wp7.1 wp7.2) (by rw [List.length_append, List.length_append, List.length_singleton]; omega) fun y my => by
          rcases List.mem_append.mp my with my | my
          · rcases List.mem_append.mp my with my | my
            · exact it H23 K023 y (cutV_mem my)
            · rw [List.mem_singleton.mp my]
              exact ((dr2.sm.more (by omega)).keep ((Same.keep s9).trans k9))
          · exact it H23 K023 y (cutV_mem my)
        have m4 : SmV b g H23 (n + 3) (.ref p8) := SmV.tup (n := n + 2) wp8 (k13 _ _ h8 wp8.1 wp8.2) (by omega) fun y my => by
          exact it H23 K023 y (cutV_mem my)
        have m5 : SmV b g H23 (n + 3) (.ref p9) := SmV.tup (n := n + 2) wp9 (k15 _ _ h9 wp9.1 wp9.2) (by rw [List.length_reverse]; omega) fun y my => by
          exact it H23 K023 y (List.mem_reverse.mp my)
        have m6 : SmV b g H23 (n + 3) (.ref p12) := SmV.tup (n := n + 2) wp12 (k18 _ _ h12 wp12.1 wp12.2) (by rw [List.length_append]; omega) fun y my => by
          rcases List.mem_append.mp my with my | my
          · exact it H23 K023 y (cutV_mem my)
          · exact it H23 K023 y (cutV_mem my)
        have m7 : SmV b g H23 (n + 3) (.ref p14) := SmV.tup (n := n + 2) wp14 (k20 _ _ h14 wp14.1 wp14.2) (by rw [List.length_append]; omega) fun y my => by
          rcases List.mem_append.mp my with my | my
          · exact it H23 K023 y my
          · exact it H23 K023 y (cutV_mem my)
        have hl := K23 _ _ hl4 wl4.1 wl4.2
        have each : ∀ x ∈ ([.ref l1, .ref p2, .ref p7, .ref p8] ++ [.ref p9, .ref p12, .ref p14] : List V), SmV b g H23 (n + 3) x := by
          intro x mx
          simp only [List.cons_append, List.nil_append, List.mem_cons, List.not_mem_nil, or_false] at mx
          rcases mx with rfl | rfl | rfl | rfl | rfl | rfl | rfl
          · exact m1
          · exact m2
          · exact m3
          · exact m4
          · exact m5
          · exact m6
          · exact m7
        obtain ⟨x, hx, sx⟩ := at_sm each t0 t7
        exact ⟨l4, _, t, x, rfl, rfl, SqL.of hl, hx, q x H23 (sx.more (by omega)) (B23.more (by omega)) K023⟩
      | str z =>
        refine ⟨v, rfl, _, _, _, .type "tuple", false, rfl, .ty _, dv1.ty, dkT sm, _, rfl, iteF ?_⟩
        refine ⟨v, rfl, _, _, _, .type "str", true, rfl, .ty _, dv1.ty, dkS sm, _, rfl, iteT ?_⟩
        cases dv
        obtain ⟨zl, zc⟩ := bs
        have zl' : z.length ≤ 9 := zl
        have zs : ∀ c ∈ z.cps.toList, c < 1114112 := fun c mc => by
          have := zc c mc
          omega
        have big : ∀ {i : Nat}, i ≤ 1000 → i ≤ sizeLine := fun h => Nat.le_of_lt (small1000 h)
        refine ⟨.str z, rfl, rfl, rfl, z, "xxxxxxxx", rfl, rfl, big (by show z.length + 8 ≤ 1000; omega), ?_⟩
        refine ⟨.str z, rfl, _, rfl, _, rfl, z, rfl, big (by omega), ?_⟩
        refine ⟨.str z, rfl, ⟨_, rfl⟩, z, rfl, rfl, by omega, ?_⟩
        refine ⟨.str z, rfl, z, "1", rfl, rfl, big (by show z.length + 1 ≤ 1000; omega), ?_⟩
        refine ⟨.str z, rfl, by show 1 ≤ sizeLine; decide, fun l1 nl1 => ?_⟩
        have wl1 := B1.away nl1
        have s2 := same_new (o := .lst [.str z]) nl1
        have hl1 : (upd H1 l1 (.lst [.str z])) l1 = some (.lst [.str z]) := upd_same
        generalize upd H1 l1 (.lst [.str z]) = H2 at s2 hl1 ⊢
        have B2 := B1.same s2
        refine ⟨.str z, rfl, by show 1 ≤ sizeLine; decide, fun p1 np1 => ?_⟩
        have wp1 := B2.away np1
        have s3 := same_new (o := .tup [.str z]) np1
        have h1 : (upd H2 p1 (.tup [.str z])) p1 = some (.tup [.str z]) := upd_same
        generalize upd H2 p1 (.tup [.str z]) = H3 at s3 h1 ⊢
        have B3 := B2.same s3
        refine ⟨.str z, rfl, z, " ", rfl, rfl, big (by show z.length + 1 ≤ 1000; omega), by show 7 ≤ sizeLine; decide, fun l2 nl2 => ?_⟩
        have u1 := ok_upper zc
        have u2 := len_upper z
        have small : ∀ y : Str, y.length ≤ 1000 → PyData.strOk y = true → ∀ H', SmV b g H' 1 (.str y) := fun y h1 h2 H' => sm_str h1 h2
        have cat : ∀ y : Str, y.length ≤ 8 → (∀ c ∈ y.cps.toList, c < 1114112) → ∀ H', SmV b g H' 1 (.str (z ++ y)) := fun y h1 h2 H' => sm_str (by rw [len_cat]; omega) (ok_cat zs h2)
        have t1 := cat "xxxxxxxx" (by decide +kernel) (by decide +kernel)
        have t2 := cat "1" (by decide +kernel) (by decide +kernel)
        have t3 := cat " " (by decide +kernel) (by decide +kernel)
        have t4 : ∀ H', SmV b g H' 1 (.str (cutS z none (some (-1)))) := fun H' => sm_str (by have := cut_len z none (some (-1)); omega) (strOk_of fun c mc => zs c (cut_mem mc))
        have t5 : ∀ H', SmV b g H' 1 (.str (Txt.upper z)) := fun H' => sm_str (by omega) u1
        have t6 : ∀ H', SmV b g H' 0 (.str z) := fun H' => sm_str (by omega) (strOk_of zs)
        have wl2 := B3.away nl2
        refine ⟨.ref l2, rfl, .ref b, rfl, b, g, m, c + 1, rfl, B3.same (same_new nl2), by omega, fun v1 H5 dr1 B5 K5 => ⟨by show 1 ≤ sizeLine; decide, fun l3 nl3 => ?_⟩⟩
        have wl3 := B5.away nl3
        have hl2 := K5 _ _ upd_same wl2.1 wl2.2
        have k3_5 : Keep b g H3 H5 := (Same.keep (same_new nl2)).trans K5
        have s6 := same_new (o := .lst [v1]) nl3
        have hl3 : (upd H5 l3 (.lst [v1])) l3 = some (.lst [v1]) := upd_same
        generalize upd H5 l3 (.lst [v1]) = H6 at s6 hl3 ⊢
        have B6 := B5.same s6
        refine ⟨l2, l3, _, _, rfl, rfl, s6 _ _ hl2, hl3, by show 8 ≤ sizeLine; decide, fun l4 nl4 => ?_⟩
        have wl4 := B6.away nl4
        have B7 := B6.same (same_new (o := .lst ([.str (z ++ "xxxxxxxx"), .str (cutS z none (some (-1))), .str (Txt.upper z), .str (z ++ "1"), .ref l1, .ref p1, .str (z ++ " ")] ++ [v1])) nl4)
        refine ⟨.ref b, rfl, b, g, m, c + 1 + 1, 8, rfl, B7, by omega, by decide, by decide, fun t H8 t0 t7 B8 K8 => ?_⟩
        have hl := K8 _ _ upd_same wl4.1 wl4.2
        have k6_8 : Keep b g H6 H8 := (Same.keep (same_new nl4)).trans K8
        have k5_8 : Keep b g H5 H8 := (Same.keep s6).trans k6_8
        have k3_8 : Keep b g H3 H8 := k3_5.trans k5_8
        have k2_8 : Keep b g H2 H8 := (Same.keep s3).trans k3_8
        have K08 : Keep b g H H8 := K01.trans ((Same.keep s2).trans k2_8)
        have m1 : SmV b g H8 1 (.ref l1) := SmV.lst (n := 0) wl1 (k2_8 _ _ hl1 wl1.1 wl1.2) (by show 1 ≤ 100; decide) fun y my => by
          rw [List.mem_singleton.mp my]
          exact t6 H8
        have m2 : SmV b g H8 1 (.ref p1) := SmV.tup (n := 0) wp1 (k3_8 _ _ h1 wp1.1 wp1.2) (by show 1 ≤ 100; decide) fun y my => by
          rw [List.mem_singleton.mp my]
          exact t6 H8
        have each : ∀ x ∈ ([.str (z ++ "xxxxxxxx"), .str (cutS z none (some (-1))), .str (Txt.upper z), .str (z ++ "1"), .ref l1, .ref p1, .str (z ++ " ")] ++ [v1] : List V), SmV b g H8 2 x := by
          intro x mx
          simp only [List.cons_append, List.nil_append, List.mem_cons, List.not_mem_nil, or_false] at mx
          rcases mx with rfl | rfl | rfl | rfl | rfl | rfl | rfl | rfl
          · exact (t1 H8).more (by decide)
          · exact (t4 H8).more (by decide)
          · exact (t5 H8).more (by decide)
          · exact (t2 H8).more (by decide)
          · exact m1.more (by decide)
          · exact m2.more (by decide)
          · exact (t3 H8).more (by decide)
          · exact dr1.sm.keep k5_8
        obtain ⟨x, hx, sx⟩ := at_sm each t0 t7
        exact ⟨l4, _, t, x, rfl, rfl, SqL.of hl, hx, q x H8 (sx.more (by omega)) (B8.more (by omega)) K08⟩
      | int i =>
        refine ⟨v, rfl, _, _, _, .type "tuple", false, rfl, .ty _, dv1.ty, dkT sm, _, rfl, iteF ?_⟩
        refine ⟨v, rfl, _, _, _, .type "str", false, rfl, .ty _, dv1.ty, dkS sm, _, rfl, iteF ?_⟩
        cases dv
        have i1 := bs.1
        have i2 := bs.2
        unfold limI at i1 i2
        have lim : -maxI < i ∧ i < maxI := by unfold maxI; omega
        refine ⟨.int i, rfl, .inl ⟨_, _, rfl, rfl, .int i, rfl, .inl ⟨_, _, rfl, rfl, _, _, rfl, rfl, .int i, rfl, .inl ⟨i, rfl, log_small lim, .ref b, rfl, b, g, m, c + 1, rfl, B1, by omega, fun v1 H2 dr1 B2 K2 => ⟨by show 5 ≤ sizeLine; decide, fun l1 nl1 => ?_⟩⟩⟩⟩⟩
        have wl1 := B2.away nl1
        have s3 := same_new (o := .lst [.int (i + 7), .int (0 - i - 1), .bl true, .str (toString i), v1]) nl1
        have hl1 : (upd H2 l1 (.lst [.int (i + 7), .int (0 - i - 1), .bl true, .str (toString i), v1])) l1 = some (.lst [.int (i + 7), .int (0 - i - 1), .bl true, .str (toString i), v1]) := upd_same
        refine ⟨.ref b, rfl, b, g, m, c + 1 + 1, 5, rfl, B2.same s3, by omega, by decide, by decide, fun t H4 t0 t7 B4 K4 => ?_⟩
        have k2_4 : Keep b g H2 H4 := (Same.keep s3).trans K4
        have K04 : Keep b g H H4 := (K01.trans K2).trans k2_4
        have each : ∀ x ∈ ([.int (i + 7), .int (0 - i - 1), .bl true, .str (toString i), v1] : List V), SmV b g H4 2 x := by
          intro x mx
          simp only [List.mem_cons, List.not_mem_nil, or_false] at mx
          rcases mx with rfl | rfl | rfl | rfl | rfl
          · exact sm_int (by unfold maxI; omega)
          · exact sm_int (by unfold maxI; omega)
          · exact sm_bl _
          · exact sm_digits lim
          · exact dr1.sm.keep k2_4
        obtain ⟨x, hx, sx⟩ := at_sm each t0 t7
        exact ⟨l1, _, t, x, rfl, rfl, SqL.of (K4 _ _ hl1 wl1.1 wl1.2), hx, q x H4 (sx.more (by omega)) (B4.more (by omega)) K04⟩
      | bool i =>
        refine ⟨v, rfl, _, _, _, .type "tuple", false, rfl, .ty _, dv1.ty, dkT sm, _, rfl, iteF ?_⟩
        refine ⟨v, rfl, _, _, _, .type "str", false, rfl, .ty _, dv1.ty, dkS sm, _, rfl, iteF ?_⟩
        cases dv
        have two : b2i i = 0 ∨ b2i i = 1 := by cases i <;> simp [b2i]
        refine ⟨.bl i, rfl, .inr ⟨_, _, rfl, rfl, .bl i, rfl, .inr ⟨_, _, rfl, rfl, _, _, rfl, rfl, .bl i, rfl, .inr ⟨i, rfl, .ref b, rfl, b, g, m, c + 1, rfl, B1, by omega, fun v1 H2 dr1 B2 K2 => ⟨by show 5 ≤ sizeLine; decide, fun l1 nl1 => ?_⟩⟩⟩⟩⟩
        have wl1 := B2.away nl1
        have s3 := same_new (o := .lst [.int (b2i i + 7), .int (0 - b2i i - 1), .bl true, .str (if i then "True" else "False"), v1]) nl1
        have hl1 : (upd H2 l1 (.lst [.int (b2i i + 7), .int (0 - b2i i - 1), .bl true, .str (if i then "True" else "False"), v1])) l1 = some (.lst [.int (b2i i + 7), .int (0 - b2i i - 1), .bl true, .str (if i then "True" else "False"), v1]) := upd_same
        refine ⟨.ref b, rfl, b, g, m, c + 1 + 1, 5, rfl, B2.same s3, by omega, by decide, by decide, fun t H4 t0 t7 B4 K4 => ?_⟩
        have k2_4 : Keep b g H2 H4 := (Same.keep s3).trans K4
        have K04 : Keep b g H H4 := (K01.trans K2).trans k2_4
        have each : ∀ x ∈ ([.int (b2i i + 7), .int (0 - b2i i - 1), .bl true, .str (if i then "True" else "False"), v1] : List V), SmV b g H4 2 x := by
          intro x mx
          simp only [List.mem_cons, List.not_mem_nil, or_false] at mx
          rcases mx with rfl | rfl | rfl | rfl | rfl
          · exact sm_int (by unfold maxI; omega)
          · exact sm_int (by unfold maxI; omega)
          · exact sm_bl _
          · cases i <;> exact sm_str (by decide +kernel) (by decide +kernel)
          · exact dr1.sm.keep k2_4
        obtain ⟨x, hx, sx⟩ := at_sm each t0 t7
        exact ⟨l1, _, t, x, rfl, rfl, SqL.of (K4 _ _ hl1 wl1.1 wl1.2), hx, q x H4 (sx.more (by omega)) (B4.more (by omega)) K04⟩
end
end Moot
namespace Moot
open PySem PySem.Spec PyProof.Rows L2
section
variable {P : Program} {w : World} {K : PySem.W.Frag} {mg : Str → Option Value} {base : Heap}
/-! _law_ballots -/
abbrev sBs : Stmt := top 16
abbrev nBs : List Str := ["_law_box_here", "_law_many", "_law_found", "_law_k", "_law_ballot"]
theorem scBs : FnScope nBs ["_law_box_here", "_law_many"] (defScope sBs) := ⟨rfl, rfl, rfl, by decide +kernel, rfl, by decide +kernel, by decide +kernel⟩
/-- one ballot -/
def spBs : Sp := fun vs H Q _ => ∃ (b g m : Addr) (c : Nat), vs = [.ref b, .int 1] ∧ Box H b g m c ∧ c ≤ 800000 ∧
  ∀ (p t : Addr) (u : Int) (x : Str) (H' : Hp), Away b g p → Away b g t → H' p = some (.lst [.ref t]) → H' t = some (.tup [.int u, .str x]) → 0 ≤ u → u < 7 → Nm x → Box H' b g m (c + 101) → Keep b g H H' → Q (.ref p) H'
theorem ok_ballots {f fT fN : Addr} {fd fdT fdN : FuncData} {k : Nat} (F : Fun K "_law_ballots" "_law_ballots" sBs f fd) (T : Bl mg)
    (FT : Fun K "_law_take" "_law_take" sTake fT fdT) (bT : Binds K fdT ["_law_box_here", "_law_size"] []) (gT : mg "_law_take" = some (.ref fT)) (GT : FnOk P w K mg base CX0 k fT fdT ["_law_box_here", "_law_size"] spTake)
    (FN : Fun K "_law_names" "_law_names" sNames fN fdN) (bN : Binds K fdN ["_law_box_here", "_law_many"] []) (gN : mg "_law_names" = some (.ref fN)) (GN : FnOk P w K mg base CX0 k fN fdN ["_law_box_here", "_law_many"] spNames) :
    FnOk P w K mg base CX0 (k + 1) f fd ["_law_box_here", "_law_many"] spBs := by
  refine F.ok scBs (fun vs H Q E h => ?_) (fun cdv A outer s H vs Q E hr h => ?_)
  · obtain ⟨b, g, m, c, rfl, _⟩ := h
    rfl
  · obtain ⟨b, g, m, c, rfl, B, hc, q⟩ := h
    refine ⟨_, pss_cons (ps_set (i := 2) scBs.nd rfl (Or.inl rfl) (pe_lst pa_nil))
      (pss_cons (ps_for PassesOwn.never rfl (pi_range1 rfl T.rng (pa_cons (pv 1) pa_nil)) (pg_name (i := 3) scBs.nd rfl (Or.inl rfl))
        (pss_cons (ps_set (i := 4) scBs.nd rfl (Or.inl rfl) (pe_tup (pa_cons (pe_call GT hr (by rfl) gT FT.kp bT .nil pass0 (pa_cons (pv 0) (pa_cons pe_int pa_nil))) (pa_cons (pe_ix ix_list (pe_call GN hr (by rfl) gN FN.kp bN .nil pass0 (pa_cons (pv 0) (pa_cons pe_int pa_nil))) pe_int (fun _ _ => rfl)) pa_nil))))
        (pss_cons (ps_if (PW.pt (pw_and (pt_cmpR op_gt (pe_callB call_len_seq (by rfl) T.len PySem.boot_len (pa_cons (pv 2) pa_nil)) pe_int (nomark _)) (pw_and1 (pt_cmpR op_eq (pe_call GT hr (by rfl) gT FT.kp bT .nil pass0 (pa_cons (pv 0) (pa_cons pe_int pa_nil))) pe_int (nomark _)))))
          (pss_one (ps_set (i := 4) scBs.nd rfl (Or.inl rfl) (pe_ix ix_list (pe_lst (pa_cons (pe_tup (pa_cons (pe_ix ix_tup (pe_ix ix_list (pv 2) (pe_un un_neg pe_int) (fun _ _ => rfl)) pe_int (fun _ _ => rfl)) (pa_cons (pe_ix ix_tup (pv 4) pe_int (fun _ _ => rfl)) pa_nil)))
            (pa_cons (pe_tup (pa_cons (pe_ix ix_tup (pv 4) pe_int (fun _ _ => rfl)) (pa_cons (pe_ix ix_tup (pe_ix ix_list (pv 2) (pe_un un_neg pe_int) (fun _ _ => rfl)) pe_int (fun _ _ => rfl)) pa_nil))) pa_nil))) (pe_call GT hr (by rfl) gT FT.kp bT .nil pass0 (pa_cons (pv 0) (pa_cons pe_int pa_nil))) (fun _ _ => rfl)))) pss_nil)
        (pss_one (ps_expr (pe_bm PySem.F.plainAttrs_list PySem.F.slot_list_append PySem.F.type_list_append mt_append (pv 2) (pa_cons (pv 4) pa_nil)))))))
      (pss_one (ps_ret (pv 2)))), ?_⟩
    refine ⟨Nat.zero_le _, fun p np => ?_⟩
    have wp := B.away np
    have s1 := same_new (o := .lst []) np
    have hp1 : (upd H p (.lst [])) p = some (.lst []) := upd_same
    generalize upd H p (.lst []) = H1 at s1 hp1 ⊢
    have B1 := B.same s1
    refine ⟨.int 1, rfl, 1, rfl, by decide, by decide, for_range (lo := 0) (n := 1) (fun i σ H2 => ∃ (y3 y4 : Option V), σ = [some (.ref b), some (.int 1), some (.ref p), y3, y4] ∧ Keep b g H H2 ∧
      (i = 0 → Box H2 b g m c ∧ H2 p = some (.lst [])) ∧ (i = 1 → Box H2 b g m (c + 101) ∧ ∃ (t : Addr) (u : Int) (x : Str), Away b g t ∧ H2 p = some (.lst [.ref t]) ∧ H2 t = some (.tup [.int u, .str x]) ∧ 0 ≤ u ∧ u < 7 ∧ Nm x)) ?_ ?_ ?_⟩
    · exact ⟨none, none, rfl, Same.keep s1, fun _ => ⟨B1, hp1⟩, fun e => by cases e⟩
    · rintro i σ H2 hi ⟨y3, y4, rfl, K2, z0, _⟩
      obtain rfl : i = 0 := by omega
      obtain ⟨B2, hp2⟩ := z0 rfl
      refine ⟨.ref b, rfl, b, g, m, c, 7, rfl, B2, by omega, by decide, by decide, fun u H3 u0 u7 B3 K3 => ?_⟩
      refine ⟨.ref b, rfl, b, g, m, c + 1, 1, rfl, B3, by omega, by decide, fun l xs H4 nl hl xl nd nm B4 K4 => ?_⟩
      obtain ⟨x, rfl⟩ : ∃ x, xs = [x] := by
        match xs, xl with
        | [x], _ => exact ⟨x, rfl⟩
      refine ⟨l, _, 0, .str x, rfl, rfl, SqL.of hl, rfl, by show 2 ≤ sizeLine; decide, fun t nt => ?_⟩
      have wt := B4.away nt
      have s5 := same_new (o := .tup [.int u, .str x]) nt
      have ht : (upd H4 t (.tup [.int u, .str x])) t = some (.tup [.int u, .str x]) := upd_same
      generalize upd H4 t (.tup [.int u, .str x]) = H5 at s5 ht ⊢
      have K25 : Keep b g H2 H5 := (K3.trans K4).trans (Same.keep s5)
      have hp5 := K25 _ _ hp2 wp.1 wp.2
      have B5 := B4.same s5
      refine ⟨.ref p, rfl, p, _, rfl, .inl (SqL.of hp5), _, _, rfl, rfl, _, rfl, iteF (iteF ?_)⟩
      refine ⟨.ref p, rfl, .inl ⟨rfl, _, SqL.of hp5⟩, .ref t, rfl, p, _, _, rfl, rfl, hp5, small1000 (Nat.zero_le _), ?_⟩
      have tp : t ≠ p := fun e => by
        rw [e, hp5] at ht
        cases ht
      refine ⟨_, _, rfl, fun d o e n1 n2 => ?_, fun e => by omega, fun _ => ⟨(B5.store wp.1 wp.2 (fun e => ?_)).more (by omega), t, u, x, wt, upd_same, ?_, u0, u7, nm x List.mem_cons_self⟩⟩
      · rw [upd_ne (ne_of_none e np)]
        exact K25 _ _ (K2 _ _ e n1 n2) n1 n2
      · obtain ⟨o3, h3⟩ := B.m_in
        exact ne_of_none h3 np e.symm
      · rw [upd_ne tp]
        exact ht
    · rintro σ H2 ⟨y3, y4, rfl, K2, _, z1⟩
      obtain ⟨B2, t, u, x, wt, h1, h2, u0, u7, nx⟩ := z1 rfl
      exact ⟨.ref p, rfl, q p t u x H2 wp wt h1 h2 u0 u7 nx B2 K2⟩
end
end Moot
namespace Moot
open PySem PySem.Spec PyProof.Rows L2
theorem Nm.bs {x : Str} (h : Nm x) : Bs (.str x) := ⟨by have := h.hi; omega, fun c mc => by have := (h.low c mc).2; omega⟩
section
variable {P : Program} {w : World} {K : PySem.W.Frag} {mg : Str → Option Value} {base : Heap}
/-! law -/
abbrev sLaw : Stmt := top 22
abbrev nLaw : List Str := ["_law_script", "_law_box_here", "_law_turn", "_law_value", "_law_found", "_law_due", "_law_k"]
theorem scLaw : FnScope nLaw ["_law_script"] (defScope sLaw) := ⟨rfl, rfl, rfl, by decide +kernel, rfl, by decide +kernel, by decide +kernel⟩
def spLaw (K : PySem.W.Frag) : Sp := fun vs H Q _ => ∃ (a : Addr) (ns : List Int), vs = [.ref a] ∧ SqL K H a (ns.map V.int) ∧ ns.length ≤ 63 ∧ ∀ H', Q (.bl true) H'
theorem ok_law {f f1 f2 f3 f4 f5 f6 f7 f8 f9 : Addr} {fd fd1 fd2 fd3 fd4 fd5 fd6 fd7 fd8 fd9 : FuncData} {k : Nat} (F : Fun K "law" "law" sLaw f fd) (T : Bl mg)
    (FB : Fun K "_law_box" "_law_box" sBox f1 fd1) (bB : Binds K fd1 ["_law_script"] []) (gB : mg "_law_box" = some (.ref f1)) (GB : FnOk P w K mg base CX0 k f1 fd1 ["_law_script"] (spBox K))
    (FT : Fun K "_law_take" "_law_take" sTake f2 fd2) (bT : Binds K fd2 ["_law_box_here", "_law_size"] []) (gT : mg "_law_take" = some (.ref f2)) (GT : FnOk P w K mg base CX0 k f2 fd2 ["_law_box_here", "_law_size"] spTake)
    (FS : Fun K "_law_ballots" "_law_ballots" sBs f3 fd3) (bS : Binds K fd3 ["_law_box_here", "_law_many"] []) (gS : mg "_law_ballots" = some (.ref f3)) (GS : FnOk P w K mg base CX0 k f3 fd3 ["_law_box_here", "_law_many"] spBs)
    (FA : Fun K "_law_any" "_law_any" sAny f4 fd4) (bA : Binds K fd4 ["_law_box_here"] []) (gA : mg "_law_any" = some (.ref f4)) (GA : FnOk P w K mg base CX0 k f4 fd4 ["_law_box_here"] spAny)
    (FC : Fun K "_law_changed" "_law_changed" sCh f5 fd5) (bC : Binds K fd5 ["_law_box_here", "_law_value"] []) (gC : mg "_law_changed" = some (.ref f5)) (GC : FnOk P w K mg base CX0 k f5 fd5 ["_law_box_here", "_law_value"] (spCh 3))
    (FI : Fun K "is_ballot" "is_ballot" sBal f6 fd6) (bI : Binds K fd6 ["value"] []) (gI : mg "is_ballot" = some (.ref f6)) (GI : FnOk P w K mg base CX0 k f6 fd6 ["value"] (spD isBalD fun _ => True))
    (FJ : Fun K "_law_is_ballot" "_law_is_ballot" sLb f7 fd7) (bJ : Binds K fd7 ["_law_value"] []) (gJ : mg "_law_is_ballot" = some (.ref f7)) (GJ : FnOk P w K mg base CX0 k f7 fd7 ["_law_value"] (spD isBalD fun _ => True))
    (FK : Fun K "is_statement" "is_statement" sSt f8 fd8) (bK : Binds K fd8 ["value"] []) (gK : mg "is_statement" = some (.ref f8)) (GK : FnOk P w K mg base CX0 k f8 fd8 ["value"] (spD isStD fun d => d.depth ≤ 64))
    (FL : Fun K "_law_is_statement" "_law_is_statement" sLs f9 fd9) (bL : Binds K fd9 ["_law_value"] []) (gL : mg "_law_is_statement" = some (.ref f9)) (GL : FnOk P w K mg base CX0 k f9 fd9 ["_law_value"] (spD isStD fun _ => True)) :
    FnOk P w K mg base CX0 (k + 1) f fd ["_law_script"] (spLaw K) := by
  refine F.ok scLaw (fun vs H Q E h => ?_) (fun cdv A outer s H vs Q E hr h => ?_)
  · obtain ⟨a, ns, rfl, _⟩ := h
    rfl
  · obtain ⟨a, ns, rfl, hS, len, q⟩ := h
    refine ⟨_, pss_cons (ps_set (i := 1) scLaw.nd rfl (Or.inl rfl) (pe_call GB hr (by rfl) gB FB.kp bB .nil pass0 (pa_cons (pv 0) pa_nil)))
      (pss_cons (ps_for PassesOwn.never rfl (pi_range1 rfl T.rng (pa_cons (pe_op op_add pe_int (pe_call GT hr (by rfl) gT FT.kp bT .nil pass0 (pa_cons (pv 1) (pa_cons pe_int pa_nil)))) pa_nil)) (pg_name (i := 2) scLaw.nd rfl (Or.inl rfl))
        (pss_cons (ps_set (i := 3) scLaw.nd rfl (Or.inl rfl) (pe_tup (pa_cons (pe_ix ix_list (pe_call GS hr (by rfl) gS FS.kp bS .nil pass0 (pa_cons (pv 1) (pa_cons pe_int pa_nil))) pe_int (fun _ _ => rfl))
          (pa_cons (pe_ix ix_list (pe_lst (pa_cons pe_str (pa_cons pe_str pa_nil))) (pe_call GT hr (by rfl) gT FT.kp bT .nil pass0 (pa_cons (pv 1) (pa_cons pe_int pa_nil))) (fun _ _ => rfl)) pa_nil))))
        (pss_cons (ps_set (i := 3) scLaw.nd rfl (Or.inl rfl) (pe_ix ix_list (pe_lst (pa_cons (pv 3) (pa_cons (pv 3) (pa_cons (pe_ix ix_tup (pv 3) pe_int (fun _ _ => rfl)) (pa_cons (pe_call GA hr (by rfl) gA FA.kp bA .nil pass0 (pa_cons (pv 1) pa_nil)) pa_nil)))))
          (pe_call GT hr (by rfl) gT FT.kp bT .nil pass0 (pa_cons (pv 1) (pa_cons pe_int pa_nil))) (fun _ _ => rfl)))
        (C8.pss_cut (ps_if (pt_cmpR op_gt (pe_call GT hr (by rfl) gT FT.kp bT .nil pass0 (pa_cons (pv 1) (pa_cons pe_int pa_nil))) pe_int (nomark _))
          (pss_one (ps_set (i := 3) scLaw.nd rfl (Or.inl rfl) (pe_call GC hr (by rfl) gC FC.kp bC .nil pass0 (pa_cons (pv 1) (pa_cons (pv 3) pa_nil))))) pss_nil)
        (pss_one (ps_for PassesOwn.never rfl (pi_list (pe_lst (pa_cons (pe_tup (pa_cons (pe_call GI hr (by rfl) gI FI.kp bI .nil pass0 (pa_cons (pv 3) pa_nil)) (pa_cons (pe_call GJ hr (by rfl) gJ FJ.kp bJ .nil pass0 (pa_cons (pv 3) pa_nil)) pa_nil)))
            (pa_cons (pe_tup (pa_cons (pe_call GK hr (by rfl) gK FK.kp bK .nil pass0 (pa_cons (pv 3) pa_nil)) (pa_cons (pe_call GL hr (by rfl) gL FL.kp bL .nil pass0 (pa_cons (pv 3) pa_nil)) pa_nil))) pa_nil))))
          (pg_tup (by rfl) (pgs_cons (pg_name (i := 4) scLaw.nd rfl (Or.inl rfl)) (pgs_cons (pg_name (i := 5) scLaw.nd rfl (Or.inl rfl)) pgs_nil)))
          (pss_one (ps_if (PW.pt (pw_or (pt_not (pt_val (pe_callB call_isi (by rfl) T.isi (by decide +kernel) (pa_cons (pv 4) (pa_cons (pe_bltn (v := .ty "bool") (by rfl) T.bool (by decide +kernel) rfl) pa_nil))))) (pw_or1 (pt_cmpR op_ne (pv 4) (pv 5) (nomark _)))))
            (pss_one (ps_ret pe_bl)) pss_nil))))))))
      (pss_cons (ps_for PassesOwn.never rfl (pi_range1 rfl T.rng (pa_cons pe_int pa_nil)) (pg_name (i := 6) scLaw.nd rfl (Or.inl rfl))
        (pss_one (ps_set (i := 3) scLaw.nd rfl (Or.inl rfl) (pe_ix ix_list (pe_lst (pa_cons (pe_tup (pa_cons (pv 3) pa_nil)) (pa_cons (pe_lst (pa_cons (pv 3) pa_nil)) pa_nil))) (pe_call GT hr (by rfl) gT FT.kp bT .nil pass0 (pa_cons (pv 1) (pa_cons pe_int pa_nil))) (fun _ _ => rfl)))))
      (pss_one (ps_ret (pe_and (pe_cmpR op_isBl (pe_call GI hr (by rfl) gI FI.kp bI .nil pass0 (pa_cons (pv 3) pa_nil)) pe_bl (nomark _)) (pe_one (pe_cmpR op_isBl (pe_call GK hr (by rfl) gK FK.kp bK .nil pass0 (pa_cons (pv 3) pa_nil)) pe_bl (nomark _)))))))), ?_⟩
    refine ⟨.ref a, rfl, a, ns, rfl, hS, len, fun H1 b g m s1 B1 => ?_⟩
    refine ⟨.ref b, rfl, b, g, m, 0, 31, rfl, B1, by decide, by decide, by decide, fun v0 H2 a0 a1 B2 K2 => ⟨_, _, rfl, rfl, 10 + v0, rfl, by omega, by omega, ?_⟩⟩
    refine for_range (lo := 0) (n := (10 + v0).toNat) (fun i σ H3 => ∃ (y2 y3 y4 y5 : Option V), σ = [some (.ref a), some (.ref b), y2, y3, y4, y5, none] ∧ Box H3 b g m (1 + 200 * i) ∧ (0 < i → ∃ v, y3 = some v ∧ SmV b g H3 6 v)) ?_ ?_ ?_
    · exact ⟨none, none, none, none, rfl, B2.more (by omega), fun h => absurd h (by decide)⟩
    · rintro i σ H3 hi ⟨y2, y3, y4, y5, rfl, B3, _⟩
      have hi41 : i < 41 := by omega
      refine ⟨.ref b, rfl, b, g, m, _, rfl, B3, by omega, fun p t u x H4 wp wt hp ht u0 u7 nx B4 K4 => ?_⟩
      refine ⟨p, _, 0, .ref t, rfl, rfl, SqL.of hp, rfl, by show 2 ≤ sizeLine; decide, fun l1 nl1 => ?_⟩
      have wl1 := B4.away nl1
      have s5 := same_new (o := .lst [.str "commit", .str "abort"]) nl1
      have hl1 : (upd H4 l1 (.lst [.str "commit", .str "abort"])) l1 = some (.lst [.str "commit", .str "abort"]) := upd_same
      generalize upd H4 l1 (.lst [.str "commit", .str "abort"]) = H5 at s5 hl1 ⊢
      refine ⟨.ref b, rfl, b, g, m, _, 2, rfl, B4.same s5, by omega, by decide, by decide, fun v1 H6 c0 c1 B6 K6 => ?_⟩
      have ans : ∃ z : Str, atI [V.str "commit", V.str "abort"] v1 = some (.str z) ∧ Bs (.str z) := by
        have : v1 = 0 ∨ v1 = 1 := by omega
        rcases this with rfl | rfl
        · exact ⟨"commit", rfl, by decide +kernel, by decide +kernel⟩
        · exact ⟨"abort", rfl, by decide +kernel, by decide +kernel⟩
      obtain ⟨z, hz, bz⟩ := ans
      refine ⟨l1, _, v1, .str z, rfl, rfl, SqL.of (K6 _ _ hl1 wl1.1 wl1.2), hz, by show 2 ≤ sizeLine; decide, fun p2 np2 => ?_⟩
      have w2 := B6.away np2
      have s7 := same_new (o := .tup [.ref t, .str z]) np2
      have h2 : (upd H6 p2 (.tup [.ref t, .str z])) p2 = some (.tup [.ref t, .str z]) := upd_same
      generalize upd H6 p2 (.tup [.ref t, .str z]) = H7 at s7 h2 ⊢
      have B7 := B6.same s7
      have ht7 : H7 t = some (.tup [.int u, .str x]) := s7 _ _ (K6 _ _ (s5 _ _ ht) wt.1 wt.2)
      have lim : -limI < u ∧ u < limI := by unfold limI; omega
      have dB : Dv b g H7 (.tuple [.int u, .str x]) (.ref t) := ⟨t, _, rfl, wt.1, wt.2, ht7, _, _, rfl, rfl, _, _, rfl, rfl, rfl⟩
      have bB : Bs (.tuple [.int u, .str x]) := ⟨by show 2 ≤ 2; decide, lim, nx.bs, trivial⟩
      have vB : BV b g H7 3 (.ref t) := ⟨_, dB, bB, by show max 0 (max 0 0) + 1 < 3; decide⟩
      have vS : BV b g H7 3 (.ref p2) := ⟨.tuple [.tuple [.int u, .str x], .str z], ⟨p2, _, rfl, w2.1, w2.2, h2, _, _, rfl, dB, _, _, rfl, rfl, rfl⟩, ⟨by show 2 ≤ 2; decide, bB, bz, trivial⟩, by show max (max 0 (max 0 0) + 1) (max 0 0) + 1 < 3; decide⟩
      refine ⟨.ref p2, rfl, .ref p2, rfl, .ref p2, rfl, p2, _, 0, .ref t, rfl, rfl, SqT.of h2, rfl, .ref b, rfl, b, g, m, _, rfl, B7, by omega, fun v2 H8 dr B8 K8 => ⟨by show 4 ≤ sizeLine; decide, fun l2 nl2 => ?_⟩⟩
      have wl2 := B8.away nl2
      have s9 := same_new (o := .lst [.ref p2, .ref p2, .ref t, v2]) nl2
      have hl2 : (upd H8 l2 (.lst [.ref p2, .ref p2, .ref t, v2])) l2 = some (.lst [.ref p2, .ref p2, .ref t, v2]) := upd_same
      generalize upd H8 l2 (.lst [.ref p2, .ref p2, .ref t, v2]) = H9 at s9 hl2 ⊢
      refine ⟨.ref b, rfl, b, g, m, _, 4, rfl, B8.same s9, by omega, by decide, by decide, fun v3 H10 d0 d1 B10 K10 => ?_⟩
      have k8 : Keep b g H8 H10 := (Same.keep s9).trans K10
      have k7 : Keep b g H7 H10 := K8.trans k8
      have pick : ∃ v, atI [V.ref p2, V.ref p2, V.ref t, v2] v3 = some v ∧ BV b g H10 3 v := by
        have : v3 = 0 ∨ v3 = 1 ∨ v3 = 2 ∨ v3 = 3 := by omega
        rcases this with rfl | rfl | rfl | rfl
        · exact ⟨_, rfl, vS.keep k7⟩
        · exact ⟨_, rfl, vS.keep k7⟩
        · exact ⟨_, rfl, vB.keep k7⟩
        · exact ⟨_, rfl, dr.bv.keep k8⟩
      obtain ⟨v, hv, bv⟩ := pick
      refine ⟨l2, _, v3, v, rfl, rfl, SqL.of (K10 _ _ hl2 wl2.1 wl2.2), hv, ?_⟩
      -- changed, or not
      refine ⟨fun σ H11 => ∃ v', σ = [some (.ref a), some (.ref b), some (.int (0 + (i : Int))), some v', y4, y5, none] ∧ Box H11 b g m (1 + 200 * (i + 1)) ∧ SmV b g H11 6 v', ?_, ?_⟩
      · refine ⟨.ref b, rfl, b, g, m, _, 3, rfl, B10, by omega, by decide, by decide, fun v4 H11 e0 e1 B11 K11 => ⟨_, _, rfl, rfl, _, rfl, ?_⟩⟩
        refine ite2 (fun _ => ?_) (fun _ => ?_)
        · exact ⟨.ref b, rfl, v, rfl, b, g, m, _, v, rfl, B11, by omega, bv.keep K11, fun v' H12 sv B12 K12 => ⟨v', rfl, B12.more (by omega), sv⟩⟩
        · exact ⟨v, rfl, B11.more (by omega), (bv.keep K11).sm.more (by decide)⟩
      · rintro σ H11 ⟨v', rfl, B11, d, dv, sm, dp⟩
        refine ⟨v', rfl, b, g, d, v', rfl, dv, sm, trivial, fun H12 s12 => ?_⟩
        refine ⟨v', rfl, b, g, d, v', rfl, Dv.keep (Same.keep s12) d v' dv, sm, trivial, fun H13 s13 => ⟨by show 2 ≤ sizeLine; decide, fun t1 nt1 => ?_⟩⟩
        have s14 := same_new (o := .tup [.bl (isBalD d), .bl (isBalD d)]) nt1
        have ht1 : (upd H13 t1 (.tup [.bl (isBalD d), .bl (isBalD d)])) t1 = some (.tup [.bl (isBalD d), .bl (isBalD d)]) := upd_same
        generalize upd H13 t1 (.tup [.bl (isBalD d), .bl (isBalD d)]) = H14 at s14 ht1 ⊢
        have s11 : Same H11 H14 := (s12.trans s13).trans s14
        refine ⟨v', rfl, b, g, d, v', rfl, Dv.keep (Same.keep s11) d v' dv, sm, by omega, fun H15 s15 => ?_⟩
        refine ⟨v', rfl, b, g, d, v', rfl, Dv.keep (Same.keep (s11.trans s15)) d v' dv, sm, trivial, fun H16 s16 => ⟨by show 2 ≤ sizeLine; decide, fun t2 nt2 => ⟨by show 2 ≤ sizeLine; decide, fun l3 nl3 => ?_⟩⟩⟩
        have s17 := same_new (o := .tup [.bl (isStD d), .bl (isStD d)]) nt2
        have s18 := same_new (o := .lst [.ref t1, .ref t2]) nl3
        have hl3 : (upd (upd H16 t2 (.tup [.bl (isStD d), .bl (isStD d)])) l3 (.lst [.ref t1, .ref t2])) l3 = some (.lst [.ref t1, .ref t2]) := upd_same
        have ht2 := s18 _ _ (show (upd H16 t2 (.tup [.bl (isStD d), .bl (isStD d)])) t2 = some (.tup [.bl (isStD d), .bl (isStD d)]) from upd_same)
        have ht1' := s18 _ _ (s17 _ _ (s16 _ _ (s15 _ _ ht1)))
        have sAll : Same H11 _ := (((s11.trans s15).trans s16).trans s17).trans s18
        generalize upd (upd H16 t2 (.tup [.bl (isStD d), .bl (isStD d)])) l3 (.lst [.ref t1, .ref t2]) = H18 at hl3 ht2 ht1' sAll ⊢
        refine ⟨l3, rfl, ⟨_, SqL.of hl3⟩, for_list (K := K) (a := l3) (xs := [.ref t1, .ref t2]) (fun j σ H19 => H19 = H18 ∧ ∃ (z4 z5 : Option V), σ = [some (.ref a), some (.ref b), some (.int (0 + (i : Int))), some v', z4, z5, none]) ?_ ?_ ?_ ?_⟩
        · exact ⟨rfl, y4, y5, rfl⟩
        · rintro j σ H19 _ ⟨rfl, _⟩
          exact SqL.of hl3
        · rintro j y σ H19 hy ⟨rfl, z4, z5, rfl⟩
          have tell : ∃ (t : Addr) (r : Bool), y = .ref t ∧ H19 t = some (.tup [.bl r, .bl r]) := by
            match j, hy with
            | 0, hy => exact ⟨t1, _, (Option.some.inj hy).symm, ht1'⟩
            | 1, hy => exact ⟨t2, _, (Option.some.inj hy).symm, ht2⟩
          obtain ⟨t3, r, rfl, ht3⟩ := tell
          refine ⟨t3, _, rfl, SqT.of ht3, rfl, _, _, rfl, _, _, rfl, rfl, ?_⟩
          refine ⟨.bl r, rfl, _, _, .type "bool", .type "bool", true, rfl, .ty _, .base (.bl r), kit_ty (r := true) (by decide +kernel), _, rfl, iteF ?_⟩
          refine ⟨.bl r, rfl, .bl r, rfl, rfl, _, rfl, ?_⟩
          have e : (decide (V.bl r = V.bl r)) = true := decide_eq_true rfl
          rw [e]
          exact iteF ⟨rfl, _, _, rfl⟩
        · rintro σ H19 ⟨rfl, z4, z5, rfl⟩
          exact ⟨_, _, _, _, rfl, B11.same sAll, fun _ => ⟨v', rfl, d, Dv.keep (Same.keep sAll) d v' dv, sm, dp⟩⟩
    · rintro σ H3 ⟨y2, y3, y4, y5, rfl, B3, some1⟩
      obtain ⟨v, rfl, sv⟩ := some1 (by omega)
      have few : (10 + v0).toNat ≤ 41 := by omega
      refine ⟨30, rfl, by decide, by decide, for_range (lo := 0) (n := 30) (fun i σ H4 => ∃ (y6 : Option V) (v' : V), σ = [some (.ref a), some (.ref b), y2, some v', y4, y5, y6] ∧ Box H4 b g m (10000 + i) ∧ SmV b g H4 (6 + i) v' ∧
        (0 < i → ∃ p x, v' = .ref p ∧ p ≠ b ∧ p ≠ g ∧ (H4 p = some (.tup [x]) ∨ H4 p = some (.lst [x])))) ?_ ?_ ?_⟩
      · exact ⟨none, v, rfl, B3.more (by omega), sv, fun h => absurd h (by decide)⟩
      · rintro i σ H4 hi ⟨y6, v', rfl, B4, sv4, _⟩
        refine ⟨v', rfl, by show 1 ≤ sizeLine; decide, fun t1 nt1 => ?_⟩
        have w1 := B4.away nt1
        have s5 := same_new (o := .tup [v']) nt1
        have h1 : (upd H4 t1 (.tup [v'])) t1 = some (.tup [v']) := upd_same
        generalize upd H4 t1 (.tup [v']) = H5 at s5 h1 ⊢
        have B5 := B4.same s5
        refine ⟨v', rfl, by show 1 ≤ sizeLine; decide, fun l1 nl1 => ?_⟩
        have w2 := B5.away nl1
        have s6 := same_new (o := .lst [v']) nl1
        have h2 : (upd H5 l1 (.lst [v'])) l1 = some (.lst [v']) := upd_same
        generalize upd H5 l1 (.lst [v']) = H6 at s6 h2 ⊢
        have B6 := B5.same s6
        refine ⟨by show 2 ≤ sizeLine; decide, fun l2 nl2 => ?_⟩
        have w3 := B6.away nl2
        have s7 := same_new (o := .lst [.ref t1, .ref l1]) nl2
        have h3 : (upd H6 l2 (.lst [.ref t1, .ref l1])) l2 = some (.lst [.ref t1, .ref l1]) := upd_same
        generalize upd H6 l2 (.lst [.ref t1, .ref l1]) = H7 at s7 h3 ⊢
        refine ⟨.ref b, rfl, b, g, m, _, 2, rfl, B6.same s7, by omega, by decide, by decide, fun v5 H8 e0 e1 B8 K8 => ?_⟩
        have k6 : Keep b g H6 H8 := (Same.keep s7).trans K8
        have k5 : Keep b g H5 H8 := (Same.keep s6).trans k6
        have k4 : Keep b g H4 H8 := (Same.keep s5).trans k5
        have one : ∀ x ∈ [v'], SmV b g H8 (6 + i) x := fun x mx => by
          rw [List.mem_singleton.mp mx]
          exact sv4.keep k4
        have a1 := k5 _ _ h1 w1.1 w1.2
        have a2 := k6 _ _ h2 w2.1 w2.2
        have pick : ∃ y, atI [V.ref t1, V.ref l1] v5 = some y ∧ SmV b g H8 (6 + (i + 1)) y ∧ ∃ p x, y = .ref p ∧ p ≠ b ∧ p ≠ g ∧ (H8 p = some (.tup [x]) ∨ H8 p = some (.lst [x])) := by
          have : v5 = 0 ∨ v5 = 1 := by omega
          rcases this with rfl | rfl
          · exact ⟨_, rfl, SmV.tup w1 a1 (by show 1 ≤ 100; decide) one, t1, v', rfl, w1.1, w1.2, .inl a1⟩
          · exact ⟨_, rfl, SmV.lst w2 a2 (by show 1 ≤ 100; decide) one, l1, v', rfl, w2.1, w2.2, .inr a2⟩
        obtain ⟨y, hy, sy, ey⟩ := pick
        exact ⟨l2, _, v5, y, rfl, rfl, SqL.of (K8 _ _ h3 w3.1 w3.2), hy, _, y, rfl, B8.more (by omega), sy, fun _ => ey⟩
      · rintro σ H4 ⟨y6, v', rfl, B4, ⟨d, dv, sm, dp⟩, last⟩
        obtain ⟨p, x, rfl, n1, n2, hp⟩ := last (by decide)
        have no : isBalD d = false ∧ isStD d = false := by
          cases d with
          | tuple ds =>
            obtain ⟨p', xs, e, _, _, h', al⟩ := dv
            cases e
            have l1 : ds.length = 1 := by
              have := al.length
              rcases hp with hp | hp
              · rw [hp] at h'
                cases h'
                exact this.symm
              · rw [hp] at h'
                cases h'
            exact ⟨isBalD_len (by omega), isStD_len (by omega)⟩
          | _ => exact ⟨rfl, rfl⟩
        refine ⟨.ref p, rfl, b, g, d, .ref p, rfl, dv, sm, trivial, fun H5 s5 => ?_⟩
        rw [no.1]
        refine ⟨_, _, rfl, rfl, _, rfl, iteT ?_⟩
        refine ⟨.ref p, rfl, b, g, d, .ref p, rfl, Dv.keep (Same.keep s5) d _ dv, sm, by omega, fun H6 s6 => ?_⟩
        rw [no.2]
        exact ⟨_, _, rfl, rfl, q H6⟩
end
end Moot
namespace Moot
open PySem PySem.Spec PyProof.Rows L2
theorem fn_never {P : Program} {w : World} {K : PySem.W.Frag} {mg : Str → Option Value} {base : Heap} {CX : CXT} {f : Addr} {fd : FuncData} {ps : List Str} {sp : Sp} (k : Nat) (h : ∀ vs H Q E, ¬ sp vs H Q E) : FnOk P w K mg base CX k f fd ps sp :=
  ⟨fun vs H Q E y => absurd y (h vs H Q E), fun _ _ _ H _ _ vs Q E _ _ _ _ y => absurd y (h vs H Q E)⟩
/-! what the top has written -/
theorem all_mk {l : PySem.W.OpenLaw} {w : World} {K : PySem.W.Frag} {h : Heap} {mg : Str → Option Value} {fa aA f_isn f_who f_bal f_ans f_sta f_box f_mix f_take f_nam f_bas f_lnm f_lbl f_lst f_any f_chg f_law : Addr} (X : K.In h) (G : h.Ns mainGlobals mg) (hfa : mg "law" = some (.ref fa))
    {od_isn an_isn od_who an_who od_bal an_bal od_ans an_ans od_sta an_sta od_box an_box od_mix an_mix od_take an_take od_nam an_nam od_bas an_bas od_lnm an_lnm od_lbl an_lbl od_lst an_lst od_any an_any od_chg an_chg od_law an_law : Option Addr} {sl_isn sl_who sl_bal sl_ans sl_sta sl_box sl_mix sl_take sl_nam sl_bas sl_lnm sl_lbl sl_lst sl_any sl_chg sl_law : Array (Option Value)} {oc_isn kV_isn dc_isn pm_isn cd_isn ct_isn oc_who kV_who dc_who pm_who cd_who ct_who oc_bal kV_bal dc_bal pm_bal cd_bal ct_bal oc_ans kV_ans dc_ans pm_ans cd_ans ct_ans oc_sta kV_sta dc_sta pm_sta cd_sta ct_sta oc_box kV_box dc_box pm_box cd_box ct_box oc_mix kV_mix dc_mix pm_mix cd_mix ct_mix oc_take kV_take dc_take pm_take cd_take ct_take oc_nam kV_nam dc_nam pm_nam cd_nam ct_nam oc_bas kV_bas dc_bas pm_bas cd_bas ct_bas oc_lnm kV_lnm dc_lnm pm_lnm cd_lnm ct_lnm oc_lbl kV_lbl dc_lbl pm_lbl cd_lbl ct_lbl oc_lst kV_lst dc_lst pm_lst cd_lst ct_lst oc_any kV_any dc_any pm_any cd_any ct_any oc_chg kV_chg dc_chg pm_chg cd_chg ct_chg oc_law kV_law dc_law pm_law cd_law ct_law : Value}
    {tA tB tC tD tE : Tok} {ddA : Option Addr} {nA : Nat} {slA : Array (Option Value)}
    (a_isn : PySem.W.nsIn K mainGlobals "is_name" = some (some (.ref f_isn)))
    (l_isn : K.lookup f_isn = some ⟨oc_isn, od_isn, .func (PySem.W.fnOf "is_name" "is_name" (defArgs sIn) (defBody sIn) (defScope sIn) .none kV_isn dc_isn pm_isn an_isn cd_isn ct_isn), sl_isn⟩) (c_isn : PySem.W.codeIn K cd_isn "is_name" = true) (k_isn : PySem.W.keepIn K (.ref f_isn) = true)
    (a_who : PySem.W.nsIn K mainGlobals "is_whole_number" = some (some (.ref f_who)))
    (l_who : K.lookup f_who = some ⟨oc_who, od_who, .func (PySem.W.fnOf "is_whole_number" "is_whole_number" (defArgs sWh) (defBody sWh) (defScope sWh) .none kV_who dc_who pm_who an_who cd_who ct_who), sl_who⟩) (c_who : PySem.W.codeIn K cd_who "is_whole_number" = true) (k_who : PySem.W.keepIn K (.ref f_who) = true)
    (a_bal : PySem.W.nsIn K mainGlobals "is_ballot" = some (some (.ref f_bal)))
    (l_bal : K.lookup f_bal = some ⟨oc_bal, od_bal, .func (PySem.W.fnOf "is_ballot" "is_ballot" (defArgs sBal) (defBody sBal) (defScope sBal) .none kV_bal dc_bal pm_bal an_bal cd_bal ct_bal), sl_bal⟩) (c_bal : PySem.W.codeIn K cd_bal "is_ballot" = true) (k_bal : PySem.W.keepIn K (.ref f_bal) = true)
    (a_ans : PySem.W.nsIn K mainGlobals "is_answer" = some (some (.ref f_ans)))
    (l_ans : K.lookup f_ans = some ⟨oc_ans, od_ans, .func (PySem.W.fnOf "is_answer" "is_answer" (defArgs sAns) (defBody sAns) (defScope sAns) .none kV_ans dc_ans pm_ans an_ans cd_ans ct_ans), sl_ans⟩) (c_ans : PySem.W.codeIn K cd_ans "is_answer" = true) (k_ans : PySem.W.keepIn K (.ref f_ans) = true)
    (a_sta : PySem.W.nsIn K mainGlobals "is_statement" = some (some (.ref f_sta)))
    (l_sta : K.lookup f_sta = some ⟨oc_sta, od_sta, .func (PySem.W.fnOf "is_statement" "is_statement" (defArgs sSt) (defBody sSt) (defScope sSt) .none kV_sta dc_sta pm_sta an_sta cd_sta ct_sta), sl_sta⟩) (c_sta : PySem.W.codeIn K cd_sta "is_statement" = true) (k_sta : PySem.W.keepIn K (.ref f_sta) = true)
    (a_box : PySem.W.nsIn K mainGlobals "_law_box" = some (some (.ref f_box)))
    (l_box : K.lookup f_box = some ⟨oc_box, od_box, .func (PySem.W.fnOf "_law_box" "_law_box" (defArgs sBox) (defBody sBox) (defScope sBox) .none kV_box dc_box pm_box an_box cd_box ct_box), sl_box⟩) (c_box : PySem.W.codeIn K cd_box "_law_box" = true) (k_box : PySem.W.keepIn K (.ref f_box) = true)
    (a_mix : PySem.W.nsIn K mainGlobals "_law_mixed" = some (some (.ref f_mix)))
    (l_mix : K.lookup f_mix = some ⟨oc_mix, od_mix, .func (PySem.W.fnOf "_law_mixed" "_law_mixed" (defArgs sMixed) (defBody sMixed) (defScope sMixed) .none kV_mix dc_mix pm_mix an_mix cd_mix ct_mix), sl_mix⟩) (c_mix : PySem.W.codeIn K cd_mix "_law_mixed" = true) (k_mix : PySem.W.keepIn K (.ref f_mix) = true)
    (a_take : PySem.W.nsIn K mainGlobals "_law_take" = some (some (.ref f_take)))
    (l_take : K.lookup f_take = some ⟨oc_take, od_take, .func (PySem.W.fnOf "_law_take" "_law_take" (defArgs sTake) (defBody sTake) (defScope sTake) .none kV_take dc_take pm_take an_take cd_take ct_take), sl_take⟩) (c_take : PySem.W.codeIn K cd_take "_law_take" = true) (k_take : PySem.W.keepIn K (.ref f_take) = true)
    (a_nam : PySem.W.nsIn K mainGlobals "_law_names" = some (some (.ref f_nam)))
    (l_nam : K.lookup f_nam = some ⟨oc_nam, od_nam, .func (PySem.W.fnOf "_law_names" "_law_names" (defArgs sNames) (defBody sNames) (defScope sNames) .none kV_nam dc_nam pm_nam an_nam cd_nam ct_nam), sl_nam⟩) (c_nam : PySem.W.codeIn K cd_nam "_law_names" = true) (k_nam : PySem.W.keepIn K (.ref f_nam) = true)
    (a_bas : PySem.W.nsIn K mainGlobals "_law_ballots" = some (some (.ref f_bas)))
    (l_bas : K.lookup f_bas = some ⟨oc_bas, od_bas, .func (PySem.W.fnOf "_law_ballots" "_law_ballots" (defArgs sBs) (defBody sBs) (defScope sBs) .none kV_bas dc_bas pm_bas an_bas cd_bas ct_bas), sl_bas⟩) (c_bas : PySem.W.codeIn K cd_bas "_law_ballots" = true) (k_bas : PySem.W.keepIn K (.ref f_bas) = true)
    (a_lnm : PySem.W.nsIn K mainGlobals "_law_is_name" = some (some (.ref f_lnm)))
    (l_lnm : K.lookup f_lnm = some ⟨oc_lnm, od_lnm, .func (PySem.W.fnOf "_law_is_name" "_law_is_name" (defArgs sLn) (defBody sLn) (defScope sLn) .none kV_lnm dc_lnm pm_lnm an_lnm cd_lnm ct_lnm), sl_lnm⟩) (c_lnm : PySem.W.codeIn K cd_lnm "_law_is_name" = true) (k_lnm : PySem.W.keepIn K (.ref f_lnm) = true)
    (a_lbl : PySem.W.nsIn K mainGlobals "_law_is_ballot" = some (some (.ref f_lbl)))
    (l_lbl : K.lookup f_lbl = some ⟨oc_lbl, od_lbl, .func (PySem.W.fnOf "_law_is_ballot" "_law_is_ballot" (defArgs sLb) (defBody sLb) (defScope sLb) .none kV_lbl dc_lbl pm_lbl an_lbl cd_lbl ct_lbl), sl_lbl⟩) (c_lbl : PySem.W.codeIn K cd_lbl "_law_is_ballot" = true) (k_lbl : PySem.W.keepIn K (.ref f_lbl) = true)
    (a_lst : PySem.W.nsIn K mainGlobals "_law_is_statement" = some (some (.ref f_lst)))
    (l_lst : K.lookup f_lst = some ⟨oc_lst, od_lst, .func (PySem.W.fnOf "_law_is_statement" "_law_is_statement" (defArgs sLs) (defBody sLs) (defScope sLs) .none kV_lst dc_lst pm_lst an_lst cd_lst ct_lst), sl_lst⟩) (c_lst : PySem.W.codeIn K cd_lst "_law_is_statement" = true) (k_lst : PySem.W.keepIn K (.ref f_lst) = true)
    (a_any : PySem.W.nsIn K mainGlobals "_law_any" = some (some (.ref f_any)))
    (l_any : K.lookup f_any = some ⟨oc_any, od_any, .func (PySem.W.fnOf "_law_any" "_law_any" (defArgs sAny) (defBody sAny) (defScope sAny) .none kV_any dc_any pm_any an_any cd_any ct_any), sl_any⟩) (c_any : PySem.W.codeIn K cd_any "_law_any" = true) (k_any : PySem.W.keepIn K (.ref f_any) = true)
    (a_chg : PySem.W.nsIn K mainGlobals "_law_changed" = some (some (.ref f_chg)))
    (l_chg : K.lookup f_chg = some ⟨oc_chg, od_chg, .func (PySem.W.fnOf "_law_changed" "_law_changed" (defArgs sCh) (defBody sCh) (defScope sCh) .none kV_chg dc_chg pm_chg an_chg cd_chg ct_chg), sl_chg⟩) (c_chg : PySem.W.codeIn K cd_chg "_law_changed" = true) (k_chg : PySem.W.keepIn K (.ref f_chg) = true)
    (a_law : PySem.W.nsIn K mainGlobals "law" = some (some (.ref f_law)))
    (l_law : K.lookup f_law = some ⟨oc_law, od_law, .func (PySem.W.fnOf "law" "law" (defArgs sLaw) (defBody sLaw) (defScope sLaw) .none kV_law dc_law pm_law an_law cd_law ct_law), sl_law⟩) (c_law : PySem.W.codeIn K cd_law "law" = true) (k_law : PySem.W.keepIn K (.ref f_law) = true)
    (y_let : PySem.W.nsIn K mainGlobals "LETTERS" = some (some (.str abc tA))) (y_lon : PySem.W.nsIn K mainGlobals "LONGEST_NAME" = some (some (.int 8 tB))) (y_lar : PySem.W.nsIn K mainGlobals "LARGEST_NUMBER" = some (some (.int 6 tC)))
    (y_ans : PySem.W.nsIn K mainGlobals "ANSWERS" = some (some (.ref aA))) (y_tup : K.lookup aA = some ⟨.type "tuple", ddA, .seq #[.str "commit" tD, .str "abort" tE] nA, slA⟩)
    (z_isi : PySem.W.nsIn K mainGlobals "isinstance" = some none) (z_str : PySem.W.nsIn K mainGlobals "str" = some none) (z_len : PySem.W.nsIn K mainGlobals "len" = some none) (z_tup : PySem.W.nsIn K mainGlobals "tuple" = some none) (z_lis : PySem.W.nsIn K mainGlobals "list" = some none) (z_rng : PySem.W.nsIn K mainGlobals "range" = some none) (z_int : PySem.W.nsIn K mainGlobals "int" = some none) (z_bool : PySem.W.nsIn K mainGlobals "bool" = some none) (z_all : PySem.W.nsIn K mainGlobals "all" = some none) (z_max : PySem.W.nsIn K mainGlobals "max" = some none) :
    ∃ fd : FuncData, (∀ (s : Shared) (v : Value), BindsTo s fd ⟨[v], []⟩ [("_law_script", v)]) ∧ ∀ base : Heap, K.In base → base.Ns mainGlobals mg → FnOk l.prog w K mg base CX0 8 fa fd ["_law_script"] (spLaw K) := by
  have e := hfa.symm.trans (PySem.W.mg_of X G a_law)
  cases e
  have T : Bl mg := ⟨PySem.W.mg_none_of X G z_isi, PySem.W.mg_none_of X G z_str, PySem.W.mg_none_of X G z_len, PySem.W.mg_none_of X G z_tup, PySem.W.mg_none_of X G z_lis, PySem.W.mg_none_of X G z_rng, PySem.W.mg_none_of X G z_int, PySem.W.mg_none_of X G z_bool, PySem.W.mg_none_of X G z_all, PySem.W.mg_none_of X G z_max, ⟨_, PySem.W.mg_of X G y_let, _, rfl⟩, ⟨_, PySem.W.mg_of X G y_lon, _, rfl⟩, ⟨_, PySem.W.mg_of X G y_lar, _, rfl⟩⟩
  have An : Ans K mg aA := ⟨PySem.W.mg_of X G y_ans, fun H => .inr ⟨_, #[.str "commit" tD, .str "abort" tE], nA, y_tup, rfl, rfl, by show 2 ≤ sizeLine; decide, .cons ⟨_, rfl⟩ (.cons ⟨_, rfl⟩ .nil)⟩⟩
  have F_isn := fun_mk (st := sIn) l_isn c_isn k_isn
  have g_isn : mg "is_name" = some (.ref _) := PySem.W.mg_of X G a_isn
  have b_isn := F_isn.binds (ps := ["value"]) fun _ _ _ _ _ _ us hl => match us, hl with | [_], _ => rfl
  have F_who := fun_mk (st := sWh) l_who c_who k_who
  have g_who : mg "is_whole_number" = some (.ref _) := PySem.W.mg_of X G a_who
  have b_who := F_who.binds (ps := ["value"]) fun _ _ _ _ _ _ us hl => match us, hl with | [_], _ => rfl
  have F_bal := fun_mk (st := sBal) l_bal c_bal k_bal
  have g_bal : mg "is_ballot" = some (.ref _) := PySem.W.mg_of X G a_bal
  have b_bal := F_bal.binds (ps := ["value"]) fun _ _ _ _ _ _ us hl => match us, hl with | [_], _ => rfl
  have F_ans := fun_mk (st := sAns) l_ans c_ans k_ans
  have g_ans : mg "is_answer" = some (.ref _) := PySem.W.mg_of X G a_ans
  have b_ans := F_ans.binds (ps := ["value"]) fun _ _ _ _ _ _ us hl => match us, hl with | [_], _ => rfl
  have F_sta := fun_mk (st := sSt) l_sta c_sta k_sta
  have g_sta : mg "is_statement" = some (.ref _) := PySem.W.mg_of X G a_sta
  have b_sta := F_sta.binds (ps := ["value"]) fun _ _ _ _ _ _ us hl => match us, hl with | [_], _ => rfl
  have F_box := fun_mk (st := sBox) l_box c_box k_box
  have g_box : mg "_law_box" = some (.ref _) := PySem.W.mg_of X G a_box
  have b_box := F_box.binds (ps := ["_law_script"]) fun _ _ _ _ _ _ us hl => match us, hl with | [_], _ => rfl
  have F_mix := fun_mk (st := sMixed) l_mix c_mix k_mix
  have g_mix : mg "_law_mixed" = some (.ref _) := PySem.W.mg_of X G a_mix
  have b_mix := F_mix.binds (ps := ["_law_cell", "_law_k"]) fun _ _ _ _ _ _ us hl => match us, hl with | [_, _], _ => rfl
  have F_take := fun_mk (st := sTake) l_take c_take k_take
  have g_take : mg "_law_take" = some (.ref _) := PySem.W.mg_of X G a_take
  have b_take := F_take.binds (ps := ["_law_box_here", "_law_size"]) fun _ _ _ _ _ _ us hl => match us, hl with | [_, _], _ => rfl
  have F_nam := fun_mk (st := sNames) l_nam c_nam k_nam
  have g_nam : mg "_law_names" = some (.ref _) := PySem.W.mg_of X G a_nam
  have b_nam := F_nam.binds (ps := ["_law_box_here", "_law_many"]) fun _ _ _ _ _ _ us hl => match us, hl with | [_, _], _ => rfl
  have F_bas := fun_mk (st := sBs) l_bas c_bas k_bas
  have g_bas : mg "_law_ballots" = some (.ref _) := PySem.W.mg_of X G a_bas
  have b_bas := F_bas.binds (ps := ["_law_box_here", "_law_many"]) fun _ _ _ _ _ _ us hl => match us, hl with | [_, _], _ => rfl
  have F_lnm := fun_mk (st := sLn) l_lnm c_lnm k_lnm
  have g_lnm : mg "_law_is_name" = some (.ref _) := PySem.W.mg_of X G a_lnm
  have b_lnm := F_lnm.binds (ps := ["_law_value"]) fun _ _ _ _ _ _ us hl => match us, hl with | [_], _ => rfl
  have F_lbl := fun_mk (st := sLb) l_lbl c_lbl k_lbl
  have g_lbl : mg "_law_is_ballot" = some (.ref _) := PySem.W.mg_of X G a_lbl
  have b_lbl := F_lbl.binds (ps := ["_law_value"]) fun _ _ _ _ _ _ us hl => match us, hl with | [_], _ => rfl
  have F_lst := fun_mk (st := sLs) l_lst c_lst k_lst
  have g_lst : mg "_law_is_statement" = some (.ref _) := PySem.W.mg_of X G a_lst
  have b_lst := F_lst.binds (ps := ["_law_value"]) fun _ _ _ _ _ _ us hl => match us, hl with | [_], _ => rfl
  have F_any := fun_mk (st := sAny) l_any c_any k_any
  have g_any : mg "_law_any" = some (.ref _) := PySem.W.mg_of X G a_any
  have b_any := F_any.binds (ps := ["_law_box_here"]) fun _ _ _ _ _ _ us hl => match us, hl with | [_], _ => rfl
  have F_chg := fun_mk (st := sCh) l_chg c_chg k_chg
  have g_chg : mg "_law_changed" = some (.ref _) := PySem.W.mg_of X G a_chg
  have b_chg := F_chg.binds (ps := ["_law_box_here", "_law_value"]) fun _ _ _ _ _ _ us hl => match us, hl with | [_, _], _ => rfl
  have F_law := fun_mk (st := sLaw) l_law c_law k_law
  have g_law : mg "law" = some (.ref _) := PySem.W.mg_of X G a_law
  have b_law := F_law.binds (ps := ["_law_script"]) fun _ _ _ _ _ _ us hl => match us, hl with | [_], _ => rfl
  refine ⟨PySem.W.fnOf "law" "law" (defArgs sLaw) (defBody sLaw) (defScope sLaw) .none kV_law dc_law pm_law an_law cd_law ct_law, fun s v => .of_eq rfl, fun base _ _ => ?_⟩
  have G_take : FnOk l.prog w K mg base CX0 2 _ _ _ spTake := ok_take (k := 0) F_take F_mix b_mix g_mix T.len T.max
  have G_nam : FnOk l.prog w K mg base CX0 3 _ _ _ spNames := ok_names F_nam F_take b_take g_take G_take T.rng
  have G_box : FnOk l.prog w K mg base CX0 1 _ _ _ (spBox K) := ok_box (k := 0) F_box
  have G_bas : FnOk l.prog w K mg base CX0 4 _ _ _ spBs := ok_ballots F_bas T F_take b_take g_take (G_take.mono (by decide)) F_nam b_nam g_nam G_nam
  have G_any : FnOk l.prog w K mg base CX0 3 _ _ _ spAny := ok_any F_any T F_take b_take g_take G_take
  have G_c0 : ∀ {f : Addr} {fd : FuncData} {ps : List Str}, FnOk l.prog w K mg base CX0 4 f fd ps (spCh 0) := fn_never 4 fun vs H Q E => by
    rintro ⟨b, g, m, c, v, _, _, _, ⟨d, _, _, h⟩, _⟩
    exact absurd h (Nat.not_lt_zero _)
  have G_c1 : FnOk l.prog w K mg base CX0 5 _ _ _ (spCh 1) := ok_changed (by decide) F_chg b_chg g_chg T G_c0 F_take b_take g_take (G_take.mono (by decide)) F_any b_any g_any (G_any.mono (by decide))
  have G_c2 : FnOk l.prog w K mg base CX0 6 _ _ _ (spCh 2) := ok_changed (by decide) F_chg b_chg g_chg T G_c1 F_take b_take g_take (G_take.mono (by decide)) F_any b_any g_any (G_any.mono (by decide))
  have G_c3 : FnOk l.prog w K mg base CX0 7 _ _ _ (spCh 3) := ok_changed (by decide) F_chg b_chg g_chg T G_c2 F_take b_take g_take (G_take.mono (by decide)) F_any b_any g_any (G_any.mono (by decide))
  have G_bal : FnOk l.prog w K mg base CX0 2 _ _ _ (spD isBalD fun _ => True) := ok_ballot (k := 0) F_bal T F_who b_who g_who F_isn b_isn g_isn
  have G_ans : FnOk l.prog w K mg base CX0 2 _ _ _ (spD isAnsD fun d => d.depth ≤ 64) := ok_answer (k := 1) F_ans T An
  have G_sta : FnOk l.prog w K mg base CX0 3 _ _ _ (spD isStD fun d => d.depth ≤ 64) := ok_statement F_sta T F_bal b_bal g_bal G_bal F_ans b_ans g_ans G_ans
  have G_lbl : FnOk l.prog w K mg base CX0 2 _ _ _ (spD isBalD fun _ => True) := ok_lballot (k := 0) F_lbl T F_lnm b_lnm g_lnm
  have G_lst : FnOk l.prog w K mg base CX0 3 _ _ _ (spD isStD fun _ => True) := ok_lstatement F_lst T F_lbl b_lbl g_lbl G_lbl
  exact ok_law F_law T F_box b_box g_box (G_box.mono (by decide)) F_take b_take g_take (G_take.mono (by decide)) F_bas b_bas g_bas (G_bas.mono (by decide)) F_any b_any g_any (G_any.mono (by decide)) F_chg b_chg g_chg G_c3
    F_bal b_bal g_bal (G_bal.mono (by decide)) F_lbl b_lbl g_lbl (G_lbl.mono (by decide)) F_sta b_sta g_sta (G_sta.mono (by decide)) F_lst b_lst g_lst (G_lst.mono (by decide))
end Moot
open PySem PySem.W PyProof.Rows
set_option maxRecDepth 100000 in
set_option maxHeartbeats 0 in
theorem PySem.Challenge.cw_oathmoot_k37_ballots_and_statements_holds : PySem.Challenge.rw_oathmoot_k37_ballots_and_statements.Holds := by
  w_on; o_law; k_head; (case hw => w_witness2)
  k_fill
  refine L2.walk_of (l := PySem.Challenge.rw_oathmoot_k37_ballots_and_statements) (n := 63) (k := 8) (x := "_law_script") (CX := fun _ => L2.CX0) (sp := fun w => Moot.spLaw _) rfl (by decide) rfl ⟨rfl, by decide, by decide⟩ (fun w h Y => PySem.W.kIn_of Y) ?F (fun _ _ a ns hl _ hS => ⟨a, ns, rfl, hS, hl, fun _ => rfl⟩) (fun _ _ _ _ _ h => h)
  case F =>
    intro w mg fa h KX G hmg
    refine' Moot.all_mk KX G hmg ?a_isn ?l_isn ?c_isn ?k_isn ?a_who ?l_who ?c_who ?k_who ?a_bal ?l_bal ?c_bal ?k_bal ?a_ans ?l_ans ?c_ans ?k_ans ?a_sta ?l_sta ?c_sta ?k_sta ?a_box ?l_box ?c_box ?k_box ?a_mix ?l_mix ?c_mix ?k_mix ?a_take ?l_take ?c_take ?k_take ?a_nam ?l_nam ?c_nam ?k_nam ?a_bas ?l_bas ?c_bas ?k_bas ?a_lnm ?l_lnm ?c_lnm ?k_lnm ?a_lbl ?l_lbl ?c_lbl ?k_lbl ?a_lst ?l_lst ?c_lst ?k_lst ?a_any ?l_any ?c_any ?k_any ?a_chg ?l_chg ?c_chg ?k_chg ?a_law ?l_law ?c_law ?k_law ?y_let ?y_lon ?y_lar ?y_ans ?y_tup ?z_isi ?z_str ?z_len ?z_tup ?z_lis ?z_rng ?z_int ?z_bool ?z_all ?z_max
    (case a_isn => k_is); (case l_isn => k_is); (case c_isn => k_is); (case k_isn => k_is); (case a_who => k_is); (case l_who => k_is); (case c_who => k_is); (case k_who => k_is)
    (case a_bal => k_is); (case l_bal => k_is); (case c_bal => k_is); (case k_bal => k_is); (case a_ans => k_is); (case l_ans => k_is); (case c_ans => k_is); (case k_ans => k_is)
    (case a_sta => k_is); (case l_sta => k_is); (case c_sta => k_is); (case k_sta => k_is); (case a_box => k_is); (case l_box => k_is); (case c_box => k_is); (case k_box => k_is)
    (case a_mix => k_is); (case l_mix => k_is); (case c_mix => k_is); (case k_mix => k_is); (case a_take => k_is); (case l_take => k_is); (case c_take => k_is); (case k_take => k_is)
    (case a_nam => k_is); (case l_nam => k_is); (case c_nam => k_is); (case k_nam => k_is); (case a_bas => k_is); (case l_bas => k_is); (case c_bas => k_is); (case k_bas => k_is)
    (case a_lnm => k_is); (case l_lnm => k_is); (case c_lnm => k_is); (case k_lnm => k_is); (case a_lbl => k_is); (case l_lbl => k_is); (case c_lbl => k_is); (case k_lbl => k_is)
    (case a_lst => k_is); (case l_lst => k_is); (case c_lst => k_is); (case k_lst => k_is); (case a_any => k_is); (case l_any => k_is); (case c_any => k_is); (case k_any => k_is)
    (case a_chg => k_is); (case l_chg => k_is); (case c_chg => k_is); (case k_chg => k_is); (case a_law => k_is); (case l_law => k_is); (case c_law => k_is); (case k_law => k_is)
    (case y_let => k_is); (case y_lon => k_is); (case y_lar => k_is); (case y_ans => k_is); (case y_tup => k_is); (case z_isi => k_is); (case z_str => k_is); (case z_len => k_is)
    (case z_tup => k_is); (case z_lis => k_is); (case z_rng => k_is); (case z_int => k_is); (case z_bool => k_is); (case z_all => k_is); (case z_max => k_is)
