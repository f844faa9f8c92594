import PyProof.Rows.All
import Wide.All
import OpenK.AllK
import Wide.FinOn
import HandS.ForMost
import HandS.Deep
import HandS.More
import HandS.IsInst
import HandS.Flow
import PyProof.ToksMono
import HandS.Replace
import PyProof.Rows.SetFrom
import HandS.List
import HandS.Set
import PyProof.SetRoads
import HandS.TupSets
import KE.KeyNested
import HandS.Codes
import HandS.Walk
import PyProof.TupleOfGen
import HandS.DictComp
import HandS.Conv
import HandS.Defaults
import HandS.TryOnly
import HandS.Exc
import HandS.TryMany
import HandS.ExcInit
import HandS.ExcField
import HandS.ExcIs
import HandS.WordsExc
import KE.SortKeyHeap
import HandS.SortKw
import HandS.Nested
import HandS.EndTab
import HandS.ExcOwn
import PyProof.P3In
import HandS.TupAny
import PySem.Challenge.RW_oathmoot_k07_networks_refused
set_option Elab.async false
set_option linter.unusedVariables false
set_option maxRecDepth 100000
set_option maxHeartbeats 8000000
/-! Lists and tuples whose texts are known to bear a token. -/
namespace Moot
open PySem PySem.Spec PyProof.Rows L2
/-- a text with a token, or no text -/
def GdV : Value → Prop
  | .str _ t => t ≠ 0
  | _ => True
def GdS (us : List Value) : Prop := ∀ u ∈ us, GdV u
theorem GdS.append {us vs : List Value} (a : GdS us) (b : GdS vs) : GdS (us ++ vs) := fun u m => (List.mem_append.mp m).elim (a u) (b u)
theorem GdS.one {u : Value} (h : GdV u) : GdS [u] := fun v m => by
  rw [List.mem_singleton.mp m]
  exact h
theorem GdS.take {us : List Value} (a : GdS us) (n : Nat) : GdS (us.take n) := fun u m => a u (List.mem_of_mem_take m)
theorem GdS.drop {us : List Value} (a : GdS us) (n : Nat) : GdS (us.drop n) := fun u m => a u (List.mem_of_mem_drop m)
theorem GdS.erase {us : List Value} (a : GdS us) (n : Nat) : GdS (us.eraseIdx n) := fun u m => a u (List.mem_of_mem_eraseIdx m)
/-- no text at all -/
theorem gd_refs : ∀ {xs : List V} {us : List Value}, Vals xs us → (∀ x ∈ xs, ∃ a, x = V.ref a) → GdS us
  | _, _, .nil, _ => fun u m => by cases m
  | _, _, .cons r t, h => fun u m => by
    rcases List.mem_cons.mp m with e | m
    · obtain ⟨a, rfl⟩ := h _ List.mem_cons_self
      cases r
      rw [e]
      trivial
    · exact gd_refs t (fun x mx => h x (List.mem_cons_of_mem _ mx)) u m
/-- the list's object, its items xs, each text with a token -/
def GdL (o : Obj) (xs : List V) : Prop := ∃ (its : List Value) (n : Nat), o = { cls := .type "list", data := .seq its.toArray n } ∧ Vals xs its ∧ GdS its
/-- the tuple's object -/
def GdT (o : Obj) (xs : List V) : Prop := ∃ (its : List Value) (n : Nat), o.cls = .type "tuple" ∧ o.data = .seq its.toArray n ∧ Vals xs its ∧ GdS its
/-- a list known so -/
def GLs (H : Hp) (l : Addr) (xs : List V) : Prop := ∃ o, GdL o xs ∧ H l = some (.frz o (.lst xs))
def GTp (H : Hp) (l : Addr) (xs : List V) : Prop := ∃ o, GdT o xs ∧ H l = some (.frz o (.tup xs))
theorem GLs.seq {K : PySem.W.Frag} {H : Hp} {l : Addr} {xs : List V} (h : GLs H l xs) : SqL K H l xs := let ⟨o, _, e⟩ := h; .inl (.inr ⟨o, e⟩)
theorem GTp.seq {K : PySem.W.Frag} {H : Hp} {l : Addr} {xs : List V} (h : GTp H l xs) : SqT K H l xs := let ⟨o, _, e⟩ := h; .inl (.inr ⟨o, e⟩)
/-- it was not locked when the def began -/
def Nf (X : Cx) (l : Addr) : Prop := ∀ o u, X.H_0 l ≠ some (.frz o u)
section
variable {X : Cx} {pins : List (Addr × Obj)} {σ : List (Option V)} {H : Hp} {s : Shared} {l : Addr} {xs ys : List V}
/-- a list is told of in another way -/
theorem inv_recast {A B : HO} (I : Inv X pins σ H s) (h : H l = some A) (hA : (∃ xs, A = .lst xs) ∨ ∃ o xs, A = .frz o (.lst xs)) (nf : Nf X l) (new : ObjOk X.prog X.w (upd H l B) s.heap l B) : Inv X pins σ (upd H l B) s := by
  have nt : ∀ b ys, H b = some (.tup ys) → b ≠ l := fun b ys e z => by
    rw [z, h] at e
    rcases hA with ⟨_, rfl⟩ | ⟨_, _, rfl⟩ <;> cases e
  have no : ∀ b y, H b = some (.own y) → b ≠ l := fun b y e z => by
    rw [z, h] at e
    rcases hA with ⟨_, rfl⟩ | ⟨_, _, rfl⟩ <;> cases e
  have nb : ∀ b ps, H b = some (.tbl ps) → b ≠ l := fun b ps e z => by
    rw [z, h] at e
    rcases hA with ⟨_, rfl⟩ | ⟨_, _, rfl⟩ <;> cases e
  have nn : ∀ b, H b = none → b ≠ l := fun b e z => by
    rw [z, h] at e
    cases e
  have hok : HOk X.prog X.w (upd H l B) s.heap := fun b u q => by
    by_cases e : b = l
    · subst e
      rw [upd_same] at q
      cases q
      exact new
    · rw [upd_ne e] at q
      exact (I.hok b u q).stay (fun _ _ _ r => r) (fun c r => by rw [upd_ne (no c b r)]; exact r) fun c zs r => by rw [upd_ne (nt c zs r)]; exact r
  have base : Un X.fs X.ex X.H_0 (upd H l B) X.s_0.heap s.heap := ⟨I.base.keep, I.base.slot, fun b o e n hx => by
      have z := I.base.free b o e n hx
      rw [upd_ne (nn b z)]
      exact z, I.base.there, fun b zs e => by
      have z := I.base.tups b zs e
      rw [upd_ne (nt b zs z)]
      exact z, fun b o u e => by
      by_cases q : b = l
      · subst q
        exact absurd e (nf o u)
      · rw [upd_ne q]
        exact I.base.frzs b o u e, fun b ps e => by
      obtain ⟨more, z⟩ := I.base.tbls b ps e
      exact ⟨more, by rw [upd_ne (nb b _ z)]; exact z⟩⟩
  exact ⟨I.ok, I.os, I.bare, base, I.loc, I.cell, by rw [upd_ne (nn _ I.free)]; exact I.free, fun x c e => by rw [upd_ne (nn _ (I.freeC x c e))]; exact I.freeC x c e,
    fun p hp => let ⟨a, b, c⟩ := I.pin p hp; ⟨a, by rw [upd_ne (nn _ b)]; exact b, c⟩, hok, I.len⟩
theorem inv_melt {o : Obj} (I : Inv X pins σ H s) (h : H l = some (.frz o (.lst xs))) (nf : Nf X l) : Inv X pins σ (upd H l (.lst xs)) s := by
  obtain ⟨_, z, its, n, r, e⟩ := I.hok l _ h
  exact inv_recast I h (.inr ⟨_, _, rfl⟩) nf ⟨z, its, n, r, e⟩
theorem inv_lock {o : Obj} (I : Inv X pins σ H s) (h : H l = some (.lst xs)) (nf : Nf X l) (e : s.heap.get? l = some o) : Inv X pins σ (upd H l (.frz o (.lst xs))) s := by
  obtain ⟨z, its, n, r, e'⟩ := I.hok l _ h
  exact inv_recast I h (.inl ⟨_, rfl⟩) nf ⟨e, z, its, n, r, e'⟩
/-- a known list is rewritten -/
theorem inv_reset {o : Obj} {its its' : List Value} {n : Nat} {f : Array Value → Array Value} {t' : Nat} (I : Inv X pins σ H s) (h : H l = some (.frz o (.lst xs))) (nf : Nf X l)
    (e : s.heap.get? l = some { cls := .type "list", data := .seq its.toArray n }) (hf : f its.toArray = its'.toArray) (hv : Vals ys its') (hz : ys.length ≤ sizeLine) (g : GdS its') :
    ∃ o', GdL o' ys ∧ Inv X pins σ (upd H l (.frz o' (.lst ys))) { s with heap := s.heap.update l (Obj.mapSeq f), toks := t' } := by
  have I1 := inv_melt I h nf
  have I2 := I1.lset (t' := t') upd_same e hf hv hz
  have q := PySem.IsL.update e f
  rw [hf] at q
  have I3 := inv_lock I2 upd_same nf q
  rw [upd_upd, upd_upd] at I3
  exact ⟨_, ⟨its', _, rfl, hv, g⟩, I3⟩
/-- xs.insert(i, y), y no text, into a known list -/
theorem mt_insertG : MtR X "list.insert" (fun x vs H Q => ∃ (l : Addr) (xs : List V) (i : Int) (a : Addr), x = .ref l ∧ vs = [.int i, .ref a] ∧ GLs H l xs ∧ Nf X l ∧ xs.length < sizeLine ∧ 0 ≤ i ∧ i < 2 ^ 63 ∧
    ∀ o', GdL o' (xs.take i.toNat ++ [.ref a] ++ xs.drop i.toNat) → Q .non (upd H l (.frz o' (.lst (xs.take i.toNat ++ [.ref a] ++ xs.drop i.toNat))))) := by
  intro pins s σ H x vs v us Q I rx rv h
  obtain ⟨l, xs, i, a, rfl, rfl, ⟨o, ⟨its, n, rfl, r, g⟩, hH⟩, nf, hz, h0, h1, q⟩ := h
  cases rx
  obtain ⟨u1, u2, rfl, r1, r2⟩ := rv.two
  obtain ⟨t, rfl⟩ := r1
  cases r2
  have e := (I.hok l _ hH).1
  have hl := r.length
  refine call_meets F.slot_list_insert ⟨_, e, rfl⟩ F.entry_list_insert (F.args_list_insert_3 _ _ _) (AutoSeq1.list_insert_list_int_val_1 l its.toArray n i t (.ref a) (by simp [fitsIndex_of h0 h1]) (by rw [List.size_toArray]; omega)) ⟨e, ?_⟩
  have rel : Vals (xs.take i.toNat ++ [.ref a] ++ xs.drop i.toNat) (its.take i.toNat ++ [.ref a] ++ its.drop i.toNat) := ((r.take i.toNat).append (Paired.cons (show RelV (.ref a) (.ref a) from rfl) .nil)).append (r.drop i.toNat)
  have gd : GdS (its.take i.toNat ++ [.ref a] ++ its.drop i.toNat) := ((g.take _).append (GdS.one (u := .ref a) trivial)).append (g.drop _)
  have z : (xs.take i.toNat ++ [V.ref a] ++ xs.drop i.toNat).length ≤ sizeLine := by
    rw [List.length_append, List.length_append, List.length_take, List.length_drop, List.length_singleton]
    omega
  have hf : (fun xs : Array Value => have k := if i < 0 then (i + (xs.size : Int)).toNat else min i.toNat xs.size; (xs.extract 0 k).push (.ref a) ++ xs.extract k) its.toArray = (its.take i.toNat ++ [Value.ref a] ++ its.drop i.toNat).toArray := by
    dsimp only
    rw [PySem.W.kl_ins_eq, if_neg (by omega), List.size_toArray, PySem.W.kmk_take_min, PySem.W.kmk_drop_min, List.append_assoc]
    rfl
  obtain ⟨o', g', I'⟩ := inv_reset (f := fun xs : Array Value => have k := if i < 0 then (i + (xs.size : Int)).toNat else min i.toNat xs.size; (xs.extract 0 k).push (.ref a) ++ xs.extract k) (t' := s.toks) I hH nf e hf rel z gd
  exact ⟨.non, _, I', rfl, q _ g'⟩
/-- list(xs) of a known list is a known list -/
theorem call_listG : CallR X (.type "list") (fun xs H Q => ∃ p ys, xs = [.ref p] ∧ GLs H p ys ∧ ∀ l o, H l = none → GdL o ys → Q (.ref l) (upd H l (.frz o (.lst ys)))) := by
  intro pins s σ H xs us Q I r h
  obtain ⟨p, ys, rfl, ⟨o, ⟨its, n, rfl, r', g⟩, hH⟩, q⟩ := h
  obtain ⟨u, rfl, rx⟩ := vals1 r
  cases rx
  obtain ⟨e, hz, _⟩ := I.hok p _ hH
  have hlen := r'.length
  refine call_list_seq p (.inl rfl) e rfl rfl (fun h' c' kp e' => ?_) (by simp only [List.size_toArray] <;> omega)
  refine ⟨.ref s.heap.objs.size, _, I.laid (t' := s.toks) kp (Nat.le_refl _) (show ObjOk X.prog X.w _ h' _ (.frz _ (.lst ys)) from ⟨e', hz, its, c', r', e'⟩), rfl, q _ _ (I.hok.fresh (Nat.le_refl _)) ⟨its, c', rfl, r', g⟩⟩
/-- tuple(xs) of a known list, or of a list without texts, is a known tuple -/
theorem call_tupleG : CallR X (.type "tuple") (fun xs H Q => ∃ p ys, xs = [.ref p] ∧ (GLs H p ys ∨ (SqL X.K H p ys ∧ ∀ x ∈ ys, ∃ a, x = V.ref a)) ∧ ∀ l o, H l = none → GdT o ys → Q (.ref l) (upd H l (.frz o (.tup ys)))) := by
  intro pins s σ H xs us Q I r h
  obtain ⟨p, ys, rfl, hq, q⟩ := h
  obtain ⟨u, rfl, rx⟩ := vals1 r
  cases rx
  have key : ∃ its : List Value, Vals ys its ∧ GdS its ∧ s.heap.IsList p its.toArray ∧ ys.length ≤ sizeLine := by
    rcases hq with ⟨o, ⟨its, n, rfl, r', g⟩, hH⟩ | ⟨hq, refs⟩
    · obtain ⟨e, hz, _⟩ := I.hok p _ hH
      exact ⟨its, r', g, ⟨_, e, rfl, n, rfl⟩, hz⟩
    · obtain ⟨its, r', pl, hz⟩ := I.list hq
      exact ⟨its, r', gd_refs r' refs, pl.isList, hz⟩
  obtain ⟨its, r', g, il, hz⟩ := key
  have hlen := r'.length
  refine call_tuple_list il (fun h' kp => ?_) (by simp only [List.size_toArray] <;> omega)
  have I1 : Inv X pins σ H { s with heap := h' } := I.kept (t' := s.toks) kp
  have I2 : Inv X pins σ (upd H h'.objs.size (.frz { cls := .type "tuple", data := .seq its.toArray } (.tup ys))) { s with heap := h'.push { cls := .type "tuple", data := .seq its.toArray } } :=
    I1.laid (t' := s.toks) (fun b o e => Heap.get?_push_of_some _ e) (Nat.le_refl _) (show ObjOk X.prog X.w _ _ _ (.frz _ (.tup ys)) from ⟨Heap.get?_push_size _ rfl, hz, its, r', IsTup.new _ _⟩)
  exact ⟨.ref h'.objs.size, _, I2, rfl, q _ _ (I1.hok.fresh (Nat.le_refl _)) ⟨its, 0, rfl, rfl, r', g⟩⟩
end
end Moot
/-! Expressions whose texts bear tokens; comprehensions that keep them. -/
namespace Moot
open PySem PySem.Spec PyProof.Rows L2
theorem thnT {α : Type} {M : Model} {A : Around} {c : Sem α} {Q R : α → Shared → Prop} {E : Value → Shared → Prop} {s : Shared} (h : wpAny M A c Q E s) (f : ∀ a s', s.toks ≤ s'.toks → Q a s' → R a s') : wpAny M A c R E s :=
  wpAny_mono (PySem.wpAny_toks h) (fun a s' z => f a s' z.1 z.2) fun _ _ z => z.2
/-- what comes of an expression, a text bearing a token -/
def GP (X : Cx) (pins : List (Addr × Obj)) (σ : L2.St) (Q : VK) (u : Value) (s' : Shared) : Prop := ∃ v H', Inv X pins σ H' s' ∧ RelV v u ∧ GdV u ∧ Q v H'
structure PEK (n : Nat) (X : Cx) (e : Expr) (t : TE) : Prop where
  run : ∀ (pins : List (Addr × Obj)) (s : Shared) (σ : L2.St) (H : Hp) (Q : VK), n ≤ s.toks → Inv X pins σ H s → t σ H Q → wpAny (model X.prog X.w) X.A (eval e X.env) (GP X pins σ Q) X.xe s
section
variable {X : Cx}
/-- a sign of a text -/
theorem pek_ixStr {a b : Expr} {ta tb : TE} {pos : Pos} (ha : PE X a ta) (hb : PE X b tb) (hs : PlainIx b) : PEK 1 X (.Subscript a b pos) (tOp rIxS ta tb) := by
  refine ⟨fun pins s σ H Q k0 I h => Subscript_ (thnT (ha.run pins s σ H _ I h) fun v s1 k1 ⟨x, H1, I1, r1, q1⟩ => thnT (hb.run pins s1 σ H1 _ I1 q1) fun u s2 k2 ⟨y, H2, I2, r2, q2⟩ => ?_)⟩
  obtain ⟨z, i, c, rfl, rfl, hz, he, q⟩ := q2
  obtain ⟨t, rfl⟩ := r1
  obtain ⟨t', rfl⟩ := r2
  obtain ⟨j, h1, h2, h3, h4, h5⟩ := atI_get he
  have hl : z.cps.toList.length = z.length := by simp [Str.length]
  rw [hl] at h1 h4 h5
  have hn := line63
  have lo : decide (i < -(2 ^ 63 : Int)) = false := decide_eq_false (by omega)
  have hi : decide (i ≥ 2 ^ 63) = false := decide_eq_false (by omega)
  refine tail_any (typeIs_str s2 z t) slot_str_getitem.lookup (getItem_str (c := c) (by rw [lo, hi]; rfl) (by rw [h1]; simpa using h2) ?_) (hs _ _)
  exact ⟨.str ⟨#[c]⟩, H2, I2.tok _, ⟨_, rfl⟩, (show s2.toks ≠ 0 by omega), q⟩
/-- xs.pop(i) of a known list -/
theorem pek_popG {nn : Nat} {o e : Expr} {to : TE} {t : TA} {apos cpos : Pos} (ho : PE X o to) (ha : PA X [e] t) (hbase : attributeBase o "pop" X.env (eval o X.env) = eval o X.env := by rfl)
    (hfew : ((backTo cpos (starEach [e] X.env)).all (fun x => !x.1) && (backToKw cpos (keywordEach [] X.env)).all (fun x => x.1.isSome) && decide ([e].length + ([] : List Keyword).length + (if ([] : List Keyword).isEmpty then 0 else 1) < 30)) = true := by rfl)
    (hline : (apos.endLine == cpos.line) = true := by rfl) (hs : starEach [e] X.env = [(false, eval e X.env)] := by rfl) :
    PEK nn X (.Call (.Attribute o "pop" apos) [e] [] cpos) (fun σ H Q => to σ H fun x H1 => tyV X.K "list" x H1 ∧ t σ H1 fun vs H2 => ∃ l xs i k y, x = .ref l ∧ vs = [.int i] ∧ GLs H2 l xs ∧ Nf X l ∧ -(2 ^ 63) ≤ i ∧ i < 2 ^ 63 ∧ seqIndex? i xs.length = some k ∧ xs[k]? = some y ∧
      ∀ o', GdL o' (xs.eraseIdx k) → Q y (upd H2 l (.frz o' (.lst (xs.eraseIdx k))))) := by
  refine ⟨fun pins s σ H Q k0 I h => ?_⟩
  refine wpAny_Call_method_late hbase hfew hline rfl (thn (ho.run pins s σ H _ I h) fun v s1 ⟨x, H1, I1, r1, ty, q1⟩ => ?_)
  obtain ⟨h1, h2⟩ := tyV_is I1 r1 ty
  refine ⟨"list", "list.pop", F.plainAttrs_list, F.slot_list_pop, F.type_list_pop, h1, h2, ?_⟩
  have hA := ha.run cpos pins s1 σ H1 _ I1 q1
  rw [hs] at hA ⊢
  refine Calls.callWith_builtin rfl (Calls.evalArgs_plain (thn hA fun us s2 ⟨vs, H2, I2, r2, q2⟩ => ?_))
  obtain ⟨l, xs, i, k, y, rfl, rfl, ⟨ob, ⟨its, n, rfl, r, g⟩, hH⟩, nf, b1, b2, hk, hy, q⟩ := q2
  cases r1
  obtain ⟨u, rfl, ru⟩ := r2.one
  obtain ⟨tk, rfl⟩ := ru
  obtain ⟨hget, hz, _⟩ := I2.hok l _ hH
  have hl := r.length
  obtain ⟨uy, hw, ry⟩ := r.get hy
  refine call_meets F.slot_list_pop ⟨_, hget, rfl⟩ F.entry_list_pop (F.args_list_pop_2 _ _)
    (MeetsSeq.list_pop_at l its.toArray n i tk k uy (fitsIndex_both b1 b2) (by rw [List.size_toArray, ← hl]; exact hk) (by rw [← Array.getElem?_toList]; exact hw) (by rw [List.size_toArray]; omega)) ⟨hget, ?_⟩
  have hf : its.toArray.eraseIdxIfInBounds k = (its.eraseIdx k).toArray := by rw [List.eraseIdxIfInBounds_toArray]
  obtain ⟨o', g', I'⟩ := inv_reset (f := fun a : Array Value => a.eraseIdxIfInBounds k) (t' := s2.toks) I2 hH nf hget hf (r.eraseIdx k) (by have := len_erase xs k; omega) (g.erase k)
  exact ⟨y, _, I', ry, g uy (List.mem_of_getElem? hw), q _ g'⟩
/-- sep.join(xs) of a known list of texts -/
theorem pek_join {x : Str} {a : Expr} {ta : TE} {j : Nat} {c1 apos cpos : Pos} (ha : PEK 1 X a ta) (hbase : attributeBase (.Constant (.str x) j c1) "join" X.env (eval (.Constant (.str x) j c1) X.env) = eval (.Constant (.str x) j c1) X.env := by rfl)
    (hfew : ((backTo cpos (starEach [a] X.env)).all (fun x => !x.1) && (backToKw cpos (keywordEach [] X.env)).all (fun x => x.1.isSome) && decide ([a].length + ([] : List Keyword).length + (if ([] : List Keyword).isEmpty then 0 else 1) < 30)) = true := by rfl)
    (hline : (apos.endLine == cpos.line) = true := by rfl) (hs : starEach [a] X.env = [(false, eval a X.env)] := by rfl) {pins : List (Addr × Obj)} {s : Shared} {σ : L2.St} {H : Hp} {Q : VK} (I : Inv X pins σ H s)
    (h : ta σ H fun v H1 => ∃ p ys, v = .ref p ∧ GLs H1 p (ys.map V.str) ∧ (ys.map (·.length)).sum + ys.length * x.length ≤ 16777216 ∧ Q (.str (Txt.join x ys)) H1) :
    wpAny (model X.prog X.w) X.A (eval (.Call (.Attribute (.Constant (.str x) j c1) "join" apos) [a] [] cpos) X.env) (fun u s' => 1 ≤ s'.toks ∧ GP X pins σ Q u s') X.xe s := by
  refine wpAny_Call_method_late hbase hfew hline rfl (Calls.Constant_str ?_)
  refine ⟨"str", "str.join", F.plainAttrs_str, F.slot_str_join, F.type_str_join, typeIs_str _ _ _, (fun _ e => nomatch e), ?_⟩
  rw [hs]
  refine Calls.callWith_builtin rfl (Calls.evalArgs_plain ?_)
  show wpAny _ _ (spliced ((false, eval a X.env) :: [])) _ _ _
  refine Calls.spliced_cons (thnT (ha.run pins _ σ H _ (show 1 ≤ s.toks + 1 by omega) (I.tok (s.toks + 1)) h) fun v s1 k1 ⟨y, H1, I1, r1, _, q1⟩ => Calls.spliced_nil ?_)
  have k1 : s.toks + 1 ≤ s1.toks := k1
  obtain ⟨p, ys, rfl, ⟨o, ⟨its, n, rfl, rv, g⟩, hH⟩, hz, q⟩ := q1
  cases r1
  obtain ⟨hget, _⟩ := I1.hok p _ hH
  obtain ⟨l, hv, ht⟩ := strsAre_values (strs_of_vals rv)
  subst hv
  subst ht
  have hok := joinOk_of (sep := x) hz
  unfold JoinOk at hok
  rw [Bool.not_eq_true'] at hok
  have fin : ∀ t k, t ≠ 0 → 1 ≤ k → (1 ≤ ({ s1 with toks := k } : Shared).toks ∧ GP X pins σ Q (.str (Txt.join x (l.map (·.1))) t) { s1 with toks := k }) := fun t k h1 h2 => ⟨h2, .str (Txt.join x (l.map (·.1))), H1, I1.tok k, ⟨t, rfl⟩, h1, q⟩
  refine call_meets F.slot_str_join (typeIs_str _ _ _) F.entry_str_join (F.args_str_join_2 _ _) (meets_str_join_list x _ p l hok) ⟨⟨_, hget, rfl, n, rfl⟩, ?_⟩
  have len := joinFit_length hok
  match l, len, fin, g with
  | [], len, fin, g => exact ⟨len, fin _ _ (show s1.toks ≠ 0 by omega) (show 1 ≤ s1.toks + 1 by omega)⟩
  | [p], len, fin, g => exact fin p.2 s1.toks (g (.str p.1 p.2) List.mem_cons_self) (by omega)
  | _ :: _ :: _, len, fin, g => exact ⟨len, fin _ _ (show s1.toks ≠ 0 by omega) (show 1 ≤ s1.toks + 1 by omega)⟩
end
end Moot
/-! A list comprehension whose new list is known to the object, its texts bearing tokens. -/
namespace Moot
open PySem PySem.Spec PyProof.Rows L2
/-- a walk whose items are of a kind besides -/
def ItemG (P : Program) (w : World) (K : PySem.W.Frag) (tg : Expr) (J : It) (fp : List Addr) (it : Addr) (tn : Nat → Heap → Prop) (nn : Nat) (GU : Value → Prop) : Prop :=
  ∀ (Y : Cx), Y.prog = P → Y.w = w → Y.K = K → Y.calm = true → ∀ (i : Nat) (pins : List (Addr × Obj)) (s : Shared) (σ : L2.St) (H : Hp) (E : Value → Shared → Prop), nn ≤ s.toks → Inv Y pins σ H s → (∀ b ∈ fp, FpOk Y pins H b) → tn i s.heap → J.go i H →
    wpAny (model P w) Y.A (pyNext (.ref it)) (fun r s1 => ∃ u, r = some u ∧
      wpAny (model P w) Y.A (letOwnedTupleGo tg (.ref it) u) (fun _ s2 => ∃ x H', Inv Y pins σ H' s2 ∧ RelV x u ∧ GU u ∧ J.yld i H x H' ∧ tn (i + 1) s2.heap ∧ ∀ b ∈ fp, H' b = none) E s1) E s
def PIEG (X : Cx) (pins : List (Addr × Obj)) (σ : L2.St) (tg : Expr) (nn : Nat) (GU : Value → Prop) (R : It → Hp → Prop) (itv : Value) (s2 : Shared) : Prop :=
  ∃ (it : Addr) (fp : List Addr) (tn : Nat → Heap → Prop) (J : It) (H' : Hp), itv = .ref it ∧ Inv X pins σ H' s2 ∧ Turn X.prog X.w X.K tg J fp it tn ∧ ItemG X.prog X.w X.K tg J fp it tn nn GU ∧ tn 0 s2.heap ∧ (∀ b ∈ fp, FpOk X pins H' b) ∧ R J H'
structure PIG (nn : Nat) (X : Cx) (tg iter : Expr) (GU : Value → Prop) (wi : TI) : Prop where
  run : ∀ (pins : List (Addr × Obj)) (s : Shared) (σ : L2.St) (H : Hp) (R : It → Hp → Prop), Inv X pins σ H s → wi σ H R →
    wpAny (model X.prog X.w) X.A (eval iter X.env) (fun v s1 => wpAny (model X.prog X.w) X.A (pyIter v) (PIEG X pins σ tg nn GU R) X.xe s1) X.xe s
theorem pig_of {nn : Nat} {X : Cx} {tg iter : Expr} {wi : TI} (h : PI X tg iter wi) : PIG nn X tg iter (fun _ => True) wi := by
  refine ⟨fun pins s σ H R I q => thn (h.run pins s σ H R I q) fun v s1 h1 => thn h1 fun itv s2 h2 => ?_⟩
  obtain ⟨it, fp, tn, J, H', e, I', T, st, fo, r⟩ := h2
  refine ⟨it, fp, tn, J, H', e, I', T, ?_, st, fo, r⟩
  intro Y e1 e2 e3 hc i pins s σ H E _ I f t g
  exact thn (T.item Y e1 e2 e3 hc i pins s σ H E I f t g) fun r s1 ⟨u, hu, z⟩ => ⟨u, hu, thn z fun _ s2 ⟨x, H', a, b, c, d, e⟩ => ⟨x, H', a, b, trivial, c, d, e⟩⟩
theorem wipe_in {σ : L2.St} {i : Nat} (hi : i < σ.length) : ∀ {vs : List Nat}, i ∈ vs → (wipe σ vs)[i]? = some none
  | [], h => by cases h
  | v :: vs, h => by
    unfold wipe
    by_cases e : v = i
    · subst e
      rw [List.getElem?_set_self (by rw [wipe_length]; exact hi)]
    · rw [List.getElem?_set_ne e]
      exact wipe_in hi ((List.mem_cons.mp h).resolve_left fun z => e z.symm)
theorem wipe_twice (σ : L2.St) (vs : List Nat) : wipe (wipe σ vs) vs = wipe σ vs := by
  refine List.ext_getElem? fun i => ?_
  by_cases m : i ∈ vs
  · by_cases hi : i < σ.length
    · rw [wipe_in hi m, wipe_in (by rw [wipe_length]; exact hi) m]
    · rw [List.getElem?_eq_none (by rw [wipe_length, wipe_length]; omega), List.getElem?_eq_none (by rw [wipe_length]; omega)]
  · rw [wipe_out m]
/-- one turn of the block: the target, the tests, the item -/
def TurnOk (nn : Nat) (Y : Cx) (tg : Expr) (ifs : List Expr) (elt : Expr) (GU : Value → Prop) (vs : List Nat) (tv : V → L2.St → Hp → Addr → (Hp → Prop) → Prop) : Prop :=
  ∀ (pins : List (Addr × Obj)) (s : Shared) (σ : L2.St) (H : Hp) (x : V) (u : Value) (D : Addr) (Nx : Hp → Prop), nn ≤ s.toks → Inv Y pins σ H s → RelV x u → GU u → tv x σ H D Nx →
    wpAny (model Y.prog Y.w) Y.A (assign tg Y.env u) (fun _ s2 => wpAny (model Y.prog Y.w) Y.A (forIn ifs true fun c r => if r = true then do let ok ← isTrue c Y.env (eval c Y.env); pure (ForInStep.yield ok) else pure (ForInStep.yield r)) (fun b s3 =>
      if b = true then wpAny (model Y.prog Y.w) Y.A (eval elt Y.env) (fun z s4 => ∃ (σ4 : L2.St) (y : V) (H4 : Hp) (acc : List V), Inv Y pins σ4 H4 s4 ∧ wipe σ4 vs = wipe σ vs ∧ RelV y z ∧ GdV z ∧ GLs H4 D acc ∧ acc.length < sizeLine ∧
        ∀ o', GdL o' (acc ++ [y]) → Nx (upd H4 D (.frz o' (.lst (acc ++ [y]))))) (fun _ _ => False) s3
      else ∃ (σ3 : L2.St) (H3 : Hp), Inv Y pins σ3 H3 s3 ∧ wipe σ3 vs = wipe σ vs ∧ Nx H3) (fun _ _ => False) s2) (fun _ _ => False) s
/-- the reading: D the new list -/
def tLcG (wi : TI) (tv : V → L2.St → Hp → Addr → (Hp → Prop) → Prop) (vs : List Nat) : TE := fun σ H Q => wi σ H fun J H1 => ∀ D, H1 D = none → ∀ o0, GdL o0 [] → ∃ W : Nat → Nat → Hp → Prop, (∃ m, W 0 m (upd H1 D (.frz o0 (.lst [])))) ∧ ∀ i m H, W i m H →
  (J.stop i H ∧ Q (.ref D) H) ∨ (J.go i H ∧ ∃ Nx : Hp → Prop, (∀ H', Nx H' → ∃ m', m' < m ∧ W (i + 1) m' H') ∧ ∀ x H', J.yld i H x H' → tv x (wipe σ vs) H' D Nx)
/-- an item more in the known list -/
theorem app_g {X : Cx} {pins : List (Addr × Obj)} {σ : L2.St} {H : Hp} {s : Shared} {E : Value → Shared → Prop} {D : Addr} {xs : List V} {y : V} {v : Value} {Q : Value → Shared → Prop} (I : Inv X pins σ H s) (g : GLs H D xs) (nf : Nf X D) (hz : xs.length < sizeLine) (r : RelV y v) (gv : GdV v)
    (h : ∀ s' o', s'.toks = s.toks → GdL o' (xs ++ [y]) → Inv X pins σ (upd H D (.frz o' (.lst (xs ++ [y])))) s' → Q .none s') : wpAny (model X.prog X.w) X.A (call (.builtin "list.append") [.ref D, v]) Q E s := by
  obtain ⟨o, ⟨its, n, rfl, ri, gi⟩, hH⟩ := g
  obtain ⟨hget, _⟩ := I.hok D _ hH
  have hl := ri.length
  refine append_at (hsz := by rw [List.size_toArray]; omega) hget fun h' sb ho' => ?_
  have I1 := inv_melt I hH nf
  have rv : Vals (xs ++ [y]) (its ++ [v]) := ri.append (.cons r .nil)
  have e' : h'.get? D = some { cls := .type "list", data := .seq (its ++ [v]).toArray (n + 1) } := by
    rw [ho']
    simp
  have I2 : Inv X pins σ (upd (upd H D (.lst xs)) D (.lst (xs ++ [y]))) { s with heap := h' } := I1.write (t' := s.toks) (by rw [upd_same]; trivial) (.inl rfl) (fun b u hb q => (sb.2 b hb).trans q) ⟨_, ho'⟩ ⟨by rw [List.length_append]; exact hz, its ++ [v], n + 1, rv, e'⟩
  have I3 := inv_lock I2 upd_same nf e'
  rw [upd_upd, upd_upd] at I3
  exact h _ _ rfl ⟨its ++ [v], n + 1, rfl, rv, gi.append (GdS.one gv)⟩ I3
section
variable {X : Cx}
theorem lcG_core {nn : Nat} {pins : List (Addr × Obj)} {s : Shared} {σ : L2.St} {H : Hp} {Q : VK} {elt tg iter : Expr} {ifs : List Expr} {scope : Scope} {own : List (Str × Nat)} {pos pos' : Pos} {wi : TI} {GU : Value → Prop} {tv : V → L2.St → Hp → Addr → (Hp → Prop) → Prop} {use : Option (Value → Sem Unit)} {Qf : Value → Shared → Prop}
    (hc : X.calm = true) (hN : X.N.Nodup) (k0 : nn ≤ s.toks) (I : Inv X pins σ H s) (hi : PIG nn X tg iter GU wi) (ok : BlkOk X.N X.env.scope scope own)
    (ht : ∀ (s : Shared) (H : Hp) (C : Addr) (cl : List (Str × Addr)) (fp : List Addr), TurnOk nn (X.blk s H scope (compEnvC scope cl C X.env) fp) tg ifs elt GU (own.map (·.2)) tv)
    (hs : ∀ x, foldedSetIterable iter X.env x = pure x) (h : tLcG wi tv (own.map (·.2)) σ H Q)
    (fin : ∀ D C s' m H', nn ≤ s'.toks → Inv X pins σ H' s' → Q (.ref D) H' → s'.heap.Ns C m → FpOk X pins H' C → compPost (model X.prog X.w) X.A X.xe use Qf (.ref D) C (.ok .next) s') :
    wpAny (model X.prog X.w) X.A (comprehension (.ListComp elt [⟨tg, iter, ifs, 0⟩] scope pos) scope X.env pos' (newList []) false (eval iter X.env) use) Qf X.xe s := by
  have frees : ∀ y ∈ scope.names, y.2 = .free → ∃ c, X.env.cells.lookup y.1 = some c := fun y hy e => (ok.free y hy e).elim (fun k => I.ok.has _ (.inl k)) fun k => I.ok.has _ (.inr k)
  refine wpAny_comprehension_free (use := use) rfl hs (closure_ok frees) ok.kind (fun y hy e => by rw [ok.uniq y hy, e]) (thnT (hi.run pins s σ H _ I h) fun xv s1 k1 hx => thnT hx fun itv s2 k2 h2 => ?_)
  obtain ⟨it, fp, tn, J, H2, rfl, I2, T, G, st2, f2, q⟩ := h2
  refine wpAny_newObj_type (newEnv_comp ?_) (by show 0 ≤ sizeLine; decide)
  obtain ⟨D, hD⟩ : ∃ D, s2.heap.objs.size = D := ⟨_, rfl⟩
  rw [hD]
  have nD : H2 D = none := I2.hok.fresh (Nat.le_of_eq hD)
  obtain ⟨s3, es3⟩ : ∃ s3 : Shared, ({ s2 with heap := s2.heap.push { cls := .type "list", data := .seq ([] : List Value).toArray } } : Shared) = s3 := ⟨_, rfl⟩
  have heap3 : s3.heap = s2.heap.push { cls := .type "list", data := .seq ([] : List Value).toArray } := by rw [← es3]
  have tok3 : s3.toks = s2.toks := by rw [← es3]
  have at3 : s3.heap.get? D = some { cls := .type "list", data := .seq ([] : List Value).toArray } := by
    rw [heap3, ← hD]
    exact Heap.get?_push_size _ rfl
  have I3 : Inv X pins σ (upd H2 D (.lst [])) s3 := by
    rw [← es3]
    rw [← es3] at at3
    exact I2.laid (t' := s2.toks) (fun b o e => Heap.get?_push_of_some _ e) (Nat.le_of_eq hD) ⟨Nat.zero_le _, [], 0, .nil, at3⟩
  have lt2 : ∀ b ∈ fp, b < s2.heap.objs.size := fun b hb => let ⟨_, e, _⟩ := T.obj _ _ st2 b hb; Heap.lt_size e
  have neD : ∀ b ∈ fp, b ≠ D := fun b hb => by
    rw [← hD]
    exact Nat.ne_of_lt (lt2 b hb)
  have f3 : ∀ b ∈ fp, FpOk X pins (upd H2 D (.lst [])) b ∧ b < s3.heap.objs.size := fun b hb =>
    ⟨⟨by rw [upd_ne (neD b hb)]; exact (f2 b hb).1, (f2 b hb).2⟩, by rw [heap3, Heap.size_push]; exact Nat.lt_succ_of_lt (lt2 b hb)⟩
  have st3 : tn 0 s3.heap := T.keep _ _ _ st2 fun b _ o e => by
    rw [heap3]
    exact Heap.get?_push_of_some _ e
  have I4 := block_start I3 ok hN f3
  have tu := ht s3 (upd H2 D (.lst [])) s3.heap.objs.size (cellsFrom (s3.heap.objs.size + 1) scope.names (cloFrom X.env.cells scope.names [])) fp
  obtain ⟨W, ⟨m0, w0⟩, turn⟩ := q D nD { cls := .type "list", data := .seq ([] : List Value).toArray } ⟨[], 0, rfl, .nil, fun u m => by cases m⟩
  rw [es3]
  show codeAny _ _ (.compStart (.ListComp elt [⟨tg, iter, ifs, 0⟩] scope pos) 0 (.ref it) (.ref D) (compEnvC scope (cellsFrom (s3.heap.objs.size + 1) scope.names (cloFrom X.env.cells scope.names [])) s3.heap.objs.size X.env)) (compPost (model X.prog X.w) X.A X.xe use Qf (.ref D) s3.heap.objs.size) { s3 with heap := pushCells (s3.heap.push { cls := .type "dict", data := .dict #[] }) scope.names }
  obtain ⟨ce, hce⟩ : ∃ ce, compEnvC scope (cellsFrom (s3.heap.objs.size + 1) scope.names (cloFrom X.env.cells scope.names [])) s3.heap.objs.size X.env = ce := ⟨_, rfl⟩
  have cL : ce.locals = s3.heap.objs.size := by rw [← hce]; rfl
  rw [hce] at I4 tu ⊢
  obtain ⟨s4, es4⟩ : ∃ s4 : Shared, ({ s3 with heap := pushCells (s3.heap.push { cls := .type "dict", data := .dict #[] }) scope.names } : Shared) = s4 := ⟨_, rfl⟩
  rw [es4] at I4 ⊢
  have keep4 : ∀ b o, s3.heap.get? b = some o → s4.heap.get? b = some o := fun b o e => by
    rw [← es4]
    exact pushCells_keeps _ _ _ _ (Heap.get?_push_of_some _ e)
  have tok4 : s4.toks = s3.toks := by rw [← es4]
  have st4 : tn 0 s4.heap := T.keep _ _ _ st3 fun b _ o e => keep4 b o e
  obtain ⟨H3, eH3⟩ : ∃ H3, upd H2 D (.lst []) = H3 := ⟨_, rfl⟩
  have atD : H3 D = some (.lst []) := by rw [← eH3]; exact upd_same
  have toF : upd H2 D (.frz { cls := .type "list", data := .seq ([] : List Value).toArray } (.lst [])) = upd H3 D (.frz { cls := .type "list", data := .seq ([] : List Value).toArray } (.lst [])) := by rw [← eH3, upd_upd]
  rw [toF] at w0
  rw [eH3] at I3 I4 tu f3
  have nf : Nf (X.blk s3 H3 scope ce fp) D := fun o u e => by
    have e : H3 D = some (.frz o u) := e
    rw [atD] at e
    cases e
  have I4f := inv_lock I4 atD nf (keep4 _ _ at3)
  have nfp : ∀ b ∈ fp, (upd H3 D (.frz { cls := .type "list", data := .seq ([] : List Value).toArray } (.lst []))) b = none := fun b hb => by
    rw [upd_ne (neD b hb)]
    exact (f3 b hb).1.1
  have own' : ∀ {σ' : L2.St} {H' : Hp} {s' : Shared}, Inv (X.blk s3 H3 scope ce fp) [] σ' H' s' → (∀ b ∈ fp, H' b = none) → ∀ b ∈ fp, FpOk (X.blk s3 H3 scope ce fp) [] H' b := fun {σ' H' s'} I' hn b hb =>
    ⟨hn b hb, (I'.ok.exf b hb).1, I'.ok.exfs b hb, .inl hb, fun x c e => (I'.ok.exf b hb).2 x c e, fun p hp => absurd (show p ∈ ([] : List (Addr × Obj)) ++ [] from hp) (by simp)⟩
  have loop : codeAny (model X.prog X.w) X.A (.compLoop (.ListComp elt [⟨tg, iter, ifs, 0⟩] scope pos) 0 (.ref it) (.ref D) ce) (compPost (model X.prog X.w) X.A X.xe use Qf (.ref D) s3.heap.objs.size) s4 := by
    refine compLoop_any (fun n s' => nn ≤ s'.toks ∧ ∃ i H', Inv (X.blk s3 H3 scope ce fp) [] (wipe σ (own.map (·.2))) H' s' ∧ tn i s'.heap ∧ (∀ b ∈ fp, H' b = none) ∧ W i n H') ?_ m0 ⟨by omega, 0, _, I4f, st4, nfp, w0⟩
    rintro n s5 ⟨k5, i, H5, I5, st5, n5, w5⟩
    rcases turn i n H5 w5 with ⟨stop, qq⟩ | ⟨go, Nx, hNx, step⟩
    · refine thnF (wpAny_mono (PySem.wpAny_toks (T.done (X.blk s3 H3 scope ce fp) rfl rfl rfl hc i [] s5 _ H5 (fun _ _ => False) I5 (own' I5 n5) st5 stop)) (fun _ _ z => z) fun _ _ z => z.2) fun r s6 ⟨k6, hr, I6⟩ => ?_
      subst hr
      have back : Inv X pins σ H5 s6 := I3.call' (ch := fp) I6.os I6.base I6.hok I6.bare fun b hb => ⟨(f3 b hb).1.2.2.2.1, (f3 b hb).1.2.1, (f3 b hb).1.2.2.2.2.1, (f3 b hb).1.2.2.2.2.2⟩
      have none5 : H5 s3.heap.objs.size = none := by
        have z : H5 ce.locals = none := I6.free
        rwa [cL] at z
      obtain ⟨m, hm, _⟩ := I6.loc
      have hm : s6.heap.Ns ce.locals m := hm
      rw [cL] at hm
      exact fin D s3.heap.objs.size s6 m H5 (by omega) back qq hm (I3.fpOk (Nat.le_refl _) none5)
    · refine thnF (wpAny_mono (PySem.wpAny_toks (G (X.blk s3 H3 scope ce fp) rfl rfl rfl hc i [] s5 _ H5 (fun _ _ => False) k5 I5 (own' I5 n5) st5 go)) (fun _ _ z => z) fun _ _ z => z.2) fun r s6 ⟨k6, u, hr, h6⟩ => ?_
      subst hr
      refine thnF (wpAny_mono (PySem.wpAny_toks h6) (fun _ _ z => z) fun _ _ z => z.2) fun _ s7 ⟨k7, x, H7, I7, r7, gu, y7, st7, n7⟩ => ?_
      have I7' := I7.pinned (own' I7 n7) (T.obj _ _ st7)
      have endT : ∀ {s' : Shared} {σ' : L2.St} {H' : Hp}, nn ≤ s'.toks → Inv (X.blk s3 H3 scope ce fp) ([] ++ pinsAt fp s7.heap) σ' H' s' → wipe σ' (own.map (·.2)) = wipe (wipe σ (own.map (·.2))) (own.map (·.2)) → Nx H' →
          ∃ m, m < n ∧ nn ≤ s'.toks ∧ ∃ i H', Inv (X.blk s3 H3 scope ce fp) [] (wipe σ (own.map (·.2))) H' s' ∧ tn i s'.heap ∧ (∀ b ∈ fp, H' b = none) ∧ W i m H' := fun {s' σ' H'} k' I' hw nx => by
        obtain ⟨m', hm, w'⟩ := hNx H' nx
        have pin' : ∀ b ∈ fp, ∀ o, s7.heap.get? b = some o → s'.heap.get? b = some o ∧ H' b = none := fun b hb o e =>
          have z := I'.pin (b, o) (List.mem_append_right _ (List.mem_append_right _ (mem_pinsAt hb e)))
          ⟨z.1, z.2.1⟩
        have ww : wipe (wipe σ (own.map (·.2))) (own.map (·.2)) = wipe σ (own.map (·.2)) := wipe_twice _ _
        rw [ww] at hw
        have hl : (wipe σ (own.map (·.2))).length = σ'.length := by rw [← hw, wipe_length]
        refine ⟨m', hm, k', i + 1, H', (I'.unpinned (pins := [])).weak hl (fun j v e => ?_), T.keep _ _ _ st7 fun b hb o e => (pin' b hb o e).1, fun b hb => ?_, w'⟩
        · rw [← hw] at e
          exact (wipe_some e).1
        · obtain ⟨o, e, _⟩ := T.obj _ _ st7 b hb
          exact (pin' b hb o e).2
      have one := tu _ s7 _ H7 x u D Nx (by omega) I7' r7 gu (step x H7 y7)
      refine thnF (wpAny_mono (PySem.wpAny_toks one) (fun _ _ z => z) fun _ _ z => z.2) fun _ s8 ⟨k8, q8⟩ => ?_
      refine thnF (wpAny_mono (PySem.wpAny_toks q8) (fun _ _ z => z) fun _ _ z => z.2) fun b s9 ⟨k9, q9⟩ => ?_
      cases b with
      | false =>
        simp only [Bool.false_eq_true, if_false] at q9 ⊢
        obtain ⟨σ9, H9, I9, hw9, nx⟩ := q9
        exact endT (by omega) I9 hw9 nx
      | true =>
        simp only [if_true] at q9 ⊢
        refine thnF (wpAny_mono (PySem.wpAny_toks q9) (fun _ _ z => z) fun _ _ z => z.2) fun z s10 ⟨k10, σ10, y, H10, acc, I10, hw10, r10, g10, gl, hz10, nx⟩ => ?_
        exact app_g (X := X.blk s3 H3 scope ce fp) I10 gl nf hz10 r10 g10 fun s11 o' k11 g11 I11 => endT (by omega) I11 hw10 (nx o' g11)
  exact codeAny_compStart_list loop (T.self X.A 0 _ _ _ st4 loop)
end
end Moot
/-! A run has one end: two things that are true of a run's end are true together. -/
namespace Moot
open PySem
theorem runs_one {M : Model} {Γ : Ctx} {p : Pos} {t : Sem Fin} {fs : List Frame} {s s' : Shared} {e : End} (h : Runs M Γ p t fs s e s') : ∀ {e2 : End} {s2 : Shared}, Runs M Γ p t fs s e2 s2 → e = e2 ∧ s' = s2 := by
  induction h with
  | done => intro e2 s2 g; cases g; exact ⟨rfl, rfl⟩
  | raise => intro e2 s2 g; cases g; exact ⟨rfl, rfl⟩
  | again _ _ ih => intro e2 s2 g; cases g with | again _ g => exact ih g
  | rule _ ih => intro e2 s2 g; cases g with | rule g => exact ih g
  | «at» _ ih => intro e2 s2 g; cases g with | «at» g => exact ih g
  | load ho _ ih =>
    intro e2 s2 g
    cases g with
    | load ho' g =>
      rw [ho] at ho'
      cases ho'
      exact ih g
  | update _ _ ih => intro e2 s2 g; cases g with | update _ g => exact ih g
  | loadIfAlive _ ih => intro e2 s2 g; cases g with | loadIfAlive g => exact ih g
  | point _ ih => intro e2 s2 g; cases g with | point g => exact ih g
  | alloc _ ih => intro e2 s2 g; cases g with | alloc g => exact ih g
  | fresh _ ih => intro e2 s2 g; cases g with | fresh g => exact ih g
  | ask _ ih => intro e2 s2 g; cases g with | ask g => exact ih g
  | choose _ _ ih => intro e2 s2 g; cases g with | choose _ g => exact ih g
  | os _ ih => intro e2 s2 g; cases g with | os g => exact ih g
  | handled _ ih => intro e2 s2 g; cases g with | handled g => exact ih g
  | genState hs _ ih =>
    intro e2 s2 g
    cases g with
    | genState hs' g =>
      rw [hs] at hs'
      cases hs'
      exact ih g
  | stack _ ih => intro e2 s2 g; cases g with | stack g => exact ih g
  | thread _ ih => intro e2 s2 g; cases g with | thread g => exact ih g
  | newGen _ ih => intro e2 s2 g; cases g with | newGen g => exact ih g
  | call _ _ ih1 ih2 =>
    intro e2 s2 g
    cases g with
    | call g1 g2 =>
      obtain ⟨a, b⟩ := ih1 g1
      cases a
      subst b
      exact ih2 g2
    | callSusp g1 => exact nomatch (ih1 g1).1
  | callSusp _ ih1 =>
    intro e2 s2 g
    cases g with
    | call g1 g2 => exact nomatch (ih1 g1).1
    | callSusp g1 =>
      obtain ⟨a, b⟩ := ih1 g1
      cases a
      exact ⟨rfl, b⟩
  | yield => intro e2 s2 g; cases g; exact ⟨rfl, rfl⟩
  | resumeFresh hg _ _ _ ih1 ih2 =>
    intro e2 s2 g
    cases g with
    | resumeFresh hg' g1 _ g2 =>
      rw [hg] at hg'
      cases hg'
      obtain ⟨a, b⟩ := ih1 g1
      subst a b
      exact ih2 g2
    | resumeSuspended hg' _ _ _ => rw [hg] at hg'; cases hg'
    | resumeJustStarted _ hv _ => exact absurd rfl hv
    | resumeRunning hg' _ => rw [hg] at hg'; cases hg'
    | resumeFinished hg' _ => rw [hg] at hg'; cases hg'
  | resumeSuspended hg _ _ _ ih1 ih2 =>
    intro e2 s2 g
    cases g with
    | resumeSuspended hg' g1 _ g2 =>
      rw [hg] at hg'
      cases hg'
      obtain ⟨a, b⟩ := ih1 g1
      subst a b
      exact ih2 g2
    | resumeFresh hg' _ _ _ => rw [hg] at hg'; cases hg'
    | resumeJustStarted hg' _ _ => rw [hg] at hg'; cases hg'
    | resumeThrowFresh hg' _ => rw [hg] at hg'; cases hg'
    | resumeRunning hg' _ => rw [hg] at hg'; cases hg'
    | resumeFinished hg' _ => rw [hg] at hg'; cases hg'
  | resumeJustStarted hg hv _ ih =>
    intro e2 s2 g
    cases g with
    | resumeFresh _ _ _ _ => exact absurd rfl hv
    | resumeSuspended hg' _ _ _ => rw [hg] at hg'; cases hg'
    | resumeJustStarted _ _ g => exact ih g
    | resumeRunning hg' _ => rw [hg] at hg'; cases hg'
    | resumeFinished hg' _ => rw [hg] at hg'; cases hg'
  | resumeThrowFresh hg _ ih =>
    intro e2 s2 g
    cases g with
    | resumeSuspended hg' _ _ _ => rw [hg] at hg'; cases hg'
    | resumeThrowFresh _ g => exact ih g
    | resumeRunning hg' _ => rw [hg] at hg'; cases hg'
    | resumeFinished hg' _ => rw [hg] at hg'; cases hg'
  | resumeRunning hg _ ih =>
    intro e2 s2 g
    cases g with
    | resumeFresh hg' _ _ _ => rw [hg] at hg'; cases hg'
    | resumeSuspended hg' _ _ _ => rw [hg] at hg'; cases hg'
    | resumeJustStarted hg' _ _ => rw [hg] at hg'; cases hg'
    | resumeThrowFresh hg' _ => rw [hg] at hg'; cases hg'
    | resumeRunning _ g => exact ih g
    | resumeFinished hg' _ => rw [hg] at hg'; cases hg'
  | resumeFinished hg _ ih =>
    intro e2 s2 g
    cases g with
    | resumeFresh hg' _ _ _ => rw [hg] at hg'; cases hg'
    | resumeSuspended hg' _ _ _ => rw [hg] at hg'; cases hg'
    | resumeJustStarted hg' _ _ => rw [hg] at hg'; cases hg'
    | resumeThrowFresh hg' _ => rw [hg] at hg'; cases hg'
    | resumeRunning hg' _ => rw [hg] at hg'; cases hg'
    | resumeFinished _ g => exact ih g
  | segRet _ _ ih1 ih2 =>
    intro e2 s2 g
    cases g with
    | segRet g1 g2 =>
      obtain ⟨a, b⟩ := ih1 g1
      cases a
      subst b
      exact ih2 g2
    | segSuspOut _ g1 => exact nomatch (ih1 g1).1
    | segSuspGen _ g1 _ _ => exact nomatch (ih1 g1).1
  | segGen _ _ ih1 ih2 =>
    intro e2 s2 g
    cases g with
    | segGen g1 g2 =>
      obtain ⟨a, b⟩ := ih1 g1
      cases a
      subst b
      exact ih2 g2
    | segSuspOut _ g1 => exact nomatch (ih1 g1).1
    | segSuspGen _ g1 _ _ => exact nomatch (ih1 g1).1
  | segSuspOut hs _ ih1 =>
    intro e2 s2 g
    cases g with
    | segRet g1 _ => exact nomatch (ih1 g1).1
    | segGen g1 _ => exact nomatch (ih1 g1).1
    | segSuspOut _ g1 =>
      obtain ⟨a, b⟩ := ih1 g1
      cases a
      exact ⟨rfl, b⟩
    | segSuspGen hs' _ _ _ => rw [hs] at hs'; cases hs'
  | segSuspGen hs _ _ _ ih1 ih2 =>
    intro e2 s2 g
    cases g with
    | segRet g1 _ => exact nomatch (ih1 g1).1
    | segGen g1 _ => exact nomatch (ih1 g1).1
    | segSuspOut hs' _ => rw [hs] at hs'; cases hs'
    | segSuspGen hs' g1 _ g2 =>
      rw [hs] at hs'
      cases hs'
      obtain ⟨a, b⟩ := ih1 g1
      cases a
      subst b
      exact ih2 g2
theorem returns_one {M : Model} {Γ : Ctx} {p : Pos} {s s1 s2 : Shared} {r1 r2 : Result} (h : Returns M Γ p s r1 s1) (g : Returns M Γ p s r2 s2) : r1 = r2 ∧ s1 = s2 := by
  obtain ⟨a, b⟩ := runs_one h g
  cases a
  exact ⟨rfl, b⟩
theorem wakes_one {M : Model} {Γ : Ctx} {p : Pos} {g : Nat} {r : Resume} {s s1 s2 : Shared} {a b : GenResult} (h : Wakes M Γ p g r s a s1) (h2 : Wakes M Γ p g r s b s2) : a = b ∧ s1 = s2 := by
  unfold Wakes at h h2
  split at h
  · exact h.elim
  · rename_i e
    simp only [e] at h2
    split at h
    · obtain ⟨e1, t1, x1, _, rfl, rfl⟩ := h
      obtain ⟨e2, t2, x2, _, rfl, rfl⟩ := h2
      obtain ⟨u, v⟩ := runs_one x1 x2
      subst u v
      exact ⟨rfl, rfl⟩
    · rename_i hne
      split at h2
      · rename_i z
        first
          | (injection z with z; exact (hne z).elim)
          | exact (hne rfl).elim
      · exact ⟨h.1.trans h2.1.symm, h.2.trans h2.2.symm⟩
      · rename_i z; cases z
    · exact ⟨h.1.trans h2.1.symm, h.2.trans h2.2.symm⟩
  · rename_i e
    simp only [e] at h2
    obtain ⟨e1, t1, x1, _, rfl, rfl⟩ := h
    obtain ⟨e2, t2, x2, _, rfl, rfl⟩ := h2
    obtain ⟨u, v⟩ := runs_one x1 x2
    subst u v
    exact ⟨rfl, rfl⟩
  · rename_i e
    simp only [e] at h2
    exact ⟨h.1.trans h2.1.symm, h.2.trans h2.2.symm⟩
  · rename_i e
    simp only [e] at h2
    exact ⟨h.1.trans h2.1.symm, h.2.trans h2.2.symm⟩
theorem wp_both {α : Type} (M : Model) (Γ : Ctx) (t : Sem α) : ∀ (Q R : α → Pos → Shared → Prop) (E F : Value → Pos → Shared → Prop) (p : Pos) (s : Shared), Sem.wp M Γ t Q E p s → Sem.wp M Γ t R F p s →
    Sem.wp M Γ t (fun a p' s' => Q a p' s' ∧ R a p' s') (fun e p' s' => E e p' s' ∧ F e p' s') p s := by
  induction t with
  | pure a => intro Q R E F p s h g; exact ⟨h, g⟩
  | raise e => intro Q R E F p s h g; exact ⟨h, g⟩
  | unsupported _ => intro Q R E F p s h g; exact h
  | finish _ => intro Q R E F p s h g; exact h
  | rule _ k ih => intro Q R E F p s h g; exact ih () Q R E F p s h g
  | «at» p' k ih => intro Q R E F p s h g; exact ih () Q R E F p' s h g
  | load a _ k ih =>
    intro Q R E F p s h g
    obtain ⟨o, ho, h⟩ := h
    obtain ⟨o', ho', g⟩ := g
    rw [ho] at ho'
    cases ho'
    exact ⟨o, ho, ih o Q R E F p s h g⟩
  | update a _ f k ih => intro Q R E F p s h g; exact ⟨h.1, ih () Q R E F p _ h.2 g.2⟩
  | loadIfAlive a k ih => intro Q R E F p s h g; exact ih _ Q R E F p s h g
  | point _ k ih => intro Q R E F p s h g; exact ih () Q R E F p s h g
  | register _ _ => intro Q R E F p s h g; exact h
  | alloc o k ih => intro Q R E F p s h g; exact ih _ Q R E F p _ h g
  | fresh k ih => intro Q R E F p s h g; exact ih _ Q R E F p _ h g
  | ask k ih => intro Q R E F p s h g; exact ih _ Q R E F p s h g
  | choose src m k ih => intro Q R E F p s h g; exact ⟨h.1, ih _ Q R E F p _ h.2 g.2⟩
  | os q _ k ih => intro Q R E F p s h g; exact ih _ Q R E F p _ h g
  | call c hd _ _ k ih =>
    intro Q R E F p s h g
    obtain ⟨r, s', hr, h⟩ := h
    obtain ⟨r2, s2, hr2, g⟩ := g
    obtain ⟨a, b⟩ := returns_one hr hr2
    subst a b
    exact ⟨r, s', hr, ih r Q R E F p s' h g⟩
  | handled own k ih => intro Q R E F p s h g; exact ih _ Q R E F p s h g
  | genState x k ih =>
    intro Q R E F p s h g
    obtain ⟨st, hs, h⟩ := h
    obtain ⟨st', hs', g⟩ := g
    rw [hs] at hs'
    cases hs'
    exact ⟨st, hs, ih _ Q R E F p s h g⟩
  | newGen c k ih => intro Q R E F p s h g; exact ih _ Q R E F p _ h g
  | resume x r _ k ih =>
    intro Q R E F p s h g
    obtain ⟨res, s', hw, h⟩ := h
    obtain ⟨res2, s2, hw2, g⟩ := g
    obtain ⟨a, b⟩ := wakes_one hw hw2
    subst a b
    exact ⟨res, s', hw, ih res Q R E F p s' h g⟩
  | yield _ _ _ _ => intro Q R E F p s h g; exact h
  | stack k ih => intro Q R E F p s h g; exact ih _ Q R E F p s h g
  | fork _ _ => intro Q R E F p s h g; exact h
  | thread k ih => intro Q R E F p s h g; exact ih _ Q R E F p s h g
  | await _ _ _ _ _ => intro Q R E F p s h g; exact h
theorem wpAny_both {α : Type} {M : Model} {A : Around} {t : Sem α} {Q R : α → Shared → Prop} {E F : Value → Shared → Prop} {s : Shared} (h : wpAny M A t Q E s) (g : wpAny M A t R F s) : wpAny M A t (fun a s' => Q a s' ∧ R a s') (fun e s' => E e s' ∧ F e s') s :=
  fun Γ p hΓ => wp_both M Γ t _ _ _ _ p s (h Γ p hΓ) (g Γ p hΓ)
end Moot
/-! Comprehensions as values; names drawn letter by letter. -/
namespace Moot
open PySem PySem.Spec PyProof.Rows L2
section
variable {X : Cx}
/-- the turn by its three rules -/
def tvOf (g : TG) (te : TE) (vs : List Nat) : V → L2.St → Hp → Addr → (Hp → Prop) → Prop := fun x σ H D Nx => g x σ H fun σ2 H2 => wipe σ2 vs = wipe σ vs ∧ te σ2 H2 fun y H4 =>
  ∃ acc, GLs H4 D acc ∧ acc.length < sizeLine ∧ ∀ o', GdL o' (acc ++ [y]) → Nx (upd H4 D (.frz o' (.lst (acc ++ [y]))))
theorem turn_of {nn : Nat} {Y : Cx} {tg elt : Expr} {g : TG} {te : TE} {vs : List Nat} (xe : Y.xe = fun _ _ => False) (hg : PG Y tg g) (he : PEK nn Y elt te) : TurnOk nn Y tg [] elt (fun _ => True) vs (tvOf g te vs) := by
  intro pins s σ H x u D Nx k0 I r _ h
  have h1 := hg.run pins s σ H x u _ I r h
  rw [xe] at h1
  refine thnT h1 fun _ s2 k2 ⟨σ2, H2, I2, hw, q2⟩ => wpAny_tests_nil ?_
  rw [if_pos rfl]
  have h2 := he.run pins s2 σ2 H2 _ (by omega) I2 q2
  rw [xe] at h2
  exact thn h2 fun z s4 ⟨y, H4, I4, r4, g4, acc, a1, a2, a3⟩ => ⟨σ2, y, H4, acc, I4, hw, r4, g4, a1, a2, a3⟩
/-- as a value -/
theorem pek_lcG {nn : Nat} {elt tg iter : Expr} {ifs : List Expr} {scope : Scope} {own : List (Str × Nat)} {pos : Pos} {wi : TI} {GU : Value → Prop} {tv : V → L2.St → Hp → Addr → (Hp → Prop) → Prop} (hc : X.calm = true) (hN : X.N.Nodup) (hi : PIG nn X tg iter GU wi) (ok : BlkOk X.N X.env.scope scope own)
    (ht : ∀ (s : Shared) (H : Hp) (C : Addr) (cl : List (Str × Addr)) (fp : List Addr), TurnOk nn (X.blk s H scope (compEnvC scope cl C X.env) fp) tg ifs elt GU (own.map (·.2)) tv) (hs : ∀ x, foldedSetIterable iter X.env x = pure x := by intro _; rfl) :
    PEK nn X (.ListComp elt [⟨tg, iter, ifs, 0⟩] scope pos) (tLcG wi tv (own.map (·.2))) := by
  refine ⟨fun pins s σ H Q k0 I h => ?_⟩
  rw [eval_ListComp]
  refine lcG_core hc hN k0 I hi ok ht hs h fun D C s' m H' _ I' q hn f => ⟨m, hn, fun h'' sb => ?_⟩
  obtain ⟨f0, f1, f2, f3, f4, f5⟩ := f
  exact ⟨.ref D, H', I'.turned (t' := s'.toks) (fun b o hb e => (sb.2 b hb).trans e) f0 f1 f3 f4 f5, rfl, trivial, q⟩
/-- where nothing is asked of the tokens given out -/
theorem PEK.pe {e : Expr} {t : TE} (h : PEK 0 X e t) : PE X e t := ⟨fun pins s σ H Q I q => thn (h.run pins s σ H Q (Nat.zero_le _) I q) fun _ _ ⟨v, H', a, b, _, d⟩ => ⟨v, H', a, b, d⟩⟩
/-- a text's signs, each with a token -/
theorem pig_str {tg e : Expr} {te : TE} (he : PE X e te) : PIG 1 X tg e GdV (iStr te) := by
  refine ⟨fun pins s σ H R I h => thn (he.run pins s σ H _ I h) fun v s1 ⟨y, H1, I1, r1, x, ex, q⟩ => ?_⟩
  subst ex
  obtain ⟨t, rfl⟩ := r1
  have items : ∀ (P : Program) (w : World) (K : PySem.W.Frag) (it : Addr) (ty : String), (ty = "str_ascii_iterator" ∨ ty = "str_iterator") → ItemG P w K tg (Its x) [it] it (fun i h => h.IsStrIter it ty x t i) 1 GdV := by
    intro P w K it ty hty Y e1 e2 e3 hc i pins s σ H E k0 I hf st go
    subst e1 e2 e3
    obtain ⟨f0, f1, f2, f3, f4, f5⟩ := hf it (by simp)
    have hno : ["enumerate", "zip", "dict_itemiterator", "dict_reverseitemiterator", "odict_iterator", "itertools.zip_longest", "itertools.pairwise"].contains ty = false := by
      rcases hty with e | e <;> rw [e] <;> decide
    have go : i < x.cps.size := go
    have fin : ∀ h', h'.IsStrIter it ty x t (i + 1) → Heap.SameBut it s.heap h' → (fun (r : Option Value) (s1 : Shared) => ∃ u, r = some u ∧ wpAny (model Y.prog Y.w) Y.A (letOwnedTupleGo tg (.ref it) u) (fun _ s2 => ∃ x' H', Inv Y pins σ H' s2 ∧ RelV x' u ∧ GdV u ∧ (Its x).yld i H x' H' ∧ s2.heap.IsStrIter it ty x t (i + 1) ∧ ∀ b ∈ [it], H' b = none) E s1)
        (some (.str ⟨#[x.cps[i]]⟩ s.toks)) { s with heap := h', toks := s.toks + 1 } := fun h' st' sb => by
      have I1 : Inv Y pins σ H { s with heap := h', toks := s.toks + 1 } := I.turned (fun b o hb e => (sb.2 b hb).trans e) f0 f1 f3 f4 f5
      obtain ⟨oi, e, cc, dd⟩ := id st'
      exact ⟨_, rfl, go_of (s := { s with heap := h', toks := s.toks + 1 }) e cc dd hno ⟨.str ⟨#[x.cps[i]]⟩, H, I1, ⟨_, rfl⟩, (show s.toks ≠ 0 by omega), ⟨rfl, _, by simp [go], rfl⟩, st', fun b hb => (hf b hb).1⟩⟩
    rcases hty with e | e
    · subst e
      exact wpAny_pyNext_ascii_item st (c := x.cps[i]) (by simp [go]) fin
    · subst e
      exact wpAny_pyNext_wide_item st (c := x.cps[i]) (by simp [go]) fin
  have one : ∀ (o : Obj) (ty : String), (ty = "str_ascii_iterator" ∨ ty = "str_iterator") → (s1.heap.push o).IsStrIter s1.heap.objs.size ty x t 0 → PIEG X pins σ tg 1 GdV R (.ref s1.heap.objs.size) { s1 with heap := s1.heap.push o } := fun o ty hty st => by
    refine ⟨s1.heap.objs.size, [s1.heap.objs.size], _, Its x, H1, rfl, I1.kept (t' := s1.toks) fun b ob e => Heap.get?_push_of_some _ e, turn_str _ x t ty hty.symm.symm, items _ _ _ _ ty hty, st, fun b hb => ?_, q⟩
    have e : b = s1.heap.objs.size := by simpa using hb
    subst e
    exact I1.fpOk (Nat.le_refl _) (I1.hok.fresh (Nat.le_refl _))
  cases ha : x.cps.all (· < 128)
  · exact wpAny_pyIter_wide ha (one _ "str_iterator" (.inr rfl) ⟨_, Heap.get?_push_size _ rfl, rfl, rfl⟩)
  · exact wpAny_pyIter_ascii ha (one _ "str_ascii_iterator" (.inl rfl) ⟨_, Heap.get?_push_size _ rfl, rfl, rfl⟩)
end
end Moot
namespace Moot
open PySem PySem.Spec PyProof.Rows L2
theorem inV_txt (z : Str) (xs : List Str) : inV (.str z) (xs.map V.str) = decide (z ∈ xs) := by
  unfold inV
  rw [List.any_map, Bool.eq_iff_iff, List.any_eq_true, decide_eq_true_eq]
  constructor
  · rintro ⟨y, m, e⟩
    have : y = z := by simpa [eqV] using e
    exact this ▸ m
  · intro m
    exact ⟨z, m, by simp [eqV]⟩
theorem flat_txts (xs : List Str) : (xs.map V.str).all flatV = true := by
  rw [List.all_map]
  exact List.all_eq_true.mpr fun _ _ => rfl
section
variable {Y : Cx} {pins : List (Addr × Obj)} {σ : L2.St} {H : Hp} {s : Shared}
/-- a local's own value -/
theorem raw_local {y : Str} {pos : Pos} {m : Str → Option Value} {u : Value} {Q E : Value → Shared → Prop} (ok : Y.Ok) (hk : Y.env.scope.names.lookup y = some .local) (hn : s.heap.Ns Y.env.locals m) (hm : m y = some u) (h : Q u s)
    (hd : (y == ("__debug__" : Str)) = false := by decide) : wpAny (model Y.prog Y.w) Y.A (eval (.Name y pos) Y.env) Q E s := wpAny_Name (wpAny_loadName_local ok.kind hk hn hm h) hd
/-- a local is stored: which value it has is known -/
theorem store_both {i : Nat} {y : Str} {v : V} {u : Value} {E : Value → Shared → Prop} (I : Inv Y pins σ H s) (hN : Y.N.Nodup) (hi : Y.N[i]? = some y) (hk : Y.env.scope.names.lookup y = some .local) (r : RelV v u) :
    wpAny (model Y.prog Y.w) Y.A (storeName Y.env y u) (fun _ s' => Inv Y pins (σ.set i (some v)) H s' ∧ ∃ m, s'.heap.Ns Y.env.locals m ∧ m y = some u) E s := by
  obtain ⟨m, hn, _⟩ := I.loc
  have hcls : (Y.env.scope.kind == .class || (Y.env.scope.kind == .module && Y.env.locals != Y.env.globals)) = false := by rw [I.ok.kind]; rfl
  exact wpAny_mono (wpAny_both (store_ok (Q := fun _ s' => Inv Y pins (σ.set i (some v)) H s') (E := E) I hN hi (.inl hk) r (fun _ I' => I') (.inr hk))
    (wpAny_storeName_local (Q := fun _ s' => ∃ m, s'.heap.Ns Y.env.locals m ∧ m y = some u) (E := E) hk hn (fun h' hn' _ => ⟨_, hn', by simp⟩) hcls)) (fun _ _ z => z) fun _ _ z => z.1
/-- y not in f, y a local text, f a list of texts: nothing changes -/
theorem raw_notin {j : Nat} {y f z : Str} {t : Tok} {l : Addr} {zs : List Str} {p2 p3 p4 : Pos} {whole : Sem Value} {m : Str → Option Value} {Q : Bool → Shared → Prop} {E : Value → Shared → Prop} (I : Inv Y pins σ H s) (hk : Y.env.scope.names.lookup y = some .local) (hn : s.heap.Ns Y.env.locals m) (hm : m y = some (.str z t))
    (hj : Y.N[j]? = some f) (hf : Vis Y.env.scope f) (hσ : σ[j]? = some (some (.ref l))) (hl : SqL Y.K H l (zs.map V.str)) (h : Q (!decide (z ∈ zs)) s)
    (hdy : (y == ("__debug__" : Str)) = false := by decide) (hdf : (f == ("__debug__" : Str)) = false := by decide) (hcf : (f == ("__classdict__" : Str)) = false := by decide) :
    wpAny (model Y.prog Y.w) Y.A (isTrue (.Compare (.Name y p2) [.NotIn] [.Name f p3] p4) Y.env whole) Q E s := by
  refine wpAny_isTrue_Compare1 (raw_local I.ok hk hn hm (raw_name hj hf I hσ (fun u r => ?_) hdf hcf) hdy) rfl
  cases r
  obtain ⟨its, r, pl, hz⟩ := I.list hl
  refine SeqAt.notIn_listAt (eqU (.str z)) pl.isList (fun w hw => mem_eqAt (x := .str z) ⟨t, rfl⟩ rfl r (flat_txts zs) w (by simpa using hw)) (wpAny_truthy_bool ?_)
  rw [show its.toArray.any (eqU (.str z)) = its.any (eqU (.str z)) by simp, any_eqU r (flat_txts zs), show ((zs.map V.str).any fun y => eqV y (V.str z)) = decide (z ∈ zs) from inV_txt z zs]
  exact h
/-- [y for y in .. if y not in f] -/
def tvNotIn (K : PySem.W.Frag) (i j : Nat) : V → L2.St → Hp → Addr → (Hp → Prop) → Prop := fun x σ H D Nx => ∃ (z : Str) (l : Addr) (zs : List Str), x = .str z ∧ (σ.set i (some x))[j]? = some (some (.ref l)) ∧ SqL K H l (zs.map V.str) ∧
  (z ∈ zs → Nx H) ∧ (z ∉ zs → ∃ acc, GLs H D acc ∧ acc.length < sizeLine ∧ ∀ o', GdL o' (acc ++ [.str z]) → Nx (upd H D (.frz o' (.lst (acc ++ [.str z])))))
theorem turn_notin {nn i j : Nat} {y f : Str} {p1 p2 p3 p4 p5 : Pos} (hN : Y.N.Nodup) (hi : Y.N[i]? = some y) (hk : Y.env.scope.names.lookup y = some .local) (hj : Y.N[j]? = some f) (hf : Vis Y.env.scope f)
    (hdy : (y == ("__debug__" : Str)) = false := by decide) (hdf : (f == ("__debug__" : Str)) = false := by decide) (hcf : (f == ("__classdict__" : Str)) = false := by decide) :
    TurnOk nn Y (.Name y p1) [.Compare (.Name y p2) [.NotIn] [.Name f p3] p4] (.Name y p5) GdV [i] (tvNotIn Y.K i j) := by
  intro pins s σ H x u D Nx _ I r g h
  obtain ⟨z, l, zs, rfl, hσ, hl, q1, q2⟩ := h
  obtain ⟨t, rfl⟩ := r
  refine wpAny_assign_Name (thn (store_both I hN hi hk (v := .str z) ⟨t, rfl⟩) fun _ s2 ⟨I2, m, hn, hm⟩ => wpAny_tests_one (raw_notin I2 hk hn hm hj hf hσ hl ?_ hdy hdf hcf))
  have ws : wipe (σ.set i (some (.str z))) [i] = wipe σ [i] := by
    show (σ.set i (some (.str z))).set i none = σ.set i none
    rw [List.set_set]
  by_cases c : z ∈ zs
  · rw [decide_eq_true c]
    exact (if_neg (by decide)).mpr ⟨_, H, I2, ws, q1 c⟩
  · rw [decide_eq_false c]
    obtain ⟨acc, a1, a2, a3⟩ := q2 c
    exact (if_pos rfl).mpr (raw_local I2.ok hk hn hm ⟨_, .str z, H, acc, I2, ws, ⟨t, rfl⟩, g, a1, a2, a3⟩ hdy)
end
end Moot
namespace Moot
open PySem PySem.Spec PyProof.Rows L2
section
variable {X : Cx}
/-- behind the name: it, or the first letter that is free, is put behind the others -/
def Put (i jf : Nat) (tl : TE) (X : Cx) (D : Ends) (σ : L2.St) (z : Str) (H1 : Hp) : Prop := ∃ (l : Addr) (zs : List Str), (σ.set i (some (.str z)))[jf]? = some (some (.ref l)) ∧ GLs H1 l (zs.map V.str) ∧ Nf X l ∧ zs.length < sizeLine ∧
  (z ∉ zs → ∀ o', GdL o' (zs.map V.str ++ [.str z]) → D.nx (σ.set i (some (.str z))) (upd H1 l (.frz o' (.lst (zs.map V.str ++ [.str z]))))) ∧
  (z ∈ zs → tl (σ.set i (some (.str z))) H1 fun v H2 => ∃ (D2 : Addr) (c : Str) (r : List V), v = .ref D2 ∧ GLs H2 D2 (.str c :: r) ∧ GLs H2 l (zs.map V.str) ∧
    ∀ o', GdL o' (zs.map V.str ++ [.str c]) → D.nx (σ.set i (some (.str z))) (upd H2 l (.frz o' (.lst (zs.map V.str ++ [.str c])))))
def tJoinPut (i jf : Nat) (ta tl : TE) (X : Cx) : TS := fun D σ H => ta σ H fun v H1 => ∃ (p : Addr) (ys : List Str), v = .ref p ∧ GLs H1 p (ys.map V.str) ∧ (ys.map (·.length)).sum + ys.length * Str.empty.length ≤ 16777216 ∧ Put i jf tl X D σ (Txt.join Str.empty ys) H1
theorem pss_joinPut {i jf : Nat} {nm f : Str} {a L : Expr} {ta tl : TE} {j j2 : Nat} {pa c1 apos cpos posA q1 q2 q3 q4 q5 q6 q7 q8 q9 q10 posB : Pos} (hN : X.N.Nodup) (hi : X.N[i]? = some nm) (hk : X.env.scope.names.lookup nm = some .local) (hj : X.N[jf]? = some f) (hf : Vis X.env.scope f)
    (ha : PEK 1 X a ta) (hL : PEK 1 X L tl)
    (hsA : swapsWith (.Call (.Attribute (.Constant (.str Str.empty) j c1) "join" apos) [a] [] cpos) (some (.Name nm pa)) posA.line X.env = pure false := by rfl)
    (hsB : swapsWith (.Call (.Attribute (.Name f q1) "append" q2) [.IfExp (.Compare (.Name nm q3) [.NotIn] [.Name f q4] q5) (.Name nm q6) (.Subscript L (.Constant (.int 0) j2 q7) q8) q9] [] q10) none posB.line X.env = pure false := by rfl)
    (hb1 : attributeBase (.Constant (.str Str.empty) j c1) "join" X.env (eval (.Constant (.str Str.empty) j c1) X.env) = eval (.Constant (.str Str.empty) j c1) X.env := by rfl)
    (hf1 : ((backTo cpos (starEach [a] X.env)).all (fun x => !x.1) && (backToKw cpos (keywordEach [] X.env)).all (fun x => x.1.isSome) && decide ([a].length + ([] : List Keyword).length + (if ([] : List Keyword).isEmpty then 0 else 1) < 30)) = true := by rfl)
    (hl1 : (apos.endLine == cpos.line) = true := by rfl) (hs1 : starEach [a] X.env = [(false, eval a X.env)] := by rfl)
    (hb2 : attributeBase (.Name f q1) "append" X.env (eval (.Name f q1) X.env) = eval (.Name f q1) X.env := by rfl)
    (hf2 : ((backTo q10 (starEach [.IfExp (.Compare (.Name nm q3) [.NotIn] [.Name f q4] q5) (.Name nm q6) (.Subscript L (.Constant (.int 0) j2 q7) q8) q9] X.env)).all (fun x => !x.1) && (backToKw q10 (keywordEach [] X.env)).all (fun x => x.1.isSome) && decide ([Expr.IfExp (.Compare (.Name nm q3) [.NotIn] [.Name f q4] q5) (.Name nm q6) (.Subscript L (.Constant (.int 0) j2 q7) q8) q9].length + ([] : List Keyword).length + (if ([] : List Keyword).isEmpty then 0 else 1) < 30)) = true := by rfl)
    (hl2 : (q2.endLine == q10.line) = true := by rfl)
    (hs2 : starEach [.IfExp (.Compare (.Name nm q3) [.NotIn] [.Name f q4] q5) (.Name nm q6) (.Subscript L (.Constant (.int 0) j2 q7) q8) q9] X.env = [(false, eval (.IfExp (.Compare (.Name nm q3) [.NotIn] [.Name f q4] q5) (.Name nm q6) (.Subscript L (.Constant (.int 0) j2 q7) q8) q9) X.env)] := by rfl)
    (hix : PlainIx (.Constant (.int 0) j2 q7) := by exact fun _ _ => rfl)
    (hdy : (nm == ("__debug__" : Str)) = false := by decide) (hdf : (f == ("__debug__" : Str)) = false := by decide) (hcf : (f == ("__classdict__" : Str)) = false := by decide) :
    PSs X [.Assign [.Name nm pa] (.Call (.Attribute (.Constant (.str Str.empty) j c1) "join" apos) [a] [] cpos) posA,
      .Expr (.Call (.Attribute (.Name f q1) "append" q2) [.IfExp (.Compare (.Name nm q3) [.NotIn] [.Name f q4] q5) (.Name nm q6) (.Subscript L (.Constant (.int 0) j2 q7) q8) q9] [] q10) posB] (tJoinPut i jf ta tl X) := by
  refine ⟨fun pins s σ H D I h => ?_⟩
  refine wpAny_execs_cons (wpAny_Assign_Name (thn (pek_join (Q := fun v H1 => match v with | .str z => Put i jf tl X D σ z H1 | _ => False) ha hb1 hf1 hl1 hs1 I h) fun u s1 ⟨k1, v, H1, I1, r1, g1, q1⟩ => ?_) hsA)
  cases v with
  | str z =>
    obtain ⟨t, rfl⟩ := r1
    obtain ⟨l, zs, hσ, gl, nf, few, out, inn⟩ := q1
    refine thnT (store_both I1 hN hi hk (v := .str z) ⟨t, rfl⟩) fun _ s2 k2 ⟨I2, m, hn, hm⟩ => ?_
    show wpAny _ _ (execs [_] _) _ _ s2
    refine wpAny_execs_cons (wpAny_Expr_any ?_ I2.quiet hsB)
    show wpAny _ _ (eval _ _) (fun _ s' => wpAny _ _ (execs [] _) _ _ s') _ s2
    refine wpAny_Call_method_late hb2 hf2 hl2 rfl (raw_name hj hf I2 hσ (fun u r => ?_) hdf hcf)
    cases r
    obtain ⟨h1, h2⟩ := tyV_is (T := "list") I2 (show RelV (.ref l) (.ref l) from rfl) (.inl ⟨rfl, _, gl.seq⟩)
    refine ⟨"list", "list.append", F.plainAttrs_list, F.slot_list_append, F.type_list_append, h1, h2, ?_⟩
    rw [hs2]
    refine Calls.callWith_builtin rfl (Calls.evalArgs_plain ?_)
    show wpAny _ _ (spliced ((false, eval _ X.env) :: [])) _ _ _
    refine Calls.spliced_cons (wpAny_IfExp (raw_notin I2 hk hn hm hj hf hσ gl.seq ?_ hdy hdf hcf))
    have lz : (zs.map V.str).length < sizeLine := by rw [List.length_map]; exact few
    by_cases c : z ∈ zs
    · rw [decide_eq_true c]
      refine (if_neg (by decide)).mpr (Subscript_ (thnT (hL.run pins s2 _ H1 _ (by omega) I2 (inn c)) fun v3 s3 k3 ⟨x3, H3, I3, r3, _, D2, cc, r, e3, gD, gl3, q3⟩ => wpAny_Constant_int ?_))
      subst e3
      cases r3
      obtain ⟨oD, ⟨its, n, rfl, rv, gi⟩, hD⟩ := gD
      obtain ⟨getD, _⟩ := I3.hok D2 _ hD
      cases rv with
      | cons rc rr =>
        obtain ⟨tc, rfl⟩ := rc
        rename_i us
        refine item_listR (s := { s3 with toks := s3.toks + 1 }) (items := (Value.str cc tc :: us).toArray) ⟨_, getD, rfl, n, rfl⟩ (Int.le_refl 0) (by decide) rfl (Calls.spliced_nil ?_) (hix _ _)
        refine app_g (I3.tok (s3.toks + 1)) gl3 nf lz (y := .str cc) ⟨tc, rfl⟩ (gi _ List.mem_cons_self) fun s' o' _ g' I' => wpAny_execs_nil ⟨_, _, I', q3 o' g'⟩
    · rw [decide_eq_false c]
      refine (if_pos rfl).mpr (raw_local I2.ok hk hn hm (Calls.spliced_nil ?_) hdy)
      exact app_g I2 gl nf lz (y := .str z) ⟨t, rfl⟩ g1 fun s' o' _ g' I' => wpAny_execs_nil ⟨_, _, I', out c o' g'⟩
  | _ => exact q1.elim
end
end Moot
namespace Moot
open PySem PySem.Spec PyProof.Rows L2
section
variable {X : Cx}
/-- from here on an empty list is known to the object -/
theorem pss_known {rest : List Stmt} {u : TS} (h : PSs X rest u) : PSs X rest (fun D σ H => ∃ l, H l = some (.lst []) ∧ Nf X l ∧ ∀ o, GdL o [] → u D σ (upd H l (.frz o (.lst [])))) := by
  refine ⟨fun pins s σ H D I q => ?_⟩
  obtain ⟨l, hl, nf, q⟩ := q
  obtain ⟨_, its, n, r, e⟩ := I.hok l _ hl
  cases r
  exact h.run pins s σ _ D (inv_lock I hl nf e) (q _ ⟨[], n, rfl, .nil, fun u m => by cases m⟩)
end
end Moot
namespace Moot
open PySem PySem.Spec PyProof.Rows L2
section
variable {tv : V → L2.St → Hp → Addr → (Hp → Prop) → Prop} {vs : List Nat} {σ : L2.St} {H1 : Hp} {D : Addr} {Qd : Hp → Prop} {o0 : Obj}
/-- a known comprehension over a walk of n things -/
theorem lcG_by {J : It} {n : Nat} (Pv : Nat → Hp → Prop) (h0 : Pv 0 (upd H1 D (.frz o0 (.lst [])))) (go : ∀ i H, i < n → Pv i H → J.go i H) (stop : ∀ H, Pv n H → J.stop n H)
    (hs : ∀ i x H H', i < n → Pv i H → J.yld i H x H' → tv x (wipe σ vs) H' D (Pv (i + 1))) (hd : ∀ H, Pv n H → Qd H) :
    ∃ W : Nat → Nat → Hp → Prop, (∃ m, W 0 m (upd H1 D (.frz o0 (.lst [])))) ∧ ∀ i m H, W i m H → (J.stop i H ∧ Qd H) ∨ (J.go i H ∧ ∃ Nx : Hp → Prop, (∀ H', Nx H' → ∃ m', m' < m ∧ W (i + 1) m' H') ∧ ∀ x H', J.yld i H x H' → tv x (wipe σ vs) H' D Nx) := by
  refine ⟨fun i m H => m = n - i ∧ i ≤ n ∧ Pv i H, ⟨n, by simp, Nat.zero_le _, h0⟩, ?_⟩
  rintro i m H ⟨rfl, hi, p⟩
  by_cases lt : i < n
  · exact .inr ⟨go i H lt p, Pv (i + 1), fun H' p' => ⟨n - (i + 1), by omega, rfl, lt, p'⟩, fun x H' y => hs i x H H' lt p y⟩
  · have e : i = n := by omega
    subst e
    exact .inl ⟨stop H p, hd H p⟩
theorem lcG_range {lo : Int} {n : Nat} (Pv : Nat → Hp → Prop) (h0 : Pv 0 (upd H1 D (.frz o0 (.lst [])))) (hs : ∀ i H, i < n → Pv i H → tv (.int (lo + i)) (wipe σ vs) H D (Pv (i + 1))) (hd : ∀ H, Pv n H → Qd H) :
    ∃ W : Nat → Nat → Hp → Prop, (∃ m, W 0 m (upd H1 D (.frz o0 (.lst [])))) ∧ ∀ i m H, W i m H → ((Itr lo n).stop i H ∧ Qd H) ∨ ((Itr lo n).go i H ∧ ∃ Nx : Hp → Prop, (∀ H', Nx H' → ∃ m', m' < m ∧ W (i + 1) m' H') ∧ ∀ x H', (Itr lo n).yld i H x H' → tv x (wipe σ vs) H' D Nx) :=
  lcG_by Pv h0 (fun _ _ lt _ => lt) (fun _ _ => Nat.le_refl _) (fun i x H H' lt p y => by
    obtain ⟨e, y⟩ := y
    subst e y
    exact hs i _ lt p) hd
theorem lcG_str {z : Str} (Pv : Nat → Hp → Prop) (h0 : Pv 0 (upd H1 D (.frz o0 (.lst [])))) (hs : ∀ i c H, z.cps[i]? = some c → Pv i H → tv (.str ⟨#[c]⟩) (wipe σ vs) H D (Pv (i + 1))) (hd : ∀ H, Pv z.cps.size H → Qd H) :
    ∃ W : Nat → Nat → Hp → Prop, (∃ m, W 0 m (upd H1 D (.frz o0 (.lst [])))) ∧ ∀ i m H, W i m H → ((Its z).stop i H ∧ Qd H) ∨ ((Its z).go i H ∧ ∃ Nx : Hp → Prop, (∀ H', Nx H' → ∃ m', m' < m ∧ W (i + 1) m' H') ∧ ∀ x H', (Its z).yld i H x H' → tv x (wipe σ vs) H' D Nx) :=
  lcG_by Pv h0 (fun _ _ lt _ => lt) (fun _ _ => Nat.le_refl _) (fun i x H H' lt p y => by
    obtain ⟨e, c, hc, y⟩ := y
    subst e y
    exact hs i c _ hc p) hd
end
end Moot
/-! Lists that change, each text in them with a token. -/
namespace Moot
open PySem PySem.Spec PyProof.Rows L2
def TLx (l : Addr) (xs : List V) : HO := .ext fun h => xs.length ≤ sizeLine ∧ ∃ (its : List Value) (n : Nat), Vals xs its ∧ GdS its ∧ h.get? l = some { cls := .type "list", data := .seq its.toArray n }
theorem tlx_ok {P : Program} {w : World} {H : Hp} {h : Heap} {l : Addr} {xs : List V} {its : List Value} {n : Nat} (z : xs.length ≤ sizeLine) (r : Vals xs its) (g : GdS its) (e : h.get? l = some { cls := .type "list", data := .seq its.toArray n }) : ObjOk P w H h l (TLx l xs) := by
  refine ⟨⟨z, its, n, r, g, e⟩, ⟨_, e⟩, ?_⟩
  rintro h1 h2 ⟨z, its, n, r, g, e⟩ k
  exact ⟨z, its, n, r, g, k _ e⟩
section
variable {X : Cx}
/-- list(xs) of a known list -/
theorem call_listX : CallR X (.type "list") (fun xs H Q => ∃ p ys, xs = [.ref p] ∧ GLs H p ys ∧ ∀ l, H l = none → Q (.ref l) (upd H l (TLx l ys))) := by
  intro pins s σ H xs us Q I r h
  obtain ⟨p, ys, rfl, ⟨o, ⟨its, n, rfl, r', g⟩, hH⟩, q⟩ := h
  obtain ⟨u, rfl, rx⟩ := vals1 r
  cases rx
  obtain ⟨e, hz, _⟩ := I.hok p _ hH
  have hlen := r'.length
  refine call_list_seq p (.inl rfl) e rfl rfl (fun h' c' kp e' => ?_) (by simp only [List.size_toArray] <;> omega)
  exact ⟨.ref s.heap.objs.size, _, I.laid (t' := s.toks) kp (Nat.le_refl _) (tlx_ok hz r' g e'), rfl, q _ (I.hok.fresh (Nat.le_refl _))⟩
/-- len(xs) of such a list -/
def rLenX : List V → Hp → VK → Prop := fun vs H Q => ∃ (l : Addr) (xs : List V), vs = [.ref l] ∧ H l = some (TLx l xs) ∧ Q (.int xs.length) H
theorem call_lenX : CallR X (.builtin "len") rLenX := by
  intro pins s σ H vs us Q I r h
  obtain ⟨l, xs, rfl, hl, q⟩ := h
  obtain ⟨u, rfl, rx⟩ := vals1 r
  cases rx
  obtain ⟨⟨z, its, n, rv, _, e⟩, _⟩ := I.hok l _ hl
  have lens := rv.length
  have hn := line63
  refine len_list (items := its.toArray) ⟨_, e, rfl, n, rfl⟩ (by simp only [List.size_toArray]; omega) ⟨.int xs.length, H, I.tok _, ⟨_, by rw [List.size_toArray, lens]⟩, q⟩
/-- xs.pop(i) of such a list -/
theorem pek_popX {nn : Nat} {o e : Expr} {to : TE} {t : TA} {apos cpos : Pos} (ho : PE X o to) (ha : PA X [e] t) (hbase : attributeBase o "pop" X.env (eval o X.env) = eval o X.env := by rfl)
    (hfew : ((backTo cpos (starEach [e] X.env)).all (fun x => !x.1) && (backToKw cpos (keywordEach [] X.env)).all (fun x => x.1.isSome) && decide ([e].length + ([] : List Keyword).length + (if ([] : List Keyword).isEmpty then 0 else 1) < 30)) = true := by rfl)
    (hline : (apos.endLine == cpos.line) = true := by rfl) (hs : starEach [e] X.env = [(false, eval e X.env)] := by rfl) :
    PEK nn X (.Call (.Attribute o "pop" apos) [e] [] cpos) (fun σ H Q => to σ H fun x H1 => ∃ l ys, x = .ref l ∧ H1 l = some (TLx l ys) ∧ t σ H1 fun vs H2 => ∃ xs i k y, vs = [.int i] ∧ H2 l = some (TLx l xs) ∧ -(2 ^ 63) ≤ i ∧ i < 2 ^ 63 ∧ seqIndex? i xs.length = some k ∧ xs[k]? = some y ∧
      Q y (upd H2 l (TLx l (xs.eraseIdx k)))) := by
  refine ⟨fun pins s σ H Q k0 I h => ?_⟩
  refine wpAny_Call_method_late hbase hfew hline rfl (thn (ho.run pins s σ H _ I h) fun v s1 ⟨x, H1, I1, r1, l, ys, ex, hl1, q1⟩ => ?_)
  subst ex
  cases r1
  obtain ⟨⟨_, _, _, _, _, e1⟩, _⟩ := I1.hok l _ hl1
  refine ⟨"list", "list.pop", F.plainAttrs_list, F.slot_list_pop, F.type_list_pop, ⟨_, e1, rfl⟩, (fun a e2 => by cases e2; exact ⟨_, e1, rfl⟩), ?_⟩
  have hA := ha.run cpos pins s1 σ H1 _ I1 q1
  rw [hs] at hA ⊢
  refine Calls.callWith_builtin rfl (Calls.evalArgs_plain (thn hA fun us s2 ⟨vs, H2, I2, r2, q2⟩ => ?_))
  obtain ⟨xs, i, k, y, rfl, hH, b1, b2, hk, hy, q⟩ := q2
  obtain ⟨u, rfl, ru⟩ := r2.one
  obtain ⟨tk, rfl⟩ := ru
  obtain ⟨⟨hz, its, n, r, g, hget⟩, _⟩ := I2.hok l _ hH
  have hl := r.length
  obtain ⟨uy, hw, ry⟩ := r.get hy
  refine call_meets F.slot_list_pop ⟨_, hget, rfl⟩ F.entry_list_pop (F.args_list_pop_2 _ _)
    (MeetsSeq.list_pop_at l its.toArray n i tk k uy (fitsIndex_both b1 b2) (by rw [List.size_toArray, ← hl]; exact hk) (by rw [← Array.getElem?_toList]; exact hw) (by rw [List.size_toArray]; omega)) ⟨hget, ?_⟩
  have hf : its.toArray.eraseIdxIfInBounds k = (its.eraseIdx k).toArray := by rw [List.eraseIdxIfInBounds_toArray]
  have at' := PySem.IsL.update hget (fun a : Array Value => a.eraseIdxIfInBounds k)
  rw [hf] at at'
  have I' : Inv X pins σ (upd H2 l (TLx l (xs.eraseIdx k))) { s2 with heap := s2.heap.update l (Obj.mapSeq fun a : Array Value => a.eraseIdxIfInBounds k), toks := s2.toks } :=
    I2.write (x := l) (e := l) (by rw [hH]; exact trivial) (.inl rfl) (fun b' u hb hu => (Heap.get?_update_other s2.heap _ (Ne.symm hb)).trans hu) ⟨_, at'⟩ (tlx_ok (by have := len_erase xs k; omega) (r.eraseIdx k) (g.erase k) at')
  exact ⟨y, _, I', ry, g uy (List.mem_of_getElem? hw), q⟩
/-- xs + ys, each a list in any way -/
theorem op_catS : OpR X (binaryOp .Add) (fun x y H Q => ∃ l b xs zs, x = .ref l ∧ y = .ref b ∧ Rd H l (.lst xs) ∧ Rd H b (.lst zs) ∧ xs.length + zs.length ≤ sizeLine ∧ ∀ p, H p = none → Q (.ref p) (upd H p (.lst (xs ++ zs)))) := by
  intro pins s σ H x y v u Q I rx ry h
  obtain ⟨l, b, xs, zs, rfl, rfl, hl, hb, hz, q⟩ := h
  cases rx
  cases ry
  obtain ⟨_, its, n, r, e⟩ := hl.ok I.hok
  obtain ⟨_, its2, n2, r2, e2⟩ := hb.ok I.hok
  have l1 := r.length
  have l2 := r2.length
  refine PySem.P.add_list e e2 ?_ (by rw [List.size_toArray, List.size_toArray]; omega)
  have ea : its.toArray ++ its2.toArray = (its ++ its2).toArray := by simp
  rw [ea]
  exact ⟨.ref _, _, I.lnew (t' := s.toks) (r.append r2) (by rw [List.length_append]; omega), rfl, q _ I.fresh⟩
theorem GLs.rd {H : Hp} {l : Addr} {xs : List V} (h : GLs H l xs) : Rd H l (.lst xs) := let ⟨o, _, e⟩ := h; .inr ⟨o, e⟩
end
end Moot
/-! Sets of keys of any one kind, filled and then walked in whatever order the world has. -/
namespace Moot
open PySem PySem.Spec PyProof.Rows L2
section
variable {P : Program} {w : World} {T : Type} [DecidableEq T]
/-- what is known of a set's entries and of its table -/
structure Laid (knd : KeyKind P w T) (S : T → Bool) (es : Array (Int × Value)) (t : SetTable) : Prop where
  el : ElemsOf knd es.toList
  mem : ∀ k, S k = true ↔ ∃ e ∈ es.toList, knd.is k e.2 = true
  one : es.toList.Pairwise fun e f => ∀ k, knd.is k e.2 = true → knd.is k f.2 = true → False
  few : es.size < scanBound
  fit : t.fits es.size = true
  ris : Ris t.place.toList
  led : w.params.followText "set-order" = true ∨ t.led = true
/-- a set of n keys stands at a, S tells which -/
def Stands (knd : KeyKind P w T) (h : Heap) (a : Addr) (S : T → Bool) (n : Nat) : Prop :=
  ∃ o es ep t, h.get? a = some o ∧ o.ExactSet ∧ o.data = .set es ep t ∧ es.size = n ∧ Laid knd S es t
variable {knd : KeyKind P w T} {S : T → Bool} {es es' : Array (Int × Value)} {t t' : SetTable}
/-- entries in another order, in a table that still rises -/
theorem Laid.moved (L : Laid knd S es t) (p : es'.toList.Perm es.toList) (f : t'.fits es'.size = true) (r : Ris t'.place.toList) (l : t'.led = t.led) : Laid knd S es' t' := by
  have z : es'.size = es.size := by
    have q := p.length_eq
    simpa using q
  refine ⟨L.el.perm p, fun k => (L.mem k).trans ⟨?_, ?_⟩, ?_, by rw [z]; exact L.few, f, r, ?_⟩
  · rintro ⟨e, m, i⟩
    exact ⟨e, p.mem_iff.mpr m, i⟩
  · rintro ⟨e, m, i⟩
    exact ⟨e, p.mem_iff.mp m, i⟩
  · exact (p.pairwise_iff fun {e f} q k a b => q k b a).mpr L.one
  · rw [l]
    exact L.led
/-- a key more -/
theorem Laid.more (L : Laid knd S es t) {k : T} {x : Value} (hk : knd.is k x = true) (hx : x.scannable = true) (new : ∀ e ∈ es.toList, knd.is k e.2 = false)
    (p : es'.toList.Perm (es.push (knd.hash k, x)).toList) (room : es.size + 1 < scanBound) (f : t'.fits es'.size = true) (r : Ris t'.place.toList) (l : t'.led = t.led) :
    Laid knd (fun j => S j || decide (j = k)) es' t' := by
  rw [Array.toList_push] at p
  have z : es'.size = es.size + 1 := by
    have q := p.length_eq
    simpa using q
  have inj : ∀ j, knd.is j x = true → j = k := fun j h => knd.inj x j k h hk
  refine ⟨(L.el.push hk hx).perm p, fun j => ?_, ?_, by rw [z]; exact room, f, r, by rw [l]; exact L.led⟩
  · rw [Bool.or_eq_true, decide_eq_true_eq, L.mem j]
    constructor
    · rintro (⟨e, m, i⟩ | rfl)
      · exact ⟨e, p.mem_iff.mpr (List.mem_append_left _ m), i⟩
      · exact ⟨_, p.mem_iff.mpr (List.mem_append_right _ List.mem_cons_self), hk⟩
    · rintro ⟨e, m, i⟩
      rcases List.mem_append.mp (p.mem_iff.mp m) with m | m
      · exact .inl ⟨e, m, i⟩
      · rw [List.mem_singleton.mp m] at i
        exact .inr (inj j i)
  · refine (p.pairwise_iff fun {e f} q k a b => q k b a).mpr ?_
    refine List.pairwise_append.mpr ⟨L.one, List.pairwise_singleton _ _, fun e m e2 m2 j a b => ?_⟩
    rw [List.mem_singleton.mp m2] at b
    have c := new e m
    rw [inj j b] at a
    rw [a] at c
    cases c
section
variable {A : Around} {E : Value → Shared → Prop} {s : Shared} {a : Addr} {n : Nat} {k : T} {x : Value}
/-- the table with one mark taken off is as good -/
theorem Laid.off (L : Laid knd S es t) (b : Bool) : Laid knd S es (if b = true then t else { t with plain := false }) := by
  cases b with
  | true => exact L
  | false => exact ⟨L.el, L.mem, L.one, L.few, SetTable.fits_plain_off L.fit, L.ris, L.led⟩
/-- entries are stored, and laid anew where the table has grown too full -/
theorem stow {g : Bool → Sem Unit} (quiet : ∀ (b : Bool) (s₁ : Shared) (Q₁ : Unit → Shared → Prop), Q₁ () s₁ → wpAny (model P w) A (g b) Q₁ E s₁)
    {o : Obj} {es₀ : Array (Int × Value)} {ep : Nat} {t₀ : SetTable} (ho : s.heap.get? a = some o) (hex : o.ExactSet) (hd : o.data = .set es₀ ep t₀) (L : Laid knd S es t) {full : Bool} {Q : Option Bool → Shared → Prop}
    (q : ∀ h', Heap.SameBut a s.heap h' → Stands knd h' a S es.size → Q (some true) { s with heap := h' }) :
    wpAny (model P w) A (storeSet a es t >>= fun _ => if full = true then (match relayAll t es (SetTable.grown es.size) with | (es2, t2, gave) => g gave >>= fun _ => storeSet a es2 t2 >>= fun _ => pure (some true)) else pure (some true)) Q E s := by
  have first := store_at (es' := es) (t' := t) ho hd
  have same := Heap.SameBut.update s.heap a (Obj.putSet es t)
  apply wpAny_bind
  apply wpAny_storeSet_of ho hd _ (fits_of_scanBound L.few)
  cases full with
  | false => exact wpAny_pure (q _ same ⟨_, es, _, t, first, hex, rfl, rfl, L⟩)
  | true =>
    have p := relayAll_perm t es (SetTable.grown es.size)
    have L2 := L.moved p (relayAll_fits t es _) (relayAll_ris t es _) (relayAll_led t es _)
    have z : (relayAll t es (SetTable.grown es.size)).1.size = es.size := by simpa using p.length_eq
    rw [if_pos rfl]
    revert L2 z
    rcases relayAll t es (SetTable.grown es.size) with ⟨es2, t2, gave⟩
    intro L2 z
    apply wpAny_bind
    apply quiet
    apply wpAny_bind
    apply wpAny_storeSet_of first rfl _ (fits_of_scanBound L2.few)
    exact wpAny_pure (q _ (same.trans (Heap.SameBut.update _ a _)) ⟨_, es2, _, t2, store_at first rfl, hex, rfl, z, L2⟩)
theorem add_key {Q : Bool → Shared → Prop} (R : Stands knd s.heap a S n) (hk : knd.is k x = true) (hx : x.scannable = true) (room : n + 1 < scanBound)
    (q : ∀ h', Heap.SameBut a s.heap h' → Stands knd h' a (fun j => S j || decide (j = k)) (if S k = true then n else n + 1) → Q (!S k) { s with heap := h' }) :
    wpAny (model P w) A (setAddHashed a x (knd.hash k)) Q E s := by
  obtain ⟨o, es, ep, t, ho, hex, hd, rfl, L⟩ := R
  unfold setAddHashed setAddHashedIn
  apply wpAny_holding
  apply wpAny_bind
  apply wpAny_setState_of ho hd L.fit
  show wpAny _ _ (if byScan x es = true then _ else _) _ _ _
  rw [byScan_of hx L.few L.el, if_pos rfl]
  unfold setAddByScan
  apply wpAny_bind
  apply wpAny_bind
  apply wpAny_rule
  apply wpAny_bind
  apply wpAny_setScan_of hk ho hd L.fit L.el
  cases met : List.findIdx? (fun e => knd.is k e.2) es.toList with
  | some j =>
    obtain ⟨lt, hit, _⟩ := List.findIdx?_eq_some_iff_getElem.mp met
    have old : S k = true := (L.mem k).mpr ⟨_, List.getElem_mem lt, hit⟩
    have same : (fun j => S j || decide (j = k)) = S := funext fun i => by
      by_cases e : i = k
      · rw [e, old, Bool.true_or]
      · rw [decide_eq_false e, Bool.or_false]
    have r := q s.heap (Heap.SameBut.refl a s.heap)
    rw [same, old] at r
    exact wpAny_pure (wpAny_pure (r ⟨o, es, ep, t, ho, hex, hd, rfl, L⟩))
  | none =>
    have new : ∀ e ∈ es.toList, knd.is k e.2 = false := List.findIdx?_eq_none_iff.mp met
    have no : S k = false := by
      cases c : S k with
      | false => rfl
      | true =>
        obtain ⟨e, m, i⟩ := (L.mem k).mp c
        rw [new e m] at i
        cases i
    have p := layNew_perm t es (knd.hash k) x
    have L1 := L.more hk hx new p room (layNew_fits t es (knd.hash k) x) (layNew_ris t es (knd.hash k) x L.ris) (layNew_led t es (knd.hash k) x)
    have z : (layNew t es (knd.hash k) x).1.size = es.size + 1 := by simpa using p.length_eq
    rw [no] at q
    dsimp only
    clear p
    generalize layNew t es (knd.hash k) x = Z at L1 z ⊢
    obtain ⟨es1, t1, dm, gave⟩ := Z
    dsimp only at L1 z ⊢
    have fin : ∀ h', Heap.SameBut a s.heap h' → Stands knd h' a (fun j => S j || decide (j = k)) es1.size → Q true { s with heap := h' } := fun h' sb r => q h' sb (z ▸ r)
    apply wpAny_bind
    have calm : ∀ {s₁ : Shared} {Q₁ : Unit → Shared → Prop}, Q₁ () s₁ → ∀ b : Bool, wpAny (model P w) A (match b with | true => rule "set.scan.the-table-gave-way" | false => pure ()) Q₁ E s₁ := fun h b => by
      cases b with
      | true => exact wpAny_rule h
      | false => exact wpAny_pure h
    refine calm ?_ gave
    have step : ∀ b : Bool, _ := fun b => stow (A := A) (E := E) (s := s) (Q := fun r s₁ => wpAny (model P w) A (match r with | some added => pure added | none => setAddHashedIn a x (knd.hash k) 99999) Q E s₁)
      (fun b s₁ Q₁ h => calm h b) ho hex hd (L1.off b) (full := !dm && (if b = true then t1 else { t1 with plain := false }).tooFull) fun h' sb r => wpAny_pure (fin h' sb r)
    split
    · rw [hashByValue_scannable 8 hx]
      exact wpAny_bind (wpAny_pure (step _))
    · exact wpAny_bind (wpAny_pure (step true))
end
end
end Moot
namespace Moot
open PySem PySem.Spec PyProof.Rows L2
section
variable {P : Program} {w : World} {T : Type} [DecidableEq T] {knd : KeyKind P w T} {A : Around} {E : Value → Shared → Prop} {s : Shared}
/-- the new set, empty -/
def setNew (w : World) : Obj := { cls := .type "set", dict := none, data := .set #[] 0 (.fresh 0 0 (!w.params.followText "set-order")) }
theorem setNew_stands (h : Heap) : Stands knd (h.push (setNew w)) h.objs.size (fun _ => false) 0 := by
  refine ⟨setNew w, #[], 0, _, Heap.get?_push_size _ rfl, ⟨rfl, rfl, rfl⟩, rfl, rfl, ?_⟩
  refine ⟨fun e m => by simp at m, fun k => by simp, by simp, by decide, rfl, List.Pairwise.nil, ?_⟩
  show _ ∨ (!w.params.followText "set-order") = true
  cases w.params.followText "set-order" <;> simp
/-- set.__new__(set, x) -/
theorem new_of (x : Value) {Q : Value → Shared → Prop} (q : Q (.ref s.heap.objs.size) { s with heap := s.heap.push (setNew w) }) :
    codeAny (model P w) A (.call (.builtin "set.__new__") ⟨[.type "set", x], []⟩) (wants Q E) s := by
  apply codeAny_of_tree
  show wpAny _ A.in1 (checkBuiltinCall "set.__new__" ⟨[.type "set", x], []⟩ >>= fun _ => again (.builtin "set.__new__" ⟨[.type "set", x], []⟩)) _ _ s
  apply wpAny_bind
  apply wpAny_of_eq (PySem.F.newCall_set_1 x)
  refine wpAny_pure ⟨plainId_quiet PySem.F.plain_set_new _, codeAny_builtin PySem.F.entry_set_new ?_⟩
  rw [Around.under_plainId PySem.F.plain_set_new _]
  unfold Builtin.«set.__new__» Builtin.Frozenset.newClass
  have self := sub_set_self
  rcases s with ⟨hp, gs, dr, tk, os⟩
  dsimp only at q ⊢
  wp_walk
  apply wpAny_askSetting
  apply wpAny_pure
  show wpAny _ _ (newObj (Value.type "set") (.set #[] 0 (SetTable.fresh 0 0 !w.params.followText "set-order"))) _ _ _
  unfold newObj
  exact wpAny_bind (wpAny_alloc (wpAny_pure (wpAny_pure q)))
/-- the same set in a heap that keeps it -/
theorem Stands.kept {h h' : Heap} {a : Addr} {S : T → Bool} {n : Nat} (R : Stands knd h a S n) (k : ∀ o, h.get? a = some o → h'.get? a = some o) : Stands knd h' a S n := by
  obtain ⟨o, es, ep, t, ho, r⟩ := R
  exact ⟨o, es, ep, t, k o ho, r⟩
theorem Stands.says {h : Heap} {a : Addr} {S S' : T → Bool} {n n' : Nat} (R : Stands knd h a S n) (e : ∀ k, S k = S' k) (en : n = n') : Stands knd h a S' n' := by
  have f : S = S' := funext e
  subst f en
  exact R
section
variable {R : Result → Shared → Prop} {I : Addr} {fp wr : List Addr} {G : Array GenState → Array GenState → Prop} {n : Nat} {Pv : Nat → Value → Prop} {St : Nat → Shared → Prop}
/-- each thing that an iterator yields goes into the set -/
theorem fill (W : WalksS P w A.in1 I fp wr G n Pv St) {a : Addr} (out : a ∉ fp) {xs : List T} (len : xs.length = n) (few : n + 1 < scanBound)
    (val : ∀ i v, Pv i v → ∃ k, xs[i]? = some k ∧ knd.is k v = true ∧ v.scannable = true) :
    ∀ (left i m : Nat) (s : Shared), i + left = n → m ≤ i → St i s → Stands knd s.heap a (fun k => decide (k ∈ xs.take i)) m →
      (∀ s' m', Moved (a :: wr) G s s' → m' ≤ n → Stands knd s'.heap a (fun k => decide (k ∈ xs)) m' → R (.ok (.ret .none)) s') →
      codeAny (model P w) A (.builtin "set.update.loop" ⟨[.ref a, .ref I], []⟩) R s := by
  have outw : a ∉ wr := fun h => out (W.sub _ h)
  have wider : ∀ b ∈ wr, b ∈ a :: wr := fun b h => List.mem_cons_of_mem _ h
  intro left
  induction left with
  | zero =>
    intro i m s e hm st X r
    obtain rfl : i = n := e
    apply codeAny_builtin PyProof.Rows.F.entry_set_update_loop
    rw [Around.under_plainId PyProof.Rows.F.plain_set_update_loop _]
    show wpAny _ A.in1 (pyNext (.ref I) >>= _) _ _ s
    apply wpAny_bind
    refine W.done s _ _ st fun s' mv => wpAny_pure ?_
    refine r s' m (mv.mono wider) hm ((X.kept fun o => mv.heap a o outw).says (fun k => ?_) rfl)
    rw [List.take_of_length_le (Nat.le_of_eq len)]
  | succ left ih =>
    intro i m s e hm st X r
    have lt : i < n := by omega
    apply codeAny_builtin PyProof.Rows.F.entry_set_update_loop
    rw [Around.under_plainId PyProof.Rows.F.plain_set_update_loop _]
    show wpAny _ A.in1 (pyNext (.ref I) >>= _) _ _ s
    apply wpAny_bind
    refine W.item i s _ _ lt st fun v s' pv st' mv => ?_
    obtain ⟨k, hk, isk, sc⟩ := val i v pv
    have X' := X.kept fun o => mv.heap a o outw
    show wpAny _ A.in1 (holding [v] (setAdd a v) >>= _) _ _ s'
    apply wpAny_bind
    apply wpAny_holding
    unfold setAdd
    apply wpAny_holding
    apply wpAny_bind
    apply knd.pyHash isk
    refine add_key (s := { s' with toks := s'.toks + 1 }) X' isk sc (by omega) fun h' sb Y => ?_
    have Z : Stands knd h' a (fun k => decide (k ∈ xs.take (i + 1))) (if decide (k ∈ xs.take i) = true then m else m + 1) := Y.says (fun j => by
      rw [List.take_add_one, hk]
      simp [List.mem_append]) rfl
    have hm' : (if decide (k ∈ xs.take i) = true then m else m + 1) ≤ i + 1 := by
      split <;> omega
    refine wpAny_pure ⟨plainId_quiet PyProof.Rows.F.plain_set_update_loop _, ?_⟩
    refine ih (i + 1) _ _ (by omega) hm' (W.frame _ s' _ _ st' (Nat.le_succ _) fun b hb o e => ?_) Z fun s'' m' mv' hm'' X'' => ?_
    · rw [sb.2 b fun c => out (c ▸ hb)]
      exact e
    · refine r s'' m' (Moved.trans W.gtrans ((mv.mono wider).then_heap (Nat.le_succ _) fun b o nb e => ?_) mv') hm'' X''
      rw [sb.2 b fun c => nb (c ▸ List.mem_cons_self)]
      exact e
end
end
end Moot
namespace Moot
open PySem PySem.Spec PyProof.Rows L2
section
variable {P : Program} {w : World} {T : Type} [DecidableEq T] {knd : KeyKind P w T} {A : Around} {E : Value → Shared → Prop} {s : Shared}
/-- what set(xs) leaves -/
def Filled (knd : KeyKind P w T) (xs : List T) (s s' : Shared) : Prop :=
  ∃ (h' : Heap) (tk m : Nat), s' = { s with heap := h', toks := tk } ∧ m ≤ xs.length ∧ Stands knd h' s.heap.objs.size (fun k => decide (k ∈ xs)) m ∧ ∀ b o, s.heap.get? b = some o → h'.get? b = some o
/-- set.__init__ of the new set, over a list -/
theorem init_list {l : Addr} {vs : List Value} {xs : List T} (calm : A.handled = none) (hl : s.heap.IsList l vs.toArray) (len : xs.length = vs.length) (few : vs.length + 1 < scanBound)
    (val : ∀ (i : Nat) v, vs[i]? = some v → ∃ k, xs[i]? = some k ∧ knd.is k v = true ∧ v.scannable = true) :
    codeAny (model P w) A (.call (.builtin "set.__init__") ⟨[.ref s.heap.objs.size, .ref l], []⟩) (wants (fun r s' => r = .none ∧ Filled knd xs s s') E) { s with heap := s.heap.push (setNew w) } := by
  have at0 : (s.heap.push (setNew w)).get? s.heap.objs.size = some (setNew w) := Heap.get?_push_size _ rfl
  have ty : Shared.TypeIs { s with heap := s.heap.push (setNew w) } (.ref s.heap.objs.size) "set" := ⟨_, at0, rfl⟩
  refine codeAny_call_builtin PySem.F.called_set.init.plain PySem.F.entry_set_init (check_set_init_1 ty ?_)
  have hl1 : (s.heap.push (setNew w)).IsList l vs.toArray := hl.push _
  have hlo := hl1
  obtain ⟨⟨oc, od, oda, osl⟩, ol, hc, nl, hda⟩ := hlo
  dsimp only at hc hda
  subst hc hda
  have n1 := PySem.F.sub_list_set
  have n2 := PySem.F.sub_list_frozenset
  have n3 : (Value.type "list" == Value.type "dict") = false := by decide
  unfold Builtin.«set.__init__» noKeywords Builtin.Frozenset.updateFrom
  generalize it : pyIter = iter
  wp_walk
  subst it
  apply wpAny_pyIter_list hl1
  apply wpAny_bind
  apply wpAny_runValue
  have size1 : (s.heap.push (setNew w)).objs.size = s.heap.objs.size + 1 := size_push' _ _
  have low : l < s.heap.objs.size := by
    obtain ⟨o, ho, _⟩ := hl
    exact Heap.lt_size ho
  have calm2 : A.in1.in1.handled = none := calm
  have ne : l ≠ (s.heap.push (setNew w)).objs.size := by
    rw [size1]
    exact Nat.ne_of_lt (Nat.lt_succ_of_lt low)
  have out : s.heap.objs.size ∉ [(s.heap.push (setNew w)).objs.size, l] := by
    rw [size1]
    intro m
    rcases List.mem_cons.mp m with c | c
    · exact Nat.ne_of_lt (Nat.lt_succ_self _) c
    · exact Nat.ne_of_gt low (List.mem_singleton.mp c)
  have walk := (Walks.list (prog := P) (w := w) calm2 _ l ne vs.toArray).toS
  refine fill (knd := knd) (xs := xs) walk out (by rw [len]; simp) (by simpa using few) (fun i v h => ?_) vs.toArray.size 0 0 _ (by simp) (Nat.le_refl _) ?_ ?_ fun s' m mv hm X => ?_
  · exact val i v (by simpa using h)
  · exact ⟨⟨_, Heap.get?_push_size _ rfl, rfl, rfl⟩, hl1.push _⟩
  · exact ((setNew_stands s.heap).kept fun o => Heap.get?_push_of_some _).says (fun k => by simp) rfl
  · apply wpAny_pure
    refine wpAny_pure ⟨rfl, s'.heap, s'.toks, m, ?_, by rw [len]; simpa using hm, X, fun b o e => ?_⟩
    · rcases s' with ⟨h', g', d', t', o'⟩
      obtain rfl : g' = s.gens := mv.gens
      obtain rfl : d' = s.drawn := mv.drawn
      obtain rfl : o' = s.os := mv.os
      rfl
    · have lt := Heap.lt_size e
      refine mv.heap b o (fun c => ?_) (Heap.get?_push_of_some _ (Heap.get?_push_of_some _ e))
      rcases List.mem_cons.mp c with c | c
      · exact Nat.ne_of_lt lt c
      · refine Nat.ne_of_lt (Nat.lt_succ_of_lt lt) (Eq.trans (List.mem_singleton.mp c) size1)
/-- set(xs) of a list -/
theorem set_list {l : Addr} {vs : List Value} {xs : List T} (calm : A.handled = none) (hl : s.heap.IsList l vs.toArray) (len : xs.length = vs.length) (few : vs.length + 1 < scanBound)
    (val : ∀ (i : Nat) v, vs[i]? = some v → ∃ k, xs[i]? = some k ∧ knd.is k v = true ∧ v.scannable = true) {Q : Value → Shared → Prop} (q : ∀ s', Filled knd xs s s' → Q (.ref s.heap.objs.size) s') :
    wpAny (model P w) A (call (.type "set") [.ref l]) Q E s := by
  obtain ⟨c, tl, mro⟩ := PySem.F.called_set.mro
  have made := PySem.F.called_set.made
  have sub := PySem.F.called_set.sub
  have f1 := PySem.F.called_set.notType
  have f2 := PySem.F.called_set.canCreate
  have f3 := PySem.F.typeCall_set_1 (.ref l)
  apply wpAny_call
  apply codeAny_of_tree
  show wpAny _ _ (callAny (.type "set") _) _ _ _
  refine wpAny_pure ⟨Code.quiet_builtin _ (by decide +kernel), ?_⟩
  apply codeAny_builtin PySem.F.entry_type_call
  rw [Around.under_plain (weight_type_call_type "set" [.ref l] []) rfl]
  repeat (any_goals (first | assumption | wp_step))
  refine codeAny_mono (new_of (.ref l) (E := E) (Q := fun x s₁ => x = .ref s.heap.objs.size ∧ s₁ = { s with heap := s.heap.push (setNew w) }) ⟨rfl, rfl⟩) ?_
  rintro (e | f) s₁ h
  · exact h
  · cases f with
    | ret x =>
      obtain ⟨rfl, rfl⟩ := h
      have ty : Shared.TypeIs { s with heap := s.heap.push (setNew w) } (.ref s.heap.objs.size) "set" := ⟨_, Heap.get?_push_size _ rfl, rfl⟩
      have g1 := PySem.F.called_set.init.lookup
      have g2 := PySem.F.called_set.init.bind (.ref s.heap.objs.size)
      repeat (any_goals (first | assumption | wp_step))
      refine codeAny_mono (init_list (A := A.in1) (E := E) (knd := knd) calm hl len few val) ?_
      rintro (e | f) s₂ h
      · exact h
      · cases f with
        | ret r =>
          obtain ⟨rfl, F⟩ := h
          exact wpAny_pure (wpAny_pure (q s₂ F))
        | _ => exact h.elim
    | _ => exact h.elim
end
end Moot
namespace Moot
open PySem PySem.Spec PyProof.Rows L2
section
variable {P : Program} {w : World} {A : Around} {E : Value → Shared → Prop} {s : Shared}
/-- the text of an entry -/
def txt (v : Value) : Str := match v with | .str x _ => x | _ => Str.empty
theorem txts_are : ∀ {vs : List Value}, (∀ v ∈ vs, ∃ x t, v = Value.str x t) → StrsAre vs (vs.map txt)
  | [], _ => .nil
  | v :: vs, h => by
    obtain ⟨x, t, rfl⟩ := h v List.mem_cons_self
    exact .cons x t (txts_are fun u m => h u (List.mem_cons_of_mem _ m))
theorem entry_txt {e : Int × Value} (h : ∃ k, (PySem.strKind P w).is k e.2 = true) : (∃ x t, e.2 = Value.str x t) ∧ (PySem.strKind P w).is (txt e.2) e.2 = true := by
  obtain ⟨k, i⟩ := h
  obtain ⟨t, q⟩ := Value.isStrOf_shape (x := k) i
  refine ⟨⟨k, t, q⟩, ?_⟩
  rw [q]
  exact strKind_is P w k t
/-- the texts of a set's entries -/
theorem Laid.txts {S : Str → Bool} {es : Array (Int × Value)} {t : SetTable} (L : Laid (PySem.strKind P w) S es t) :
    (∀ v ∈ es.toList.map (·.2), ∃ x t, v = Value.str x t) ∧ (es.toList.map fun e => txt e.2).Nodup ∧ ∀ k, k ∈ (es.toList.map fun e => txt e.2) ↔ S k = true := by
  have ok : ∀ e ∈ es.toList, (∃ x t, e.2 = Value.str x t) ∧ (PySem.strKind P w).is (txt e.2) e.2 = true := fun e m => by
    obtain ⟨⟨k, i, _⟩, _⟩ := L.el e m
    exact entry_txt ⟨k, i⟩
  refine ⟨fun v m => ?_, ?_, fun k => ?_⟩
  · obtain ⟨e, me, rfl⟩ := List.mem_map.mp m
    exact (ok e me).1
  · refine List.pairwise_map.mpr (List.Pairwise.imp_of_mem (fun {e f} me mf h c => ?_) L.one)
    refine h _ (ok e me).2 ?_
    rw [c]
    exact (ok f mf).2
  · rw [L.mem k, List.mem_map]
    constructor
    · rintro ⟨e, m, rfl⟩
      exact ⟨e, m, (ok e m).2⟩
    · rintro ⟨e, m, i⟩
      exact ⟨e, m, (PySem.strKind P w).inj e.2 _ _ (ok e m).2 i⟩
/-- sorted(a set of texts) -/
theorem sorted_txts {a : Addr} {S : Str → Bool} {n : Nat} {Q : Value → Shared → Prop} (R : Stands (PySem.strKind P w) s.heap a S n) (calm : A.handled = none) (few : n < 64)
    (q : ∀ s' p (out : Array Value) (c : Nat) (ys : List Str), (∀ b o, s.heap.get? b = some o → s'.heap.get? b = some o) → s'.gens = s.gens → s'.os = s.os → s.heap.objs.size ≤ p →
      s'.heap.get? p = some (seqObj "list" out c) → StrsAre out.toList ys → sortedS ys = true → ys.Nodup → (∀ k, k ∈ ys ↔ S k = true) → ys.length = n → Q (.ref p) s') :
    wpAny (model P w) A (call (.builtin "sorted") [.ref a]) Q E s := by
  obtain ⟨o, es, ep, t, ho, hex, hd, rfl, L⟩ := R
  obtain ⟨x1, x2, x3⟩ := L.txts
  apply Calls.call_function_entry kind_sorted plain_sorted entry_sorted (args_sorted1 _)
  unfold Builtin.«sorted»
  apply wpAny_bind (m := checkCount "sorted" 1 1 _)
  apply wpAny_pure
  apply wpAny_bind
  refine collect_set (A := A.in1) calm ⟨o, ho, hex.1, hd⟩ L.fit L.few L.ris L.led fun s1 vs kept grown same1 same2 pm => ?_
  have len : vs.length = es.size := by simpa using pm.length_eq
  have are : StrsAre vs (vs.map txt) := txts_are fun v m => x1 v (pm.mem_iff.mp m)
  have perm : (vs.map txt).Perm (es.toList.map fun e => txt e.2) := by
    have z := pm.map txt
    rwa [List.map_map] at z
  apply wpAny_bind
  refine wpAny_newList ?_ (by rw [len, sizeLine_eq]; omega)
  have here : (s1.heap.push (seqObj "list" vs.toArray 0)).get? s1.heap.objs.size = some (seqObj "list" vs.toArray 0) := Heap.get?_push_size _ rfl
  apply wpAny_bind
  apply wpAny_holding
  refine wpAny_call_entry slot_list_sort ⟨_, here, rfl⟩ entry_list_sort ?_ (args_list_sort _)
  refine list_sort_treeK strKind_oneLt here are.keysOf (fun v₁ v₂ rest e => keyKind_strs (by rw [← e]; exact are)) (by rw [len]; exact few) fun st a1 a2 => ⟨_, rfl, ?_⟩
  obtain ⟨ys, y1, y2, y3⟩ := sorted_out_str are a1 a2
  obtain ⟨c, at'⟩ := sortedHeap_at (vs := vs) (out := (arrOf st).map (·.2)) here
  have all := y2.trans perm
  refine wpAny_pure ⟨_, rfl, q _ s1.heap.objs.size _ c ys (fun b u e => ?_) same1 same2 grown at' y1 y3 (all.nodup_iff.mpr x2) (fun k => all.mem_iff.trans (x3 k)) ?_⟩
  · have z := kept b u e
    have lt := Heap.lt_size z
    show (sortedHeap (s1.heap.push (seqObj "list" vs.toArray 0)) s1.heap.objs.size vs _).get? b = some u
    rw [sortedHeap_old (Nat.ne_of_lt lt) (by rw [size_push']; exact Nat.lt_succ_of_lt lt)]
    exact Heap.get?_push_of_some _ z
  · simpa using all.length_eq
end
/-- the set of texts at a, as a thing of the abstract heap -/
def TxtSet (P : Program) (w : World) (a : Addr) (S : Str → Bool) (n : Nat) : HO := .ext fun h => Stands (PySem.strKind P w) h a S n
theorem txtSet_ok {P : Program} {w : World} {H : Hp} {h : Heap} {a : Addr} {S : Str → Bool} {n : Nat} (R : Stands (PySem.strKind P w) h a S n) : ObjOk P w H h a (TxtSet P w a S n) := by
  obtain ⟨o, _, _, _, ho, _⟩ := id R
  exact ⟨R, ⟨o, ho⟩, fun h1 h2 r k => r.kept k⟩
/-- set(zs), zs a list of fewer than 64 texts -/
def rTxtSet (K : PySem.W.Frag) (P : Program) (w : World) : List V → Hp → VK → Prop := fun vs H Q =>
  ∃ (l : Addr) (zs : List Str), vs = [V.ref l] ∧ SqL K H l (zs.map V.str) ∧ zs.length < 64 ∧ ∀ p m, H p = none → m ≤ zs.length → Q (.ref p) (upd H p (TxtSet P w p (fun k => decide (k ∈ zs)) m))
/-- sorted(S), S such a set -/
def rTxtSorted (P : Program) (w : World) : List V → Hp → VK → Prop := fun vs H Q =>
  ∃ (a : Addr) (S : Str → Bool) (n : Nat), vs = [V.ref a] ∧ H a = some (TxtSet P w a S n) ∧ n < 64 ∧
    ∀ (ys : List Str) (p : Addr), sortedS ys = true → ys.Nodup → (∀ k, k ∈ ys ↔ S k = true) → ys.length = n → H p = none → Q (.ref p) (upd H p (.lst (ys.map V.str)))
section
variable {X : Cx}
theorem cr_txtSet (calm : X.calm = true) : CallR X (.type "set") (rTxtSet X.K X.prog X.w) := by
  intro pins s σ H vs us Q I r h
  obtain ⟨l, zs, rfl, hl, few, q⟩ := h
  rw [Vals.ref1 r]
  obtain ⟨its, rel, pl, _⟩ := I.list hl
  have len : zs.length = its.length := by
    have z := rel.length
    rwa [List.length_map] at z
  refine set_list (knd := PySem.strKind X.prog X.w) (xs := zs) (I.ok.hd calm) pl.isList len (by unfold scanBound; omega) (fun i v e => ?_) fun s' F => ?_
  · have lt : i < zs.length := by
      rw [len]
      exact (List.getElem?_eq_some_iff.mp e).1
    obtain ⟨u, hu, t, rfl⟩ := rel.get (i := i) (x := .str zs[i]) (by simp [lt])
    cases Option.some.inj (e.symm.trans hu)
    exact ⟨zs[i], List.getElem?_eq_getElem lt, strKind_is _ _ _ _, rfl⟩
  · obtain ⟨h', tk, m, rfl, hm, R, kept⟩ := F
    exact ⟨.ref _, _, I.laid (t' := tk) kept (Nat.le_refl _) (txtSet_ok R), rfl, q _ m (I.hok.fresh (Nat.le_refl _)) hm⟩
theorem cr_txtSorted (calm : X.calm = true) : CallR X (.builtin "sorted") (rTxtSorted X.prog X.w) := by
  intro pins s σ H vs us Q I r h
  obtain ⟨a, S, n, rfl, ha, few, q⟩ := h
  have R : Stands (PySem.strKind X.prog X.w) s.heap a S n := (I.hok a _ ha).1
  rw [Vals.ref1 r]
  refine sorted_txts R (I.ok.hd calm) few fun s' p out c ys kept e1 e2 hp here are srt nd mem len => ?_
  have fits : (ys.map V.str).length ≤ sizeLine := by
    rw [List.length_map, len]
    exact small64 few
  have free : H p = none := I.hok.fresh hp
  have J : Inv X pins σ (upd H p (.lst (ys.map V.str))) { s with heap := s'.heap, gens := s'.gens, drawn := s'.drawn, toks := s'.toks } :=
    I.call (ch := []) (Un.laid kept hp free) (I.hok.laid kept hp ⟨fits, out.toList, c, vals_of_strs are, here⟩) (by rw [e1]; exact I.bare) fun _ z => nomatch z
  have same : s' = { s with heap := s'.heap, gens := s'.gens, drawn := s'.drawn, toks := s'.toks } := by
    rcases s' with ⟨h', g', d', t', o'⟩
    cases e2
    rfl
  rw [same]
  exact ⟨.ref p, _, J, rfl, q ys p srt nd mem len free⟩
end
end Moot
namespace Moot
open PySem PySem.Spec PyProof.Rows L2
section
variable {P : Program} {w : World} {T : Type} [DecidableEq T] {knd : KeyKind P w T} {A : Around} {E : Value → Shared → Prop} {s : Shared}
/-- set.__init__ of the new set, over a tuple -/
theorem init_tuple {l : Addr} {vs : List Value} {xs : List T} (calm : A.handled = none) (hl : s.heap.IsTuple l vs.toArray) (len : xs.length = vs.length) (few : vs.length + 1 < scanBound)
    (val : ∀ (i : Nat) v, vs[i]? = some v → ∃ k, xs[i]? = some k ∧ knd.is k v = true ∧ v.scannable = true) :
    codeAny (model P w) A (.call (.builtin "set.__init__") ⟨[.ref s.heap.objs.size, .ref l], []⟩) (wants (fun r s' => r = .none ∧ Filled knd xs s s') E) { s with heap := s.heap.push (setNew w) } := by
  have at0 : (s.heap.push (setNew w)).get? s.heap.objs.size = some (setNew w) := Heap.get?_push_size _ rfl
  have ty : Shared.TypeIs { s with heap := s.heap.push (setNew w) } (.ref s.heap.objs.size) "set" := ⟨_, at0, rfl⟩
  refine codeAny_call_builtin PySem.F.called_set.init.plain PySem.F.entry_set_init (check_set_init_1 ty ?_)
  have hl1 : (s.heap.push (setNew w)).IsTuple l vs.toArray := hl.push _
  have hlo := hl1
  obtain ⟨⟨oc, od, oda, osl⟩, ol, hc, nl, hda⟩ := hlo
  dsimp only at hc hda
  subst hc hda
  have n1 := PySem.F.sub_tuple_set
  have n2 := PySem.F.sub_tuple_frozenset
  have n3 : (Value.type "tuple" == Value.type "dict") = false := by decide
  unfold Builtin.«set.__init__» noKeywords Builtin.Frozenset.updateFrom
  generalize it : pyIter = iter
  wp_walk
  subst it
  apply wpAny_pyIter_tuple hl1
  apply wpAny_bind
  apply wpAny_runValue
  have size1 : (s.heap.push (setNew w)).objs.size = s.heap.objs.size + 1 := size_push' _ _
  have low : l < s.heap.objs.size := by
    obtain ⟨o, ho, _⟩ := hl
    exact Heap.lt_size ho
  have calm2 : A.in1.in1.handled = none := calm
  have ne : l ≠ (s.heap.push (setNew w)).objs.size := by
    rw [size1]
    exact Nat.ne_of_lt (Nat.lt_succ_of_lt low)
  have out : s.heap.objs.size ∉ [(s.heap.push (setNew w)).objs.size, l] := by
    rw [size1]
    intro m
    rcases List.mem_cons.mp m with c | c
    · exact Nat.ne_of_lt (Nat.lt_succ_self _) c
    · exact Nat.ne_of_gt low (List.mem_singleton.mp c)
  have walk := (Walks.tuple (prog := P) (w := w) calm2 _ l ne vs.toArray).toS
  refine fill (knd := knd) (xs := xs) walk out (by rw [len]; simp) (by simpa using few) (fun i v h => ?_) vs.toArray.size 0 0 _ (by simp) (Nat.le_refl _) ?_ ?_ fun s' m mv hm X => ?_
  · exact val i v (by simpa using h)
  · exact ⟨⟨_, Heap.get?_push_size _ rfl, rfl, rfl⟩, hl1.push _⟩
  · exact ((setNew_stands s.heap).kept fun o => Heap.get?_push_of_some _).says (fun k => by simp) rfl
  · apply wpAny_pure
    refine wpAny_pure ⟨rfl, s'.heap, s'.toks, m, ?_, by rw [len]; simpa using hm, X, fun b o e => ?_⟩
    · rcases s' with ⟨h', g', d', t', o'⟩
      obtain rfl : g' = s.gens := mv.gens
      obtain rfl : d' = s.drawn := mv.drawn
      obtain rfl : o' = s.os := mv.os
      rfl
    · have lt := Heap.lt_size e
      refine mv.heap b o (fun c => ?_) (Heap.get?_push_of_some _ (Heap.get?_push_of_some _ e))
      rcases List.mem_cons.mp c with c | c
      · exact Nat.ne_of_lt lt c
      · refine Nat.ne_of_lt (Nat.lt_succ_of_lt lt) (Eq.trans (List.mem_singleton.mp c) size1)
/-- set(xs) of a tuple -/
theorem set_tuple {l : Addr} {vs : List Value} {xs : List T} (calm : A.handled = none) (hl : s.heap.IsTuple l vs.toArray) (len : xs.length = vs.length) (few : vs.length + 1 < scanBound)
    (val : ∀ (i : Nat) v, vs[i]? = some v → ∃ k, xs[i]? = some k ∧ knd.is k v = true ∧ v.scannable = true) {Q : Value → Shared → Prop} (q : ∀ s', Filled knd xs s s' → Q (.ref s.heap.objs.size) s') :
    wpAny (model P w) A (call (.type "set") [.ref l]) Q E s := by
  obtain ⟨c, tl, mro⟩ := PySem.F.called_set.mro
  have made := PySem.F.called_set.made
  have sub := PySem.F.called_set.sub
  have f1 := PySem.F.called_set.notType
  have f2 := PySem.F.called_set.canCreate
  have f3 := PySem.F.typeCall_set_1 (.ref l)
  apply wpAny_call
  apply codeAny_of_tree
  show wpAny _ _ (callAny (.type "set") _) _ _ _
  refine wpAny_pure ⟨Code.quiet_builtin _ (by decide +kernel), ?_⟩
  apply codeAny_builtin PySem.F.entry_type_call
  rw [Around.under_plain (weight_type_call_type "set" [.ref l] []) rfl]
  repeat (any_goals (first | assumption | wp_step))
  refine codeAny_mono (new_of (.ref l) (E := E) (Q := fun x s₁ => x = .ref s.heap.objs.size ∧ s₁ = { s with heap := s.heap.push (setNew w) }) ⟨rfl, rfl⟩) ?_
  rintro (e | f) s₁ h
  · exact h
  · cases f with
    | ret x =>
      obtain ⟨rfl, rfl⟩ := h
      have ty : Shared.TypeIs { s with heap := s.heap.push (setNew w) } (.ref s.heap.objs.size) "set" := ⟨_, Heap.get?_push_size _ rfl, rfl⟩
      have g1 := PySem.F.called_set.init.lookup
      have g2 := PySem.F.called_set.init.bind (.ref s.heap.objs.size)
      repeat (any_goals (first | assumption | wp_step))
      refine codeAny_mono (init_tuple (A := A.in1) (E := E) (knd := knd) calm hl len few val) ?_
      rintro (e | f) s₂ h
      · exact h
      · cases f with
        | ret r =>
          obtain ⟨rfl, F⟩ := h
          exact wpAny_pure (wpAny_pure (q s₂ F))
        | _ => exact h.elim
    | _ => exact h.elim
end
/-- a set holds as many as there are -/
theorem Stands.least {P : Program} {w : World} {T : Type} [DecidableEq T] {knd : KeyKind P w T} {h : Heap} {a : Addr} {S : T → Bool} {n : Nat} (R : Stands knd h a S n) {xs : List T} (nd : xs.Nodup) (all : ∀ k ∈ xs, S k = true) : xs.length ≤ n := by
  obtain ⟨o, es, ep, t, _, _, _, rfl, L⟩ := R
  have pig : ∀ (l : List T) (D : List (Int × Value)), l.Nodup → (∀ k ∈ l, ∃ e ∈ D, knd.is k e.2 = true) → l.length ≤ D.length := by
    intro l
    induction l with
    | nil => intros; exact Nat.zero_le _
    | cons k l ih =>
      intro D nd hD
      obtain ⟨n1, n2⟩ := List.nodup_cons.mp nd
      obtain ⟨e, me, ie⟩ := hD k List.mem_cons_self
      obtain ⟨D1, D2, rfl⟩ := List.append_of_mem me
      have := ih (D1 ++ D2) n2 fun k' mk' => by
        obtain ⟨e', me', ie'⟩ := hD k' (List.mem_cons_of_mem _ mk')
        rcases List.mem_append.mp me' with z | z
        · exact ⟨e', List.mem_append_left _ z, ie'⟩
        · rcases List.mem_cons.mp z with rfl | z
          · exact absurd (knd.inj _ _ _ ie' ie ▸ mk') n1
          · exact ⟨e', List.mem_append_right _ z, ie'⟩
      rw [List.length_append] at this
      rw [List.length_cons, List.length_append, List.length_cons]
      omega
  have := pig xs es.toList nd fun k mk => (L.mem k).mp (all k mk)
  simpa using this
/-- set(zs), zs a list or a tuple of fewer than 64 texts -/
def rTxtSetA (K : PySem.W.Frag) (P : Program) (w : World) : List V → Hp → VK → Prop := fun vs H Q =>
  ∃ (l : Addr) (zs : List Str), vs = [V.ref l] ∧ (SqL K H l (zs.map V.str) ∨ SqT K H l (zs.map V.str)) ∧ zs.length < 64 ∧ ∀ p m, H p = none → m ≤ zs.length → Q (.ref p) (upd H p (TxtSet P w p (fun k => decide (k ∈ zs)) m))
/-- len(S), S such a set -/
def rTxtLen (P : Program) (w : World) : List V → Hp → VK → Prop := fun vs H Q =>
  ∃ (a : Addr) (S : Str → Bool) (n : Nat), vs = [V.ref a] ∧ H a = some (TxtSet P w a S n) ∧ n < 1000 ∧ ((∀ xs : List Str, xs.Nodup → (∀ k ∈ xs, S k = true) → xs.length ≤ n) → Q (.int (n : Int)) H)
section
variable {X : Cx}
theorem cr_txtSetA (calm : X.calm = true) : CallR X (.type "set") (rTxtSetA X.K X.prog X.w) := by
  intro pins s σ H vs us Q I r h
  obtain ⟨l, zs, rfl, hl, few, q⟩ := h
  rcases hl with hl | hl
  · exact cr_txtSet calm pins s σ H _ us Q I r ⟨l, zs, rfl, hl, few, q⟩
  · rw [Vals.ref1 r]
    obtain ⟨its, rel, pl, _⟩ := I.tuple hl
    have len : zs.length = its.length := by
      have z := rel.length
      rwa [List.length_map] at z
    refine set_tuple (knd := PySem.strKind X.prog X.w) (xs := zs) (I.ok.hd calm) pl len (by unfold scanBound; omega) (fun i v e => ?_) fun s' F => ?_
    · have lt : i < zs.length := by
        rw [len]
        exact (List.getElem?_eq_some_iff.mp e).1
      obtain ⟨u, hu, t, rfl⟩ := rel.get (i := i) (x := .str zs[i]) (by simp [lt])
      cases Option.some.inj (e.symm.trans hu)
      exact ⟨zs[i], List.getElem?_eq_getElem lt, strKind_is _ _ _ _, rfl⟩
    · obtain ⟨h', tk, m, rfl, hm, R, kept⟩ := F
      exact ⟨.ref _, _, I.laid (t' := tk) kept (Nat.le_refl _) (txtSet_ok R), rfl, q _ m (I.hok.fresh (Nat.le_refl _)) hm⟩
theorem cr_txtLen : CallR X (.builtin "len") (rTxtLen X.prog X.w) := by
  intro pins s σ H vs us Q I r h
  obtain ⟨a, S, n, rfl, ha, few, q⟩ := h
  have R : Stands (PySem.strKind X.prog X.w) s.heap a S n := (I.hok a _ ha).1
  have le := fun xs nd all => R.least (xs := xs) nd all
  rw [Vals.ref1 r]
  obtain ⟨o, es, ep, t, ho, hex, hd, rfl, L⟩ := R
  exact call_len_set ho hex hd L.fit (by omega) ⟨.int _, H, I.tok _, ⟨_, rfl⟩, q le⟩
end
end Moot
/-! Sets whose members are texts and tuples mixed. -/
namespace Moot
open PySem PySem.Spec PyProof.Rows L2
/-- what a member is: a text with a token, or a tuple -/
def KIs (h : Heap) (k : NestedKey) (v : Value) : Prop := NestedIs h k v ∧ k.depth ≤ 7 ∧ ((∃ x t, v = .str x t ∧ t ≠ 0) ∨ ∃ b, v = .ref b)
section
variable {P : Program} {w : World} {A : Around} {E : Value → Shared → Prop} {s : Shared}
theorem same_self {h : Heap} {k : NestedKey} {v : Value} (m : KIs h k v) {Q : Bool → Shared → Prop} (q : Q true s) : wpAny (model P w) A (isSame v v) Q E s := by
  rcases m.2.2 with ⟨x, t, rfl, ht⟩ | ⟨b, rfl⟩
  · show wpAny _ _ (isSame.created (x == x) t t) _ _ _
    unfold isSame.created
    have e : (t == 0 || t == 0) = false := by simpa using ht
    rw [e]
    simp only [Bool.false_eq_true, if_false, beq_self_eq_true, if_true]
    exact wpAny_pure q
  · exact wpAny_isSame_ref_self q
/-- of no class statement -/
def NoCls (P : Program) (w : World) (n : Nat) (s : Shared) (v : Value) : Prop := ∀ (A : Around) (E : Value → Shared → Prop) (Q : Bool → Shared → Prop), Q false s → wpAny (model P w) A (ofAClassStatement n v) Q E s
/-- whether its hash is by value: some answer -/
def HashBy (P : Program) (w : World) (n : Nat) (s : Shared) (v : Value) : Prop := ∀ (A : Around) (E : Value → Shared → Prop) (Q : Bool → Shared → Prop), (∀ b, Q b s) → wpAny (model P w) A (hashByValue n v) Q E s
theorem noCls_tup {n : Nat} {a : Addr} {o : Obj} {vs : Array Value} {m : Nat} (ho : s.heap.get? a = some o) (hc : o.cls = .type "tuple") (hd : o.data = .seq vs m) (all : ∀ v ∈ vs.toList, NoCls P w n s v) : NoCls P w (n + 1) s (.ref a) := by
  intro A E Q h
  have hT : s.TypeIs (.ref a) "tuple" := ⟨o, ho, hc⟩
  unfold ofAClassStatement
  refine wpAny_bind (wpAny_typeOf hT ?_)
  have e : (("tuple" : String) == "tuple") = true := by decide
  simp only [e, if_true, Bool.not_true, Bool.false_eq_true, if_false]
  try refine wpAny_bind (wpAny_pure ?_)
  try simp only [Bool.not_true, Bool.false_eq_true, if_false]
  refine wpAny_bind (wpAny_seqItems ho hd ?_)
  dsimp only
  refine wpAny_bind ?_
  rw [← Array.forIn_toList]
  refine wpAny_forIn_list _ (fun rest r s' => r.1 = none ∧ s' = s ∧ ∀ v ∈ rest, NoCls P w n s v) _ ?_ ?_ _ _ ⟨rfl, rfl, all⟩
  · rintro v rest r s' ⟨_, rfl, hall⟩
    refine wpAny_bind (hall v List.mem_cons_self _ _ _ ?_)
    simp only [Bool.false_eq_true, if_false]
    exact wpAny_pure ⟨rfl, rfl, fun u hu => hall u (List.mem_cons_of_mem _ hu)⟩
  · rintro ⟨r1, r2⟩ s' ⟨hr, rfl, _⟩
    simp only at hr
    subst hr
    exact wpAny_pure h
theorem hashBy_tupN {n : Nat} {a : Addr} {o : Obj} {vs : Array Value} {m : Nat} (ho : s.heap.get? a = some o) (hc : o.cls = .type "tuple") (hd : o.data = .seq vs m) (all : ∀ v ∈ vs.toList, HashBy P w n s v) : HashBy P w (n + 1) s (.ref a) := by
  intro A E Q h
  have hT : s.TypeIs (.ref a) "tuple" := ⟨o, ho, hc⟩
  unfold hashByValue
  refine wpAny_bind (wpAny_specialOf hT F.slot_tuple_hash.lookup ?_)
  show wpAny _ _ (seqItems? (.ref a) >>= _) _ _ s
  refine wpAny_bind (wpAny_seqItems ho hd ?_)
  refine wpAny_bind ?_
  show wpAny _ _ (forIn vs _ _) _ _ s
  rw [← Array.forIn_toList]
  refine wpAny_forIn_list _ (fun rest r s' => s' = s ∧ ∀ v ∈ rest, HashBy P w n s v) _ ?_ ?_ _ _ ⟨rfl, all⟩
  · rintro v rest r s' ⟨rfl, hall⟩
    refine wpAny_bind (hall v List.mem_cons_self _ _ _ fun b => ?_)
    cases b
    · simp only [Bool.not_false, if_true]
      exact wpAny_pure (wpAny_pure (h _))
    · simp only [Bool.not_true, Bool.false_eq_true, if_false]
      exact wpAny_pure ⟨rfl, fun u hu => hall u (List.mem_cons_of_mem _ hu)⟩
  · rintro ⟨r1, r2⟩ s' ⟨rfl, _⟩
    cases r1 with
    | none => exact wpAny_pure (h _)
    | some b => exact wpAny_pure (h _)
mutual
theorem noCls_key : ∀ (k : NestedKey) (v : Value) (n : Nat) (s : Shared), NestedIs s.heap k v → k.depth ≤ n → NoCls P w n s v
  | .none, _, n, s, x, _ => by cases x; intro A E Q h; cases n <;> exact wpAny_pure h
  | .num i, _, n, s, x, _ => by cases x <;> (intro A E Q h; cases n <;> exact wpAny_pure h)
  | .text y, _, n, s, x, _ => by cases x; intro A E Q h; cases n <;> exact wpAny_pure h
  | .tup ks, _, n, s, x, hn => by
    cases x with
    | tup hg hc hd hk =>
      simp only [NestedKey.depth] at hn
      cases n with
      | zero => omega
      | succ n => exact noCls_tup hg hc hd (noCls_keys ks _ n s hk (by omega))
theorem noCls_keys : ∀ (ks : List NestedKey) (vs : List Value) (n : Nat) (s : Shared), NestedAll s.heap ks vs → NestedKey.depthAll ks ≤ n → ∀ v ∈ vs, NoCls P w n s v
  | [], _, n, s, x, _, v, hv => by cases x; cases hv
  | k :: ks, _, n, s, x, hn, v, hv => by
    cases x with
    | cons x1 x2 =>
      simp only [NestedKey.depthAll] at hn
      rcases List.mem_cons.mp hv with e | hv
      · rw [e]; exact noCls_key k _ n s x1 (by omega)
      · exact noCls_keys ks _ n s x2 (by omega) v hv
end
mutual
theorem hashBy_key : ∀ (k : NestedKey) (v : Value) (n : Nat) (s : Shared), NestedIs s.heap k v → k.depth ≤ n → HashBy P w n s v
  | .none, _, n, s, x, _ => by cases x; intro A E Q h; cases n <;> exact wpAny_pure (h _)
  | .num i, _, n, s, x, _ => by cases x <;> (intro A E Q h; cases n <;> exact wpAny_pure (h _))
  | .text y, _, n, s, x, _ => by cases x; intro A E Q h; cases n <;> exact wpAny_pure (h _)
  | .tup ks, _, n, s, x, hn => by
    cases x with
    | tup hg hc hd hk =>
      simp only [NestedKey.depth] at hn
      cases n with
      | zero => omega
      | succ n => exact hashBy_tupN hg hc hd (hashBy_keys ks _ n s hk (by omega))
theorem hashBy_keys : ∀ (ks : List NestedKey) (vs : List Value) (n : Nat) (s : Shared), NestedAll s.heap ks vs → NestedKey.depthAll ks ≤ n → ∀ v ∈ vs, HashBy P w n s v
  | [], _, n, s, x, _, v, hv => by cases x; cases hv
  | k :: ks, _, n, s, x, hn, v, hv => by
    cases x with
    | cons x1 x2 =>
      simp only [NestedKey.depthAll] at hn
      rcases List.mem_cons.mp hv with e | hv
      · rw [e]; exact hashBy_key k _ n s x1 (by omega)
      · exact hashBy_keys ks _ n s x2 (by omega) v hv
end
/-- a search among them shows nothing -/
theorem seen_key {k : NestedKey} {v : Value} (hk : KIs s.heap k v) {ys : List Value} (hy : ∀ y ∈ ys, ∃ k', KIs s.heap k' y) {Q : Bool → Shared → Prop} (h : Q false s) : wpAny (model P w) A (searchCouldBeSeen v ys) Q E s := by
  unfold searchCouldBeSeen
  refine wpAny_bind ?_
  refine wpAny_forIn_list _ (fun rest r s' => r.1 = none ∧ s' = s ∧ ∀ y ∈ rest, ∃ k', KIs s.heap k' y) _ ?_ ?_ _ _ ⟨rfl, rfl, hy⟩
  · rintro y rest r s' ⟨_, rfl, hall⟩
    obtain ⟨k', hc⟩ := hall y List.mem_cons_self
    have rest' : ∀ y ∈ rest, ∃ k', KIs s'.heap k' y := fun u hu => hall u (List.mem_cons_of_mem _ hu)
    dsimp only
    split
    all_goals
      split
      · exact wpAny_pure ⟨rfl, rfl, rest'⟩
      · refine wpAny_bind (quiet_key k _ 8 s' hk.1 (by have := hk.2.1; omega) _ _ _ ?_)
        simp only [Bool.not_true, Bool.false_eq_true, if_false]
        refine wpAny_bind (quiet_key k' _ 8 s' hc.1 (by have := hc.2.1; omega) _ _ _ ?_)
        simp only [Bool.not_true, Bool.false_eq_true, if_false]
        refine wpAny_bind (noCls_key k _ 8 s' hk.1 (by have := hk.2.1; omega) _ _ _ ?_)
        simp only [Bool.false_eq_true, if_false]
        refine wpAny_bind (noCls_key k' _ 8 s' hc.1 (by have := hc.2.1; omega) _ _ _ ?_)
        simp only [Bool.false_eq_true, if_false]
        exact wpAny_pure ⟨rfl, rfl, rest'⟩
  · rintro ⟨r1, r2⟩ s' ⟨hr, rfl, _⟩
    simp only at hr
    subst hr
    exact wpAny_pure h
end
end Moot
namespace Moot
open PySem PySem.Spec PyProof.Rows L2
abbrev Mb := NestedKey × Value
def rowsN (w : World) (L : List Mb) : List (Int × Value) := L.map fun p => (p.1.hash w, p.2)
/-- the set at a has the members L, in the order of its table -/
structure SetN (w : World) (h : Heap) (a : Addr) (L : List Mb) (es : Array (Int × Value)) (ep : Nat) (t : SetTable) : Prop where
  ob : ∃ o, h.get? a = some o ∧ o.ExactSet ∧ o.data = .set es ep t
  rows : es.toList = rowsN w L
  tab : TabOk t (L.map fun p => p.1.hash w)
  nd : (L.map (·.1)).Nodup
  mem : ∀ p ∈ L, KIs h p.1 p.2
  led : w.params.followText "set-order" = true ∨ t.led = true
  room : L.length * 5 < t.mask * 3
  few : L.length < 64
section
variable {P : Program} {w : World} {A : Around} {E : Value → Shared → Prop} {s : Shared} {a : Addr} {L : List Mb} {es : Array (Int × Value)} {ep : Nat} {t : SetTable}
theorem SetN.size {h : Heap} (R : SetN w h a L es ep t) : es.size = L.length := by
  have e := congrArg List.length R.rows
  unfold rowsN at e
  rwa [Array.length_toList, List.length_map] at e
theorem SetN.fits {h : Heap} (R : SetN w h a L es ep t) : t.fits es.size = true := by
  have h1 := R.tab.sz
  rw [List.length_map] at h1
  have h2 := R.size
  have h3 := R.room
  unfold SetTable.fits SetTable.fill
  rw [R.tab.dm, Bool.and_eq_true, beq_iff_eq, decide_eq_true_eq]
  show t.place.size = es.size ∧ t.place.size + 0 ≤ t.mask
  omega
theorem SetN.entry {h : Heap} (R : SetN w h a L es ep t) {i : Nat} {p : Mb} (e : L[i]? = some p) : es[i]? = some (p.1.hash w, p.2) := by
  rw [← Array.getElem?_toList, R.rows]
  unfold rowsN
  rw [List.getElem?_map, e]
  rfl
theorem SetN.odd {h : Heap} (R : SetN w h a L es ep t) : ¬ t.gaveWay = true := by
  unfold SetTable.gaveWay
  rw [mask_odd R.tab.mok]
  decide
theorem dummy_none (m : Nat) : ∀ (n : Nat) (p : SetTable.Probe), p.dummy = none → (nth m p n).dummy = none
  | 0, _, h => h
  | n + 1, p, h => dummy_none m n (adv m p) (by unfold adv; split <;> exact h)
/-- the search, from the c-th step of the way on -/
theorem find_from (R : SetN w s.heap a L es ep t) {x : Value} {k : NestedKey} (hx : KIs s.heap k x) (hu : A.units + 8 < cLine) {hv : Int} (ehv : hv = k.hash w) {N : Nat} (fuelN : N < 10 * SetTable.turns t.mask)
    (free : way t.mask hv N ∉ t.place.toList) (taken : ∀ c, c < N → way t.mask hv c ∈ t.place.toList) {Q : SetFound → Shared → Prop}
    (inn : k ∈ L.map (·.1) → Q (.there none) s) (out : k ∉ L.map (·.1) → Q (.free (way t.mask hv N) false) s) :
    ∀ (f c : Nat) (stand : Option SetTable.Probe), stand.getD (t.probeStart hv) = nth t.mask (runAt t.mask (SetTable.bits hv % (t.mask + 1)) (SetTable.bits hv)) c → c ≤ N → N - c < f →
      (∀ (i : Nat) p, L[i]? = some p → p.1 = k → ∃ d, c ≤ d ∧ d < N ∧ t.place.toList[i]? = some (way t.mask hv d)) → wpAny (model P w) A (setSearchFrom a x hv true f stand) Q E s
  | 0, _, _, _, _, hf, _ => absurd hf (Nat.not_lt_zero _)
  | f + 1, c, stand, hst, hc, hf, later => by
    obtain ⟨o, ho, hex, hd⟩ := R.ob
    rw [setSearchFrom_succ]
    refine wpAny_bind (wpAny_setState_of ho hd R.fits ?_)
    dsimp only
    refine wp_if_neg R.odd ?_
    try refine wpAny_bind (wpAny_pure ?_)
    have shift : ∀ q, nth t.mask (nth t.mask (runAt t.mask (SetTable.bits hv % (t.mask + 1)) (SetTable.bits hv)) c) q = nth t.mask (runAt t.mask (SetTable.bits hv % (t.mask + 1)) (SetTable.bits hv)) (c + q) := fun q => (nth_add t.mask c _ q).symm
    have shiftJ : ∀ q, (nth t.mask (nth t.mask (runAt t.mask (SetTable.bits hv % (t.mask + 1)) (SetTable.bits hv)) c) q).j = way t.mask hv (c + q) := fun q => congrArg SetTable.Probe.j (shift q)
    have spec := go_spec t R.tab.ris R.tab.dm (fun i => (es[i]?.map (·.1)).getD 0) hv (10 * SetTable.turns t.mask) (N - c) _ (dummy_none t.mask c _ rfl) (by omega)
      (fun q hq => by rw [shiftJ]; exact taken (c + q) (by omega)) (by rw [shiftJ, show c + (N - c) = N by omega]; exact free)
    have stored : ∀ (i : Nat) p, L[i]? = some p → (fun i => (es[i]?.map (·.1)).getD 0) i = p.1.hash w := fun i p hp => by
      show (es[i]?.map (·.1)).getD 0 = _
      rw [R.entry hp]
      rfl
    rcases spec with ⟨q, i, hq, hi, _, before, met⟩ | ⟨before, met⟩
    · have met' : t.probe (fun i => (es[i]?.map (·.1)).getD 0) hv (stand.getD (t.probeStart hv)) = some (.candidate (way t.mask hv (c + q)) i (nth t.mask (runAt t.mask (SetTable.bits hv % (t.mask + 1)) (SetTable.bits hv)) (c + (q + 1)))) := by
        rw [hst, ← shiftJ, ← shift]
        exact met
      rw [met']
      dsimp only
      rw [shiftJ] at hi
      have lt : i < L.length := by
        have h1 : i < t.place.toList.length := (List.getElem?_eq_some_iff.mp hi).1
        have h2 := R.tab.sz
        rw [List.length_map] at h2
        rw [Array.length_toList] at h1
        omega
      obtain ⟨p, hp⟩ : ∃ p, L[i]? = some p := ⟨_, List.getElem?_eq_getElem lt⟩
      have mp : p ∈ L := List.mem_of_getElem? hp
      have kp := R.mem p mp
      have rest : wpAny (model P w) A (searchRest a x hv true f es t (way t.mask hv (c + q)) i (nth t.mask (runAt t.mask (SetTable.bits hv % (t.mask + 1)) (SetTable.bits hv)) (c + (q + 1)))) Q E s := by
        unfold searchRest
        rw [R.entry hp]
        dsimp only
        have d1 := kp.2.1
        have d2 := hx.2.1
        refine wpAny_bind (wpAny_holding (eqAt_key p.1 k A s p.2 x kp.1 hx.1 (by omega) P w E _ ?_))
        rw [← NestedKey.decide_eq]
        refine wpAny_bind (wpAny_setState_of ho hd R.fits ?_)
        dsimp only
        by_cases same : p.1 = k
        · refine wp_if_pos (by simp [same]) ?_
          exact wpAny_pure (inn (List.mem_map.mpr ⟨p, mp, same⟩))
        · refine wp_if_neg (by simp [same]) ?_
          try refine wpAny_bind (wpAny_pure ?_)
          rw [sameMem]
          dsimp only
          have here : t.slot (way t.mask hv (c + q)) = .live i := slot_live R.tab.ris hi
          simp only [if_true, here, R.entry hp]
          refine wpAny_bind (same_self kp (wpAny_bind (wpAny_pure ?_)))
          simp only [if_true]
          refine wp_if_neg (by simp [same]) ?_
          refine find_from R hx hu ehv fuelN free taken inn out f (c + (q + 1)) _ rfl (by omega) (by omega) fun i0 p0 h0 k0 => ?_
          obtain ⟨d, a1, a2, a3⟩ := later i0 p0 h0 k0
          refine ⟨d, ?_, a2, a3⟩
          rcases Nat.lt_or_ge d (c + q) with z | z
          · exact (before (d - c) i0 (by omega) (by rw [shiftJ, show c + (d - c) = d by omega]; exact a3) ((stored i0 p0 h0).trans (by rw [k0, ehv]))).elim
          · rcases Nat.lt_or_ge (c + q) d with y | y
            · omega
            · exfalso
              have ed : d = c + q := Nat.le_antisymm y z
              rw [ed] at a3
              have s0 := slot_live R.tab.ris a3
              rw [here] at s0
              injection s0 with s0
              rw [← s0, hp] at h0
              exact same ((congrArg Prod.fst (Option.some.inj h0)).trans k0)
      by_cases hl : t.led = true
      · refine wp_if_neg (by simp [hl]) ?_
        try refine wpAny_bind (wpAny_pure ?_)
        exact rest
      · refine wp_if_pos (by simp [hl]) ?_
        refine wpAny_bind (seen_key hx (fun y hy => ?_) ?_)
        · obtain ⟨e, he, ee⟩ := List.mem_map.mp hy
          have he1 : e ∈ es ∧ e.1 = hv := by simpa using he
          have he2 : e ∈ es.toList := by simpa using he1.1
          rw [R.rows] at he2
          obtain ⟨p2, hp2, e2⟩ := List.mem_map.mp he2
          refine ⟨p2.1, ?_⟩
          rw [← ee, ← e2]
          exact R.mem p2 hp2
        · refine wp_if_neg (by decide) ?_
          try refine wpAny_bind (wpAny_pure ?_)
          exact rest
    · have met' : t.probe (fun i => (es[i]?.map (·.1)).getD 0) hv (stand.getD (t.probeStart hv)) = some (.empty (way t.mask hv N) none) := by
        have e2 : way t.mask hv N = (nth t.mask (nth t.mask (runAt t.mask (SetTable.bits hv % (t.mask + 1)) (SetTable.bits hv)) c) (N - c)).j := by rw [shiftJ, show c + (N - c) = N by omega]
        rw [hst, e2]
        exact met
      rw [met']
      dsimp only
      refine wpAny_pure (out fun hm => ?_)
      obtain ⟨p0, h0, k0⟩ := List.mem_map.mp hm
      obtain ⟨i0, hi0, e0⟩ := List.getElem_of_mem h0
      have h00 : L[i0]? = some p0 := by rw [List.getElem?_eq_getElem hi0, e0]
      obtain ⟨d, a1, a2, a3⟩ := later i0 p0 h00 k0
      exact before (d - c) i0 (by omega) (by rw [shiftJ, show c + (d - c) = d by omega]; exact a3) ((stored i0 p0 h00).trans (by rw [k0, ehv]))
theorem turns_le {m : Nat} (h : MaskOk m) : 10 * SetTable.turns m ≤ 1420 := by
  unfold SetTable.turns
  rcases h with e | e | e <;> omega
theorem SetN.firstFree {h : Heap} (R : SetN w h a L es ep t) (hv : Int) : ∃ N, N < 10 * SetTable.turns t.mask ∧ way t.mask hv N ∉ t.place.toList ∧ ∀ c, c < N → way t.mask hv c ∈ t.place.toList :=
  R.tab.first (by rw [List.length_map]; have := R.room; omega) hv
/-- the search as adding asks for it -/
theorem find_at (R : SetN w s.heap a L es ep t) {x : Value} {k : NestedKey} (hx : KIs s.heap k x) (hu : A.units + 8 < cLine) {Q : SetFound → Shared → Prop} (inn : k ∈ L.map (·.1) → Q (.there none) s)
    (out : ∀ N, k ∉ L.map (·.1) → way t.mask (k.hash w) N ∉ t.place.toList → (∀ c, c < N → way t.mask (k.hash w) c ∈ t.place.toList) → Q (.free (way t.mask (k.hash w) N) false) s) :
    wpAny (model P w) A (setSearch a x (k.hash w) true) Q E s := by
  obtain ⟨N, h1, h2, h3⟩ := R.firstFree (k.hash w)
  have big := turns_le R.tab.mok
  unfold setSearch
  refine find_from R hx hu rfl h1 h2 h3 inn (fun hn => out N hn h2 h3) 100000 0 none rfl (Nat.zero_le _) (by omega) fun i p hp hk => ?_
  have hi : (L.map fun p => p.1.hash w)[i]? = some (k.hash w) := by
    rw [List.getElem?_map, hp, ← hk]
    rfl
  have hil : i < t.place.toList.length := by
    have e1 : i < L.length := (List.getElem?_eq_some_iff.mp hp).1
    have e2 := R.tab.sz
    rw [List.length_map] at e2
    rw [Array.length_toList]
    omega
  have hj := List.getElem?_eq_getElem hil
  obtain ⟨c, hc, e⟩ := R.tab.before h2 hi hj
  exact ⟨c, Nat.zero_le _, hc, by rw [hj, e]⟩
end
end Moot
namespace Moot
open PySem PySem.Spec PyProof.Rows L2
/-- entries picked in another order -/
theorem picked {w : World} (L : List Mb) (es : Array (Int × Value)) (order : Array Nat) (hr : es.toList = rowsN w L) (hp : order.toList.Perm (List.range L.length)) :
    ∃ L2, (order.filterMap (es[·]?)).toList = rowsN w L2 ∧ L2.Perm L ∧ (L2.map fun p => p.1.hash w) = order.toList.map fun i => (es.map (·.1)).getD i 0 := by
  have at_ : ∀ i (h : i < L.length), es[i]? = some ((L[i]).1.hash w, (L[i]).2) := fun i h => by
    rw [← Array.getElem?_toList, hr]
    unfold rowsN
    rw [List.getElem?_map, List.getElem?_eq_getElem h]
    rfl
  have key : ∀ l : List Nat, (∀ i ∈ l, i < L.length) → ∃ L2 : List Mb, l.filterMap (fun i => es[i]?) = rowsN w L2 ∧ L2 = l.filterMap (fun i => L[i]?) ∧ (L2.map fun p => p.1.hash w) = l.map fun i => (es.map (·.1)).getD i 0 := by
    intro l
    induction l with
    | nil => intro _; exact ⟨[], rfl, rfl, rfl⟩
    | cons i l ih =>
      intro hl
      have hi := hl i List.mem_cons_self
      obtain ⟨L2, e1, e2, e3⟩ := ih fun j hj => hl j (List.mem_cons_of_mem _ hj)
      refine ⟨L[i] :: L2, ?_, ?_, ?_⟩
      · rw [List.filterMap_cons_some (at_ i hi), e1]
        rfl
      · rw [List.filterMap_cons_some (List.getElem?_eq_getElem hi), e2]
      · rw [List.map_cons, List.map_cons, e3]
        have e5 : (es.map (·.1))[i]? = some ((L[i]).1.hash w) := by
          rw [Array.getElem?_map, at_ i hi]
          rfl
        have e4 : (es.map (·.1)).getD i 0 = (L[i]).1.hash w := by simp [Array.getD_eq_getD_getElem?, e5]
        rw [e4]
  obtain ⟨L2, e1, e2, e3⟩ := key order.toList fun i hi => List.mem_range.mp (hp.mem_iff.mp hi)
  refine ⟨L2, by first | (rw [Array.toList_filterMap]; exact e1) | simpa using e1, ?_, e3⟩
  have h1 : L2.Perm ((List.range L.length).filterMap fun i => L[i]?) := by
    rw [e2]
    exact hp.filterMap _
  have h2 : (List.range L.length).filterMap (fun i => L[i]?) = L := by
    have upto : ∀ n, n ≤ L.length → (List.range n).filterMap (fun i => L[i]?) = L.take n := by
      intro n
      induction n with
      | zero => intro _; rfl
      | succ n ih =>
        intro hn
        have lt : n < L.length := hn
        rw [List.range_succ, List.filterMap_append, ih (Nat.le_of_lt lt), List.take_succ, List.getElem?_eq_getElem lt, List.filterMap_cons_some (List.getElem?_eq_getElem lt)]
        rfl
    rw [upto L.length (Nat.le_refl _), List.take_length]
  rw [h2] at h1
  exact h1
/-- what stands in the object, apart from room -/
structure Held (w : World) (h : Heap) (L : List Mb) (es : Array (Int × Value)) (t : SetTable) : Prop where
  rows : es.toList = rowsN w L
  tab : TabOk t (L.map fun p => p.1.hash w)
  nd : (L.map (·.1)).Nodup
  mem : ∀ p ∈ L, KIs h p.1 p.2
  led : w.params.followText "set-order" = true ∨ t.led = true
  few : L.length < 64
theorem Held.size {w : World} {h : Heap} {L : List Mb} {es : Array (Int × Value)} {t : SetTable} (R : Held w h L es t) : es.size = L.length := by
  have e := congrArg List.length R.rows
  unfold rowsN at e
  rwa [Array.length_toList, List.length_map] at e
theorem Held.fill {w : World} {h : Heap} {L : List Mb} {es : Array (Int × Value)} {t : SetTable} (R : Held w h L es t) : t.fill = L.length := by
  have := R.tab.sz
  rw [List.length_map] at this
  unfold SetTable.fill
  rw [R.tab.dm, this]
  rfl
theorem tab_plain {t : SetTable} {hs : List Int} (T : TabOk t hs) (b : Bool) : TabOk (if b = true then t else { t with plain := false }) hs := by
  cases b
  · exact ⟨T.ris, T.dm, T.sz, T.mok, T.bd, T.reach⟩
  · exact T
theorem Held.plain {w : World} {h : Heap} {L : List Mb} {es : Array (Int × Value)} {t : SetTable} (R : Held w h L es t) (b : Bool) : Held w h L es (if b = true then t else { t with plain := false }) :=
  ⟨R.rows, tab_plain R.tab b, R.nd, R.mem, by cases b <;> exact R.led, R.few⟩
/-- the members stay what they are when the set alone is written -/
theorem kis_same {h h' : Heap} {a : Addr} {o : Obj} {es : Array (Int × Value)} {ep : Nat} {t : SetTable} (ho : h.get? a = some o) (hd : o.data = .set es ep t) (sb : Heap.SameBut a h h') {k : NestedKey} {v : Value} (m : KIs h k v) : KIs h' k v :=
  ⟨NestedIs.at (fun b ob vs n hb hc => by
    refine (sb.2 b fun e => ?_).trans hb
    subst e
    rw [ho] at hb
    cases hb
    rw [hd] at hc
    cases hc) k _ m.1, m.2⟩
theorem kis_keep {h h' : Heap} (kp : ∀ b o, h.get? b = some o → h'.get? b = some o) {k : NestedKey} {v : Value} (m : KIs h k v) : KIs h' k v :=
  ⟨NestedIs.at (fun b ob vs n hb _ => kp b ob hb) k _ m.1, m.2⟩
section
variable {P : Program} {w : World} {A : Around} {E : Value → Shared → Prop} {s : Shared} {a : Addr} {L : List Mb} {es : Array (Int × Value)} {ep : Nat} {t : SetTable}
/-- the object with a member more -/
theorem held_put {h : Heap} (R : SetN w h a L es ep t) {x : Value} {k : NestedKey} (hx : KIs h k x) (few : L.length + 1 < 64) (new : k ∉ L.map (·.1)) {N : Nat} (free : way t.mask (k.hash w) N ∉ t.place.toList) (taken : ∀ c, c < N → way t.mask (k.hash w) c ∈ t.place.toList) :
    ∃ L1, Held w h L1 (SetTable.insertAt es (t.put (way t.mask (k.hash w) N)).2 (k.hash w, x)) (t.put (way t.mask (k.hash w) N)).1 ∧ L1.Perm ((k, x) :: L) ∧ (t.put (way t.mask (k.hash w) N)).1.mask = t.mask := by
  obtain ⟨q1, q2, q3, q4, q5, _⟩ := R.tab.put free taken
  rw [q1]
  refine ⟨L.take (SetTable.below t.place (way t.mask (k.hash w) N)) ++ (k, x) :: L.drop (SetTable.below t.place (way t.mask (k.hash w) N)), ?_, put_perm _ _ _, q4⟩
  generalize SetTable.below t.place (way t.mask (k.hash w) N) = p at q2 q3
  have pm := put_perm L p (k, x)
  refine ⟨?_, ?_, ?_, fun r hr => ?_, by rw [q5]; exact R.led, ?_⟩
  · rw [SetTable.toList_insertAt, R.rows]
    unfold rowsN
    rw [List.map_append, List.map_cons, List.map_take, List.map_drop]
  · rw [List.map_append, List.map_cons, List.map_take, List.map_drop]
    exact q3
  · refine (pm.map (·.1)).nodup_iff.mpr ?_
    rw [List.map_cons]
    exact List.nodup_cons.mpr ⟨new, R.nd⟩
  · rcases List.mem_cons.mp (pm.mem_iff.mp hr) with e | hr
    · rw [e]; exact hx
    · exact R.mem r hr
  · rw [pm.length_eq]
    exact few
/-- laid anew, larger -/
theorem held_relaid {h : Heap} (R : Held w h L es t) {wanted M : Nat} (hw : SetTable.sizeAbove wanted - 1 = M) (hM : MaskOk M) (hn : L.length * 5 < M * 3) :
    ∃ t' order L', t.relaid (es.map (·.1)) wanted = some (t', order) ∧ Held w h L' (order.filterMap (es[·]?)) t' ∧ L'.Perm L ∧ t'.mask = M ∧ order.toList.Perm (List.range es.size) := by
  have sz := R.size
  obtain ⟨t', order, e, hp, T, em, el, _, _⟩ := relaid_ok t (hs := es.map (·.1)) (wanted := wanted) hw hM (by rw [Array.size_map, sz]; omega)
  rw [Array.size_map] at hp
  obtain ⟨L', r1, r2, r3⟩ := picked L es order R.rows (by rw [← sz]; exact hp)
  refine ⟨t', order, L', e, ⟨r1, by rw [r3]; exact T, (r2.map (·.1)).nodup_iff.mpr R.nd, fun p m => R.mem p (r2.mem_iff.mp m), by rw [el]; exact R.led, by rw [r2.length_eq]; exact R.few⟩, r2, em, hp⟩
/-- how large the table becomes -/
theorem grown_to {m n : Nat} (hm : MaskOk m) (lo : (n - 1) * 5 < m * 3) (full : n * 5 ≥ m * 3) (few : n < 64) (n1 : 1 ≤ n) : ∃ M, SetTable.sizeAbove (SetTable.grown n) - 1 = M ∧ MaskOk M ∧ n * 5 < M * 3 ∧ SetTable.sizeAbove (SetTable.grown n) ≤ 128 := by
  rcases hm with e | e | e
  · have : n = 5 := by omega
    subst this
    exact ⟨31, by rw [size_20], .inr (.inl rfl), by decide, by rw [size_20]; decide⟩
  · have : n = 19 := by omega
    subst this
    exact ⟨127, by rw [size_76], .inr (.inr rfl), by decide, by rw [size_76]; decide⟩
  · omega
end
end Moot
namespace Moot
open PySem PySem.Spec PyProof.Rows L2
section
variable {P : Program} {w : World} {A : Around} {E : Value → Shared → Prop} {s : Shared} {a : Addr} {L : List Mb} {es : Array (Int × Value)} {ep : Nat} {t : SetTable}
/-- the object is so, and has room -/
theorem Held.set {h h' : Heap} {o : Obj} (R : Held w h L es t) (ho : h'.get? a = some o) (hex : o.ExactSet) (hd : o.data = .set es ep t) (mem : ∀ p ∈ L, KIs h' p.1 p.2) (room : L.length * 5 < t.mask * 3) : SetN w h' a L es ep t :=
  ⟨⟨o, ho, hex, hd⟩, R.rows, R.tab, R.nd, mem, R.led, room, R.few⟩
/-- a slot that is free, whatever the hashes are -/
theorem free_slot {h : Heap} (R : SetN w h a L es ep t) (hv : Int) : ∃ N, t.freeSlot hv = some (way t.mask hv N, false) ∧ way t.mask hv N ∉ t.place.toList ∧ ∀ c, c < N → way t.mask hv c ∈ t.place.toList := by
  obtain ⟨N, h1, h2, h3⟩ := R.firstFree hv
  refine ⟨N, ?_, h2, h3⟩
  have spec := go_spec t R.tab.ris R.tab.dm (fun _ => hv + 1) hv (10 * SetTable.turns t.mask) N (runAt t.mask (SetTable.bits hv % (t.mask + 1)) (SetTable.bits hv)) rfl h1 h3 h2
  rcases spec with ⟨_, _, _, _, z, _⟩ | ⟨_, met⟩
  · omega
  · unfold SetTable.freeSlot
    have e : t.probe (fun _ => hv + 1) hv (t.probeStart hv) = some (.empty (way t.mask hv N) none) := met
    rw [e]
    rfl
/-- the object is written with a member more, the table laid anew where it is too full -/
theorem finish {β : Type} {o : Obj} (ho : s.heap.get? a = some o) (hex : o.ExactSet) {es0 : Array (Int × Value)} {t0 : SetTable} (hd : o.data = .set es0 ep t0) (R : Held w s.heap L es t) (lo : (L.length - 1) * 5 < t.mask * 3) (n1 : 1 ≤ L.length) {full : Bool} (hf : full = t.tooFull) {c1 k : Sem β} {Q : β → Shared → Prop}
    (q : ∀ h' L' es' ep' t', Heap.SameBut a s.heap h' → SetN w h' a L' es' ep' t' → L'.Perm L → wpAny (model P w) A k Q E { s with heap := h' })
    (big : ∀ (h1 : Heap) (o1 : Obj) t' order, h1.get? a = some o1 → o1.ExactSet → o1.data = .set es (ep + 1) t → SetTable.sizeAbove (SetTable.grown es.size) ≤ 128 → t.relaid (es.map (·.1)) (SetTable.grown es.size) = some (t', order) → (order.filterMap (es[·]?)).size = es.size → t'.fits es.size = true → order.toList.Perm (List.range es.size) → es.size < 64 → t.fits es.size = true →
      (∀ h2 ep2, Heap.SameBut a h1 h2 → (∃ o2, h2.get? a = some o2 ∧ o2.ExactSet ∧ o2.data = .set (order.filterMap (es[·]?)) ep2 t') → wpAny (model P w) A k Q E { s with heap := h2 }) → wpAny (model P w) A c1 Q E { s with heap := h1 }) :
    wpAny (model P w) A (storeSet a es t >>= fun _ => if full = true then c1 else k) Q E s := by
  have sz := R.size
  have few := R.few
  refine wpAny_bind (wpAny_storeSet_of ho hd ?_ (by rw [sz, sizeLine_eq]; omega))
  have sb : Heap.SameBut a s.heap (s.heap.update a (Obj.putSet es t)) := Heap.SameBut.update ..
  have ho1 := store_at (es' := es) (t' := t) ho hd
  generalize s.heap.update a (Obj.putSet es t) = h1 at sb ho1 ⊢
  have mem1 : ∀ p ∈ L, KIs h1 p.1 p.2 := fun p m => kis_same ho hd sb (R.mem p m)
  have tf : full = decide (L.length * 5 ≥ t.mask * 3) := by
    rw [hf]
    unfold SetTable.tooFull
    rw [R.fill]
  cases full with
  | false =>
    rw [if_neg (by decide)]
    have := of_decide_eq_false tf.symm
    exact q h1 L es (ep + 1) t sb (R.set ho1 ⟨hex.1, hex.2.1, hex.2.2⟩ rfl mem1 (by omega)) (List.Perm.refl _)
  | true =>
    rw [if_pos rfl]
    have ge := of_decide_eq_true tf.symm
    obtain ⟨M, e1, e2, e3, e4⟩ := grown_to R.tab.mok lo ge few n1
    obtain ⟨t', order, L', r1, r2, r3, r4, r5⟩ := held_relaid R e1 e2 e3
    have fit : ∀ {t1 : SetTable} {es1 : Array (Int × Value)} {L1 : List Mb}, Held w s.heap L1 es1 t1 → L1.length = L.length → L1.length ≤ t1.mask → t1.fits es.size = true := fun {t1 es1 L1} R1 hl hm => by
      have h1 := R1.tab.sz
      rw [List.length_map] at h1
      unfold SetTable.fits
      rw [R1.fill, Bool.and_eq_true, beq_iff_eq, decide_eq_true_eq]
      omega
    have lm : L.length ≤ t.mask := by
      rcases R.tab.mok with e | e | e <;> omega
    refine big h1 _ t' order ho1 ⟨hex.1, hex.2.1, hex.2.2⟩ rfl (by rw [sz]; exact e4) (by rw [sz]; exact r1) (by rw [r2.size, r3.length_eq, sz]) (fit r2 r3.length_eq (by rw [r4, r3.length_eq]; omega)) r5 (by omega) (fit R rfl lm) fun h2 ep2 sb2 ⟨o2, ho2, hex2, hd2⟩ => ?_
    exact q h2 L' _ ep2 t' (sb.trans sb2) (r2.set ho2 hex2 hd2 (fun p m => kis_same ho1 rfl sb2 (mem1 p (r3.mem_iff.mp m))) (by rw [r4, r3.length_eq]; exact e3)) r3
/-- a member more -/
theorem add_N (R : SetN w s.heap a L es ep t) {x : Value} {k : NestedKey} (hx : KIs s.heap k x) (hu : A.units + 8 < cLine) (few : L.length + 1 < 64) {Q : Bool → Shared → Prop}
    (q : ∀ b h' L' es' ep' t', Heap.SameBut a s.heap h' → SetN w h' a L' es' ep' t' → (k ∈ L.map (·.1) → L' = L) → (k ∉ L.map (·.1) → L'.Perm ((k, x) :: L)) → Q b { s with heap := h' }) :
    wpAny (model P w) A (setAddHashed a x (k.hash w)) Q E s := by
  obtain ⟨o, ho, hex, hd⟩ := R.ob
  have room := R.room
  have old : k ∈ L.map (·.1) → Q false s := fun m => q false s.heap L es ep t (Heap.SameBut.refl a s.heap) R (fun _ => rfl) fun z => absurd m z
  have d8 : k.depth ≤ 8 := by have := hx.2.1; omega
  unfold setAddHashed
  refine wpAny_holding ?_
  rw [show (100000 : Nat) = 99999 + 1 from rfl, setAddHashedIn_succ]
  refine wpAny_bind (wpAny_setState_of ho hd R.fits ?_)
  dsimp only
  by_cases sc : byScan x es = true
  · refine wp_if_pos sc ?_
    have sc1 : x.scannable = true := by
      unfold byScan at sc
      rw [Bool.and_eq_true, Bool.and_eq_true] at sc
      exact sc.1.1
    obtain ⟨y, tk, rfl, htk⟩ : ∃ y tk, x = .str y tk ∧ tk ≠ 0 := by
      rcases hx.2.2 with h | ⟨b, rfl⟩
      · exact h
      · cases sc1
    have ek : k = .text y := by
      cases hx.1
      rfl
    subst ek
    have el : ElemsOf (PySem.strKind P w) es.toList := fun e me => by
      have sc2 : e.2.scannable = true := by
        unfold byScan at sc
        rw [Bool.and_eq_true] at sc
        have me' : e ∈ es := by simpa using me
        exact (Array.all_eq_true_iff_forall_mem.mp sc.2) e me'
      rw [R.rows] at me
      obtain ⟨p, mp, rfl⟩ := List.mem_map.mp me
      have kp := R.mem p mp
      refine ⟨?_, sc2⟩
      rcases kp.2.2 with ⟨z, tz, ez, _⟩ | ⟨b, eb⟩
      · have h1 := kp.1
        rw [ez] at h1
        obtain ⟨pk, pv⟩ := p
        dsimp only at ez h1 ⊢
        subst ez
        cases h1
        exact ⟨z, strKind_is _ _ _ _, rfl⟩
      · rw [eb] at sc2
        cases sc2
    have found : ∀ j, es.toList.findIdx? (fun e => (PySem.strKind P w).is y e.2) = some j → NestedKey.text y ∈ L.map (·.1) := fun j hj => by
      obtain ⟨lt, hit, _⟩ := List.findIdx?_eq_some_iff_getElem.mp hj
      have me : es.toList[j] ∈ es.toList := List.getElem_mem lt
      generalize es.toList[j] = e at me hit
      rw [R.rows] at me
      obtain ⟨p, mp, rfl⟩ := List.mem_map.mp me
      have kp := (R.mem p mp).1
      obtain ⟨tz, ez⟩ := Value.isStrOf_shape hit
      have ez : p.2 = .str y tz := ez
      rw [ez] at kp
      obtain ⟨pk, pv⟩ := p
      dsimp only at kp
      cases kp
      exact List.mem_map.mpr ⟨_, mp, rfl⟩
    have absent : es.toList.findIdx? (fun e => (PySem.strKind P w).is y e.2) = none → NestedKey.text y ∉ L.map (·.1) := fun hn hm => by
      obtain ⟨p, mp, ep'⟩ := List.mem_map.mp hm
      have no := List.findIdx?_eq_none_iff.mp hn (p.1.hash w, p.2) (by rw [R.rows]; exact List.mem_map.mpr ⟨p, mp, rfl⟩)
      have kp := (R.mem p mp).1
      rw [ep'] at kp
      obtain ⟨pk, pv⟩ := p
      dsimp only at kp no
      cases kp
      rw [strKind_is] at no
      cases no
    unfold setAddByScan
    apply wpAny_bind
    apply wpAny_bind
    apply wpAny_rule
    apply wpAny_bind
    refine wpAny_setScan_of (knd := PySem.strKind P w) (k := y) (strKind_is _ _ _ _) ho hd R.fits el ?_
    cases met : es.toList.findIdx? (fun e => (PySem.strKind P w).is y e.2) with
    | some j => exact wpAny_pure (wpAny_pure (old (found j met)))
    | none =>
      have new := absent met
      obtain ⟨N, fs, free, taken⟩ := free_slot R (NestedKey.hash w (.text y))
      obtain ⟨L1, H1, pm, em⟩ := held_put R hx few new free taken
      have len1 : L1.length = L.length + 1 := pm.length_eq
      have fit1 : (t.put (way t.mask (NestedKey.hash w (.text y)) N)).1.fits (SetTable.insertAt es (t.put (way t.mask (NestedKey.hash w (.text y)) N)).2 (NestedKey.hash w (.text y), .str y tk)).size = true := by
        have h1 := H1.tab.sz
        rw [List.length_map] at h1
        unfold SetTable.fits
        rw [H1.fill, H1.size, Bool.and_eq_true, beq_iff_eq, decide_eq_true_eq, em]
        refine ⟨h1, ?_⟩
        rcases R.tab.mok with e | e | e <;> omega
      have lay : layNew t es (NestedKey.hash w (.text y)) (.str y tk) = (SetTable.insertAt es (t.put (way t.mask (NestedKey.hash w (.text y)) N)).2 (NestedKey.hash w (.text y), .str y tk), (t.put (way t.mask (NestedKey.hash w (.text y)) N)).1, false, false) := by
        unfold layNew
        rw [fs]
        dsimp only
        unfold SetTable.orStandIn
        rw [fit1, if_pos rfl]
        rfl
      dsimp only
      rw [lay]
      dsimp only
      refine wpAny_bind (wpAny_pure (a := ()) ?_)
      have done : ∀ h' L' es' ep' t', Heap.SameBut a s.heap h' → SetN w h' a L' es' ep' t' → L'.Perm L1 → wpAny (model P w) A (pure (some true)) (fun r s₁ => wpAny (model P w) A (match r with | some added => pure added | none => setAddHashedIn a (.str y tk) (NestedKey.hash w (.text y)) 99999) Q E s₁) E { s with heap := h' } := fun h' L' es' ep' t' sb S pl =>
        wpAny_pure (wpAny_pure (q true h' L' es' ep' t' sb S (fun z => absurd z new) fun _ => pl.trans pm))
      have step : ∀ b : Bool, _ := fun b => finish (P := P) (A := A) (E := E) (full := !false && (if b = true then (t.put (way t.mask (NestedKey.hash w (.text y)) N)).1 else { (t.put (way t.mask (NestedKey.hash w (.text y)) N)).1 with plain := false }).tooFull)
        (c1 := (match relayAll (if b = true then (t.put (way t.mask (NestedKey.hash w (.text y)) N)).1 else { (t.put (way t.mask (NestedKey.hash w (.text y)) N)).1 with plain := false }) (SetTable.insertAt es (t.put (way t.mask (NestedKey.hash w (.text y)) N)).2 (NestedKey.hash w (.text y), .str y tk)) (SetTable.grown (SetTable.insertAt es (t.put (way t.mask (NestedKey.hash w (.text y)) N)).2 (NestedKey.hash w (.text y), .str y tk)).size) with
          | (es2, t2, gave) => (match gave with | true => rule "set.scan.the-table-gave-way" | false => pure ()) >>= fun _ => storeSet a es2 t2 >>= fun _ => pure (some true)))
        ho hex hd (H1.plain b) (by
          have : (if b = true then (t.put (way t.mask (NestedKey.hash w (.text y)) N)).1 else { (t.put (way t.mask (NestedKey.hash w (.text y)) N)).1 with plain := false }).mask = t.mask := by cases b <;> exact em
          rw [this, len1]
          exact room) (by omega) rfl done fun h1 o1 t' order ho1 hex1 hd1 _ rl sz2 ft pr lt64 _ nx => by
            have cov : coversAll order (SetTable.insertAt es (t.put (way t.mask (NestedKey.hash w (.text y)) N)).2 (NestedKey.hash w (.text y), .str y tk)).size = true := List.isPerm_iff.mpr pr
            unfold relayAll
            rw [rl]
            dsimp only
            rw [cov, sz2, ft, Bool.true_and, if_pos rfl]
            dsimp only
            refine wpAny_bind (wpAny_pure (wpAny_bind (wpAny_storeSet_of ho1 hd1 ?_ (by rw [sz2, sizeLine_eq]; omega))))
            exact nx _ _ (Heap.SameBut.update ..) ⟨_, store_at ho1 hd1, ⟨hex1.1, hex1.2.1, hex1.2.2⟩, rfl⟩
      split
      · rw [hashByValue_scannable 8 (show (Value.str y tk).scannable = true from rfl)]
        exact wpAny_bind (wpAny_pure (step _))
      · exact wpAny_bind (wpAny_pure (step true))
  · refine wp_if_neg sc ?_
    try refine wpAny_bind (wpAny_pure ?_)
    refine wpAny_bind (find_at R hx hu (fun hm => wpAny_pure (old hm)) fun N new free taken => ?_)
    dsimp only
    refine wpAny_bind (wpAny_setState_of ho hd R.fits ?_)
    dsimp only
    obtain ⟨L1, H1, pm, em⟩ := held_put R hx few new free taken
    have len1 : L1.length = L.length + 1 := pm.length_eq
    have hsz := R.size
    have sz1 := H1.size
    generalize t.put (way t.mask (k.hash w) N) = pt at H1 em sz1 ⊢
    obtain ⟨t1, p⟩ := pt
    dsimp only at H1 em sz1 ⊢
    generalize SetTable.insertAt es p (k.hash w, x) = es1 at H1 sz1 ⊢
    have done : ∀ h' L' es' ep' t', Heap.SameBut a s.heap h' → SetN w h' a L' es' ep' t' → L'.Perm L1 → wpAny (model P w) A (pure true) Q E { s with heap := h' } := fun h' L' es' ep' t' sb S pl =>
      wpAny_pure (q true h' L' es' ep' t' sb S (fun z => absurd z new) fun _ => pl.trans pm)
    have same : SetTable.grown (es.size + 1) = SetTable.grown es1.size := by rw [sz1, len1, hsz]
    have step : ∀ b : Bool, _ := fun b => finish (P := P) (A := A) (E := E) (full := !false && (if b = true then t1 else { t1 with plain := false }).tooFull) (c1 := setRelay a (SetTable.grown (es.size + 1)) >>= fun _ => pure true) ho hex hd (H1.plain b) (by
          have : (if b = true then t1 else { t1 with plain := false }).mask = t.mask := by cases b <;> exact em
          rw [this, len1]
          exact room) (by omega) rfl done fun h1 o1 t' order ho1 hex1 hd1 bd rl sz2 ft pr lt64 ft0 nx => by
            rw [same, setRelay_eq]
            refine wpAny_bind (wpAny_bind (wpAny_setState_of ho1 hd1 ft0 ?_))
            dsimp only
            refine wp_if_neg (by rw [sizeLine_eq]; omega) ?_
            try refine wpAny_bind (wpAny_pure ?_)
            rw [rl]
            dsimp only
            refine wpAny_bind ?_
            refine wp_if_neg (by rw [sz2]; simp) ?_
            try refine wpAny_bind (wpAny_pure ?_)
            refine wpAny_pure ?_
            dsimp only
            refine wpAny_storeSet_of ho1 hd1 ?_ (by rw [sz2, sizeLine_eq]; omega)
            exact nx _ _ (Heap.SameBut.update ..) ⟨_, store_at ho1 hd1, ⟨hex1.1, hex1.2.1, hex1.2.2⟩, rfl⟩
    split
    · exact wpAny_bind (hashBy_key k x 8 s hx.1 d8 _ _ _ fun b => step b)
    · exact wpAny_bind (wpAny_pure (step true))
end
end Moot
namespace Moot
open PySem PySem.Spec PyProof.Rows L2
/-- what the set has of the first i things -/
structure GotN (ks : List Mb) (i : Nat) (L : List Mb) : Prop where
  sub : ∀ p ∈ L, p ∈ ks.take i
  all : ∀ p ∈ ks.take i, p.1 ∈ L.map (·.1)
  len : L.length ≤ i
theorem GotN.zero (ks : List Mb) : GotN ks 0 [] := ⟨fun p h => (nomatch h), fun p h => (by simp at h), Nat.le_refl _⟩
theorem GotN.same {ks L : List Mb} {i : Nat} {x : Mb} (g : GotN ks i L) (h : ks[i]? = some x) (hm : x.1 ∈ L.map (·.1)) : GotN ks (i + 1) L := by
  have e : ks.take (i + 1) = ks.take i ++ [x] := by rw [List.take_add_one, h]; rfl
  refine ⟨fun p hp => ?_, fun p hp => ?_, Nat.le_succ_of_le g.len⟩
  · rw [e]
    exact List.mem_append_left _ (g.sub p hp)
  · rw [e] at hp
    rcases List.mem_append.mp hp with z | z
    · exact g.all p z
    · rw [List.mem_singleton.mp z]
      exact hm
theorem GotN.more {ks L L' : List Mb} {i : Nat} {x : Mb} (g : GotN ks i L) (h : ks[i]? = some x) (pm : L'.Perm (x :: L)) : GotN ks (i + 1) L' := by
  have e : ks.take (i + 1) = ks.take i ++ [x] := by rw [List.take_add_one, h]; rfl
  refine ⟨fun p hp => ?_, fun p hp => ?_, ?_⟩
  · rw [e]
    rcases List.mem_cons.mp (pm.mem_iff.mp hp) with z | z
    · rw [z]; exact List.mem_append_right _ (List.mem_singleton.mpr rfl)
    · exact List.mem_append_left _ (g.sub p z)
  · rw [(pm.map (·.1)).mem_iff, List.map_cons]
    rw [e] at hp
    rcases List.mem_append.mp hp with z | z
    · exact List.mem_cons_of_mem _ (g.all p z)
    · rw [List.mem_singleton.mp z]; exact List.mem_cons_self
  · rw [pm.length_eq, List.length_cons]
    exact Nat.succ_le_succ g.len
section
variable {P : Program} {w : World} {A : Around} {E : Value → Shared → Prop} {s : Shared}
theorem SetN.kept {h h' : Heap} {a : Addr} {L : List Mb} {es : Array (Int × Value)} {ep : Nat} {t : SetTable} (R : SetN w h a L es ep t) (ha : ∀ o, h.get? a = some o → h'.get? a = some o) (hm : ∀ p ∈ L, KIs h' p.1 p.2) : SetN w h' a L es ep t := by
  obtain ⟨o, ho, r⟩ := R.ob
  exact ⟨⟨o, ha o ho, r⟩, R.rows, R.tab, R.nd, hm, R.led, R.room, R.few⟩
theorem setN_new (h : Heap) : SetN w (h.push (setNew w)) h.objs.size [] #[] 0 (.fresh 0 0 (!w.params.followText "set-order")) where
  ob := ⟨_, Heap.get?_push_size _ rfl, ⟨rfl, rfl, rfl⟩, rfl⟩
  rows := rfl
  tab := ⟨List.Pairwise.nil, rfl, rfl, .inl rfl, fun x hx => (by cases hx), fun i h j hi => (by simp at hi)⟩
  nd := List.nodup_nil
  mem := fun p hp => (by cases hp)
  led := by
    show _ ∨ (!w.params.followText "set-order") = true
    cases w.params.followText "set-order" <;> simp
  room := by show 0 * 5 < 7 * 3; decide
  few := by show 0 < 64; decide
theorem fill_N {I : Addr} {fp wr : List Addr} {G : Array GenState → Array GenState → Prop} {n : Nat} {Pv : Nat → Value → Prop} {St : Nat → Shared → Prop} {R : Result → Shared → Prop}
    (W : WalksS P w A.in1 I fp wr G n Pv St) {S : Addr} (out : S ∉ fp) (ks : List Mb) (len : ks.length = n) (few : n < 63) (val : ∀ i v, Pv i v → ∃ p, ks[i]? = some p ∧ v = p.2)
    (h0 : Heap) (hk : ∀ p ∈ ks, KIs h0 p.1 p.2) (hS0 : h0.get? S = none) (hw0 : ∀ b ∈ wr, h0.get? b = none) (hu : A.in1.units + 8 < cLine) :
    ∀ (left i : Nat) (s : Shared), i + left = n → St i s → (∀ b o, h0.get? b = some o → s.heap.get? b = some o) → (∃ L es ep t, SetN w s.heap S L es ep t ∧ GotN ks i L) →
      (∀ s' L es ep t, Moved (S :: wr) G s s' → SetN w s'.heap S L es ep t → GotN ks n L → R (.ok (.ret .none)) s') → codeAny (model P w) A (.builtin "set.update.loop" ⟨[.ref S, .ref I], []⟩) R s := by
  have outw : S ∉ wr := fun h => out (W.sub _ h)
  have wider : ∀ b ∈ wr, b ∈ S :: wr := fun b hb => List.mem_cons_of_mem _ hb
  have keepM : ∀ {s s' : Shared}, Moved wr G s s' → (∀ b o, h0.get? b = some o → s.heap.get? b = some o) → ∀ b o, h0.get? b = some o → s'.heap.get? b = some o := fun hm kp b o e =>
    hm.heap b o (fun hb => by rw [hw0 b hb] at e; cases e) (kp b o e)
  intro left
  induction left with
  | zero =>
    intro i s e st kp ⟨L, es, ep, t, hS, g⟩ r
    obtain rfl : i = n := e
    apply codeAny_builtin PyProof.Rows.F.entry_set_update_loop
    rw [Around.under_plainId PyProof.Rows.F.plain_set_update_loop _]
    show wpAny _ A.in1 (pyNext (.ref I) >>= _) _ _ s
    apply wpAny_bind
    refine W.done s _ _ st fun s' mv => wpAny_pure ?_
    have kp' := keepM mv kp
    exact r s' L es ep t (mv.mono wider) (hS.kept (fun o => mv.heap S o outw) fun p hp => kis_keep kp' (hk p (List.mem_of_mem_take (g.sub p hp)))) g
  | succ left ih =>
    intro i s e st kp ⟨L, es, ep, t, hS, g⟩ r
    have lt : i < n := by omega
    apply codeAny_builtin PyProof.Rows.F.entry_set_update_loop
    rw [Around.under_plainId PyProof.Rows.F.plain_set_update_loop _]
    show wpAny _ A.in1 (pyNext (.ref I) >>= _) _ _ s
    apply wpAny_bind
    refine W.item i s _ _ lt st fun v s' pv st' mv => ?_
    obtain ⟨p, hp, rfl⟩ := val i v pv
    have kp' := keepM mv kp
    have hS' : SetN w s'.heap S L es ep t := hS.kept (fun o => mv.heap S o outw) fun p hp => kis_keep kp' (hk p (List.mem_of_mem_take (g.sub p hp)))
    have hx : KIs s'.heap p.1 p.2 := kis_keep kp' (hk p (List.mem_of_getElem? hp))
    show wpAny _ A.in1 (holding [p.2] (setAdd S p.2) >>= _) _ _ s'
    apply wpAny_bind
    apply wpAny_holding
    unfold setAdd
    apply wpAny_holding
    apply wpAny_bind
    refine pyHash_key p.1 p.2 A.in1 s' _ hx.1 (by have := hx.2.1; omega) ?_
    refine add_N (s := { s' with toks := s'.toks + p.1.draws }) hS' hx hu (by have := g.len; omega) fun b h' L' es' ep' t' sb S2 c1 c2 => ?_
    have g' : GotN ks (i + 1) L' := by
      rcases Classical.em (p.1 ∈ L.map (·.1)) with c | c
      · rw [c1 c]; exact g.same hp c
      · exact g.more hp (c2 c)
    have kp2 : ∀ b o, h0.get? b = some o → h'.get? b = some o := fun b o e => (sb.2 b (fun z => by rw [z, hS0] at e; cases e)).trans (kp' b o e)
    refine wpAny_pure ⟨plainId_quiet PyProof.Rows.F.plain_set_update_loop _, ?_⟩
    refine ih (i + 1) _ (by omega) (W.frame _ s' _ _ st' (Nat.le_add_right _ _) fun b hb o e => ?_) kp2 ⟨L', es', ep', t', S2, g'⟩ fun s'' L2 es2 ep2 t2 mv' S3 g3 => ?_
    · rw [sb.2 b fun c => out (c ▸ hb)]
      exact e
    · refine r s'' L2 es2 ep2 t2 (Moved.trans W.gtrans ((mv.mono wider).then_heap (Nat.le_add_right _ _) fun b o nb e => ?_) mv') S3 g3
      rw [sb.2 b fun c => nb (c ▸ List.mem_cons_self)]
      exact e
/-- set.__init__ of the new set, over a tuple of mixed things -/
theorem init_mixed {l : Addr} {vs : List Value} {ks : List Mb} (calm : A.handled = none) (hl : s.heap.IsTuple l vs.toArray) (ek : ks.map (·.2) = vs) (few : vs.length < 63) (hk : ∀ p ∈ ks, KIs s.heap p.1 p.2) (hu : A.units + 10 < cLine) {Q : Shared → Prop}
    (q : ∀ s' h' tk L es ep t, s' = { s with heap := h', toks := tk } → SetN w h' s.heap.objs.size L es ep t → GotN ks ks.length L → (∀ b o, s.heap.get? b = some o → h'.get? b = some o) → Q s') :
    codeAny (model P w) A (.call (.builtin "set.__init__") ⟨[.ref s.heap.objs.size, .ref l], []⟩) (wants (fun r s' => r = .none ∧ Q s') E) { s with heap := s.heap.push (setNew w) } := by
  have at0 : (s.heap.push (setNew w)).get? s.heap.objs.size = some (setNew w) := Heap.get?_push_size _ rfl
  have ty : Shared.TypeIs { s with heap := s.heap.push (setNew w) } (.ref s.heap.objs.size) "set" := ⟨_, at0, rfl⟩
  refine codeAny_call_builtin PySem.F.called_set.init.plain PySem.F.entry_set_init (check_set_init_1 ty ?_)
  have hl1 : (s.heap.push (setNew w)).IsTuple l vs.toArray := hl.push _
  have hlo := hl1
  obtain ⟨⟨oc, od, oda, osl⟩, ol, hc, nl, hda⟩ := hlo
  dsimp only at hc hda
  subst hc hda
  have n1 := PySem.F.sub_tuple_set
  have n2 := PySem.F.sub_tuple_frozenset
  have n3 : (Value.type "tuple" == Value.type "dict") = false := by decide
  unfold Builtin.«set.__init__» noKeywords Builtin.Frozenset.updateFrom
  generalize it : pyIter = iter
  wp_walk
  subst it
  apply wpAny_pyIter_tuple hl1
  apply wpAny_bind
  apply wpAny_runValue
  have size1 : (s.heap.push (setNew w)).objs.size = s.heap.objs.size + 1 := size_push' _ _
  have low : l < s.heap.objs.size := by
    obtain ⟨o, ho, _⟩ := hl
    exact Heap.lt_size ho
  have calm2 : A.in1.in1.handled = none := calm
  have ne : l ≠ (s.heap.push (setNew w)).objs.size := by
    rw [size1]
    exact Nat.ne_of_lt (Nat.lt_succ_of_lt low)
  have out : s.heap.objs.size ∉ [(s.heap.push (setNew w)).objs.size, l] := by
    rw [size1]
    intro m
    rcases List.mem_cons.mp m with c | c
    · exact Nat.ne_of_lt (Nat.lt_succ_self _) c
    · exact Nat.ne_of_gt low (List.mem_singleton.mp c)
  have walk := (Walks.tuple (prog := P) (w := w) calm2 _ l ne vs.toArray).toS
  have lenk : ks.length = vs.length := by rw [← ek, List.length_map]
  refine fill_N walk out ks (by rw [lenk]; simp) (by simpa using few) (fun i v h => ?_) s.heap hk (Heap.get?_none_of_le (Nat.le_refl _)) (fun b hb => ?_) (show A.units + 1 + 1 + 8 < cLine by omega) vs.toArray.size 0 _ (by simp) ?_ (fun b o e => Heap.get?_push_of_some _ (Heap.get?_push_of_some _ e)) ⟨[], #[], 0, _, (setN_new s.heap).kept (fun o => Heap.get?_push_of_some _) (fun p hp => by cases hp), GotN.zero ks⟩ fun s' L es ep t mv S g => ?_
  · have h : vs[i]? = some v := by simpa using h
    rw [← ek, List.getElem?_map] at h
    obtain ⟨p, hp, rfl⟩ := Option.map_eq_some_iff.mp h
    exact ⟨p, hp, rfl⟩
  · have e : b = (s.heap.push (setNew w)).objs.size := by simpa using hb
    rw [e, size1]
    exact Heap.get?_none_of_le (Nat.le_succ _)
  · exact ⟨⟨_, Heap.get?_push_size _ rfl, rfl, rfl⟩, hl1.push _⟩
  · apply wpAny_pure
    have gk : GotN ks ks.length L := by
      have e : ks.length = vs.toArray.size := by rw [lenk]; simp
      rw [e]
      exact g
    refine wpAny_pure ⟨rfl, q s' s'.heap s'.toks L es ep t ?_ S gk fun b o e => ?_⟩
    · rcases s' with ⟨h', g', d', t', o'⟩
      obtain rfl : g' = s.gens := mv.gens
      obtain rfl : d' = s.drawn := mv.drawn
      obtain rfl : o' = s.os := mv.os
      rfl
    · have lt := Heap.lt_size e
      refine mv.heap b o (fun c => ?_) (Heap.get?_push_of_some _ (Heap.get?_push_of_some _ e))
      rcases List.mem_cons.mp c with c | c
      · exact Nat.ne_of_lt lt c
      · refine Nat.ne_of_lt (Nat.lt_succ_of_lt lt) (Eq.trans (List.mem_singleton.mp c) size1)
/-- set(xs) of a tuple of mixed things -/
theorem set_mixed {l : Addr} {vs : List Value} {ks : List Mb} (calm : A.handled = none) (hl : s.heap.IsTuple l vs.toArray) (ek : ks.map (·.2) = vs) (few : vs.length < 63) (hk : ∀ p ∈ ks, KIs s.heap p.1 p.2) (hu : A.units + 12 < cLine) {Q : Value → Shared → Prop}
    (q : ∀ s' h' tk L es ep t, s' = { s with heap := h', toks := tk } → SetN w h' s.heap.objs.size L es ep t → GotN ks ks.length L → (∀ b o, s.heap.get? b = some o → h'.get? b = some o) → Q (.ref s.heap.objs.size) s') :
    wpAny (model P w) A (call (.type "set") [.ref l]) Q E s := by
  obtain ⟨c, tl, mro⟩ := PySem.F.called_set.mro
  have made := PySem.F.called_set.made
  have sub := PySem.F.called_set.sub
  have f1 := PySem.F.called_set.notType
  have f2 := PySem.F.called_set.canCreate
  have f3 := PySem.F.typeCall_set_1 (.ref l)
  apply wpAny_call
  apply codeAny_of_tree
  show wpAny _ _ (callAny (.type "set") _) _ _ _
  refine wpAny_pure ⟨Code.quiet_builtin _ (by decide +kernel), ?_⟩
  apply codeAny_builtin PySem.F.entry_type_call
  rw [Around.under_plain (weight_type_call_type "set" [.ref l] []) rfl]
  repeat (any_goals (first | assumption | wp_step))
  refine codeAny_mono (new_of (.ref l) (E := E) (Q := fun x s₁ => x = .ref s.heap.objs.size ∧ s₁ = { s with heap := s.heap.push (setNew w) }) ⟨rfl, rfl⟩) ?_
  rintro (e | f) s₁ h
  · exact h
  · cases f with
    | ret x =>
      obtain ⟨rfl, rfl⟩ := h
      have ty : Shared.TypeIs { s with heap := s.heap.push (setNew w) } (.ref s.heap.objs.size) "set" := ⟨_, Heap.get?_push_size _ rfl, rfl⟩
      have g1 := PySem.F.called_set.init.lookup
      have g2 := PySem.F.called_set.init.bind (.ref s.heap.objs.size)
      repeat (any_goals (first | assumption | wp_step))
      refine codeAny_mono (init_mixed (A := A.in1) (E := E) (Q := fun s' => Q (.ref s.heap.objs.size) s') calm hl ek few hk (show A.units + 1 + 10 < cLine by omega) q) ?_
      rintro (e | f) s₂ h
      · exact h
      · cases f with
        | ret r =>
          obtain ⟨rfl, F⟩ := h
          exact wpAny_pure (wpAny_pure F)
        | _ => exact h.elim
    | _ => exact h.elim
end
end Moot
/-! Requirements in the heap, the tuple of their parts known so that its texts bear tokens. -/
namespace Moot
open PySem PySem.Spec PyProof.Rows L2
/-- a part: a name, or a count of names -/
abbrev Part := Str ⊕ (Int × List Str)
def PartAt (H : Hp) (v : V) : Part → Prop
  | .inl x => v = .str x
  | .inr (c, ns) => ∃ q p, v = .ref q ∧ H q = some (.tup [.int c, .ref p]) ∧ H p = some (.tup (ns.map V.str))
inductive Parts (H : Hp) : List V → List Part → Prop
  | nil : Parts H [] []
  | cons {v : V} {vs : List V} {p : Part} {ps : List Part} : PartAt H v p → Parts H vs ps → Parts H (v :: vs) (p :: ps)
/-- the tuple of the parts: known, or of texts alone -/
def PTup (H : Hp) (p : Addr) (vs : List V) : Prop := GTp H p vs ∨ (H p = some (.tup vs) ∧ ∃ ns : List Str, vs = ns.map V.str)
theorem PTup.seq {K : PySem.W.Frag} {H : Hp} {p : Addr} {vs : List V} (h : PTup H p vs) : SqT K H p vs := by
  rcases h with h | ⟨h, _⟩
  · exact h.seq
  · exact SqT.of h
def ReqAt (H : Hp) (r : Addr) (c : Int) (ps : List Part) : Prop := ∃ p vs, H r = some (.tup [.int c, .ref p]) ∧ PTup H p vs ∧ Parts H vs ps
/-- what never changes stays -/
structure Tups (H H' : Hp) : Prop where
  tup : ∀ a xs, H a = some (.tup xs) → H' a = some (.tup xs)
  frz : ∀ a o u, H a = some (.frz o u) → H' a = some (.frz o u)
theorem Same.tups {H H' : Hp} (s : Same H H') : Tups H H' := ⟨fun a _ h => s a _ h, fun a _ _ h => s a _ h⟩
theorem Tups.refl (H : Hp) : Tups H H := ⟨fun _ _ h => h, fun _ _ _ h => h⟩
theorem Tups.trans {H H1 H2 : Hp} (a : Tups H H1) (b : Tups H1 H2) : Tups H H2 := ⟨fun c xs h => b.tup c xs (a.tup c xs h), fun c o u h => b.frz c o u (a.frz c o u h)⟩
theorem tups_store {H : Hp} {p : Addr} {xs ys : List V} (h : H p = some (.lst xs)) : Tups H (upd H p (.lst ys)) :=
  ⟨fun a zs e => by rw [upd_ne (fun c => by rw [c, h] at e; cases e)]; exact e, fun a o u e => by rw [upd_ne (fun c => by rw [c, h] at e; cases e)]; exact e⟩
theorem PartAt.tups {H H' : Hp} {v : V} {p : Part} (h : PartAt H v p) (t : ∀ a xs, H a = some (.tup xs) → H' a = some (.tup xs)) : PartAt H' v p := by
  cases p with
  | inl x => exact h
  | inr y =>
    obtain ⟨c, ns⟩ := y
    obtain ⟨q, p, e, h1, h2⟩ := h
    exact ⟨q, p, e, t _ _ h1, t _ _ h2⟩
theorem Parts.tups {H H' : Hp} {vs : List V} {ps : List Part} (h : Parts H vs ps) (t : ∀ a xs, H a = some (.tup xs) → H' a = some (.tup xs)) : Parts H' vs ps := by
  induction h with
  | nil => exact .nil
  | cons a _ ih => exact .cons (a.tups t) ih
theorem PTup.tups {H H' : Hp} {p : Addr} {vs : List V} (h : PTup H p vs) (t : Tups H H') : PTup H' p vs := by
  rcases h with ⟨o, g, e⟩ | ⟨e, n⟩
  · exact .inl ⟨o, g, t.frz _ _ _ e⟩
  · exact .inr ⟨t.tup _ _ e, n⟩
theorem ReqAt.tups {H H' : Hp} {r : Addr} {c : Int} {ps : List Part} (h : ReqAt H r c ps) (t : Tups H H') : ReqAt H' r c ps := by
  obtain ⟨p, vs, h1, h2, h3⟩ := h
  exact ⟨p, vs, t.tup _ _ h1, h2.tups t, h3.tups t.tup⟩
theorem Parts.length {H : Hp} {vs : List V} {ps : List Part} (h : Parts H vs ps) : vs.length = ps.length := by
  induction h with
  | nil => rfl
  | cons _ _ ih => rw [List.length_cons, List.length_cons, ih]
theorem Parts.at {H : Hp} {vs : List V} {ps : List Part} (h : Parts H vs ps) : ∀ {i : Nat} {v : V}, vs[i]? = some v → ∃ p, ps[i]? = some p ∧ PartAt H v p := by
  induction h with
  | nil => intro i v e; simp at e
  | cons a _ ih =>
    intro i v e
    cases i with
    | zero =>
      cases Option.some.inj e
      exact ⟨_, rfl, a⟩
    | succ i => exact ih (i := i) e
theorem Parts.names {H : Hp} : ∀ ns : List Str, Parts H (ns.map V.str) (ns.map Sum.inl)
  | [] => .nil
  | _ :: ns => .cons rfl (Parts.names ns)
/-- an inner requirement is one -/
theorem PartAt.req {H : Hp} {v : V} {c : Int} {ns : List Str} (h : PartAt H v (.inr (c, ns))) : ∃ q, v = .ref q ∧ ReqAt H q c (ns.map Sum.inl) := by
  obtain ⟨q, p, e, h1, h2⟩ := h
  exact ⟨q, e, p, _, h1, .inr ⟨h2, ns, rfl⟩, Parts.names ns⟩
/-! parts as keys -/
def keyP : Part → NestedKey
  | .inl x => .text x
  | .inr (c, ns) => .tup [.num c, .tup (ns.map NestedKey.text)]
theorem texts_inj : ∀ {a b : List Str}, a.map NestedKey.text = b.map NestedKey.text → a = b
  | [], [], _ => rfl
  | [], _ :: _, h => by cases h
  | _ :: _, [], h => by cases h
  | x :: a, y :: b, h => by
    rw [List.map_cons, List.map_cons] at h
    injection h with h1 h2
    injection h1 with h1
    rw [h1, texts_inj h2]
theorem keyP_inj : ∀ {p q : Part}, keyP p = keyP q → p = q
  | .inl x, .inl y, h => by injection h with h; rw [h]
  | .inl x, .inr (c, ns), h => by cases h
  | .inr (c, ns), .inl y, h => by cases h
  | .inr (c, ns), .inr (d, ms), h => by
    injection h with h
    injection h with h1 h2
    injection h1 with h1
    injection h2 with h2 _
    injection h2 with h2
    rw [h1, texts_inj h2]
theorem depth_texts : ∀ ns : List Str, NestedKey.depthAll (ns.map NestedKey.text) = 0
  | [] => rfl
  | x :: ns => by
    rw [List.map_cons, NestedKey.depthAll, depth_texts ns]
    rfl
theorem depth_keyP (p : Part) : (keyP p).depth ≤ 7 := by
  cases p with
  | inl x => exact Nat.zero_le _
  | inr y =>
    obtain ⟨c, ns⟩ := y
    simp only [keyP, NestedKey.depth, NestedKey.depthAll, depth_texts]
    decide
theorem nested_texts {h : Heap} : ∀ {ns : List Str} {us : List Value}, Vals (ns.map V.str) us → NestedAll h (ns.map NestedKey.text) us
  | [], _, r => by cases r; exact .nil
  | x :: ns, _, r => by
    cases r with
    | cons a b =>
      obtain ⟨t, rfl⟩ := a
      exact .cons (.text x t) (nested_texts b)
section
variable {X : Cx} {pins : List (Addr × Obj)} {σ : L2.St} {H : Hp} {s : Shared}
theorem nested_part (I : Inv X pins σ H s) {v : V} {p : Part} {u : Value} (h : PartAt H v p) (r : RelV v u) : NestedIs s.heap (keyP p) u := by
  cases p with
  | inl x =>
    cases h
    obtain ⟨t, rfl⟩ := r
    exact .text x t
  | inr y =>
    obtain ⟨c, ns⟩ := y
    obtain ⟨q, p, rfl, h1, h2⟩ := h
    cases r
    obtain ⟨_, its, r1, o, ho, hc, n, hd⟩ := I.hok q _ h1
    obtain ⟨_, its2, r2, o2, ho2, hc2, n2, hd2⟩ := I.hok p _ h2
    obtain ⟨a, b, rfl, ra, rb⟩ := r1.two
    obtain ⟨t, rfl⟩ := ra
    cases rb
    exact .tup ho hc hd (.cons (.int c t) (.cons (.tup ho2 hc2 hd2 (by simpa using nested_texts r2)) .nil))
theorem kis_parts (I : Inv X pins σ H s) : ∀ {vs : List V} {ps : List Part} {us : List Value}, Parts H vs ps → Vals vs us → GdS us → ∃ ks : List Mb, ks.map (·.2) = us ∧ ks.map (·.1) = ps.map keyP ∧ ∀ k ∈ ks, KIs s.heap k.1 k.2
  | _, _, _, .nil, .nil, _ => ⟨[], rfl, rfl, fun k m => by cases m⟩
  | _, _, _, .cons (p := p) a b, .cons (b := u) r t, g => by
    obtain ⟨ks, e1, e2, e3⟩ := kis_parts I b t fun u m => g u (List.mem_cons_of_mem _ m)
    refine ⟨(keyP p, u) :: ks, by rw [List.map_cons, e1], by rw [List.map_cons, List.map_cons, e2], fun k m => ?_⟩
    rcases List.mem_cons.mp m with rfl | m
    · refine ⟨nested_part I a r, depth_keyP p, ?_⟩
      cases p with
      | inl x =>
        cases a
        obtain ⟨tk, rfl⟩ := r
        exact .inl ⟨x, tk, rfl, g _ List.mem_cons_self⟩
      | inr y =>
        obtain ⟨c, ns⟩ := y
        obtain ⟨q, _, rfl, _⟩ := a
        cases r
        exact .inr ⟨q, rfl⟩
    · exact e3 k m
end
/-- more distinct things than a list has places -/
theorem pigeon {α : Type} [DecidableEq α] : ∀ (l D : List α), l.Nodup → (∀ y ∈ l, y ∈ D) → l.length ≤ D.length
  | [], _, _, _ => Nat.zero_le _
  | y :: l, D, n, s => by
    obtain ⟨n1, n2⟩ := List.nodup_cons.mp n
    have my := s y List.mem_cons_self
    have := pigeon l (D.erase y) n2 fun z mz => (List.mem_erase_of_ne fun (e : z = y) => n1 (e ▸ mz)).mpr (s z (List.mem_cons_of_mem _ mz))
    have e := List.length_erase_of_mem my
    have := List.length_pos_of_mem my
    rw [List.length_cons]
    omega
theorem dup_split {α : Type} [DecidableEq α] : ∀ {D : List α}, ¬ D.Nodup → ∃ x, x ∈ D ∧ x ∈ D.erase x
  | [], h => absurd List.nodup_nil h
  | y :: D, h => by
    by_cases m : y ∈ D
    · exact ⟨y, List.mem_cons_self, by rw [List.erase_cons_head]; exact m⟩
    · obtain ⟨x, a, b⟩ := dup_split (D := D) fun n => h (List.nodup_cons.mpr ⟨m, n⟩)
      have ne : y ≠ x := fun e => m (e ▸ a)
      refine ⟨x, List.mem_cons_of_mem _ a, ?_⟩
      rw [List.erase_cons_tail (by simpa using ne)]
      exact List.mem_cons_of_mem _ b
/-- a set holds no more than there are -/
theorem Stands.most {P : Program} {w : World} {T : Type} [DecidableEq T] {knd : KeyKind P w T} {h : Heap} {a : Addr} {S : T → Bool} {n : Nat} (R : Stands knd h a S n) {xs : List T} (all : ∀ k, S k = true → k ∈ xs) : n ≤ xs.length := by
  obtain ⟨o, es, ep, t, _, _, _, rfl, L⟩ := R
  have pig : ∀ (D : List (Int × Value)) (X : List T), D.Pairwise (fun e f => ∀ k, knd.is k e.2 = true → knd.is k f.2 = true → False) → (∀ e ∈ D, ∃ k, knd.is k e.2 = true ∧ k ∈ X) → D.length ≤ X.length := by
    intro D
    induction D with
    | nil => intros; exact Nat.zero_le _
    | cons e D ih =>
      intro X pw hD
      obtain ⟨p1, p2⟩ := List.pairwise_cons.mp pw
      obtain ⟨k, ik, mk⟩ := hD e List.mem_cons_self
      have := ih (X.erase k) p2 fun f mf => by
        obtain ⟨j, ij, mj⟩ := hD f (List.mem_cons_of_mem _ mf)
        refine ⟨j, ij, (List.mem_erase_of_ne fun z => ?_).mpr mj⟩
        rw [z] at ij
        exact p1 f mf k ik ij
      have e1 := List.length_erase_of_mem mk
      have := List.length_pos_of_mem mk
      rw [List.length_cons]
      omega
  have := pig es.toList xs L.one fun e me => by
    obtain ⟨⟨k, ik, _⟩, _⟩ := L.el e me
    exact ⟨k, ik, all k ((L.mem k).mpr ⟨e, me, ik⟩)⟩
  simpa using this
section
variable {X : Cx}
/-- len(S), S a set of texts: neither less nor more -/
theorem cr_txtLen2 : CallR X (.builtin "len") (fun vs H Q => ∃ (a : Addr) (S : Str → Bool) (n : Nat), vs = [V.ref a] ∧ H a = some (TxtSet X.prog X.w a S n) ∧ n < 1000 ∧ ((∀ xs : List Str, (∀ k, S k = true → k ∈ xs) → n ≤ xs.length) → Q (.int (n : Int)) H)) := by
  intro pins s σ H vs us Q I r h
  obtain ⟨a, S, n, rfl, ha, few, q⟩ := h
  have R : Stands (PySem.strKind X.prog X.w) s.heap a S n := (I.hok a _ ha).1
  have le := fun xs all => R.most (xs := xs) all
  rw [Vals.ref1 r]
  obtain ⟨o, es, ep, t, ho, hex, hd, rfl, L⟩ := R
  exact call_len_set ho hex hd L.fit (by omega) ⟨.int _, H, I.tok _, ⟨_, rfl⟩, q le⟩
end
/-- a set of mixed things, by its size -/
def NSet (a : Addr) (n : Nat) : HO := .ext fun h => ∃ o es ep t, h.get? a = some o ∧ o.ExactSet ∧ o.data = .set es ep t ∧ es.size = n ∧ t.fits es.size = true
theorem nset_ok {P : Program} {w : World} {H : Hp} {h : Heap} {a : Addr} {n : Nat} (R : ∃ o es ep t, h.get? a = some o ∧ o.ExactSet ∧ o.data = .set es ep t ∧ es.size = n ∧ t.fits es.size = true) : ObjOk P w H h a (NSet a n) := by
  refine ⟨R, let ⟨o, _, _, _, e, _⟩ := R; ⟨o, e⟩, ?_⟩
  rintro h1 h2 ⟨o, es, ep, t, e, r⟩ k
  exact ⟨o, es, ep, t, k o e, r⟩
section
variable {X : Cx}
/-- set(parts), the tuple's texts bearing tokens -/
def rMixSet : List V → Hp → VK → Prop := fun vs H Q => ∃ (p : Addr) (xs : List V) (ps : List Part), vs = [.ref p] ∧ GTp H p xs ∧ Parts H xs ps ∧ ps.length < 63 ∧ ∀ a n, H a = none → n ≤ ps.length → (ps.Nodup → n = ps.length) → (¬ ps.Nodup → n < ps.length) → Q (.ref a) (upd H a (NSet a n))
theorem cr_mixSet (calm : X.calm = true) (hu : X.A.units + 12 < cLine) : CallR X (.type "set") rMixSet := by
  intro pins s σ H vs us Q I r h
  obtain ⟨p, xs, ps, rfl, ⟨o, ⟨its, n0, hc, hd, rv, gd⟩, hH⟩, PS, few, q⟩ := h
  obtain ⟨u, rfl, rx⟩ := vals1 r
  cases rx
  obtain ⟨get, _⟩ := I.hok p _ hH
  obtain ⟨ks, e1, e2, e3⟩ := kis_parts I PS rv gd
  have lens : its.length = ps.length := by rw [← rv.length, PS.length]
  refine set_mixed (ks := ks) (I.ok.hd calm) ⟨o, get, hc, n0, hd⟩ e1 (by rw [lens]; exact few) e3 hu fun s' h' tk L es ep t es' S g kept => ?_
  subst es'
  have lk : ks.length = ps.length := by
    have := congrArg List.length e2
    rwa [List.length_map, List.length_map] at this
  have subs : ∀ y ∈ L.map (·.1), y ∈ ps.map keyP := fun y my => by
    obtain ⟨m, hm, rfl⟩ := List.mem_map.mp my
    rw [← e2]
    exact List.mem_map_of_mem (List.mem_of_mem_take (g.sub m hm))
  have alls : ∀ y ∈ ps.map keyP, y ∈ L.map (·.1) := fun y my => by
    rw [← e2] at my
    obtain ⟨m, hm, rfl⟩ := List.mem_map.mp my
    exact g.all m (by rw [List.take_length]; exact hm)
  have nd : ps.Nodup ↔ (ps.map keyP).Nodup := by
    constructor
    · intro n
      exact List.Pairwise.map _ (fun a b ne e => ne (keyP_inj e)) n
    · intro n
      exact List.Pairwise.of_map keyP (fun a b ne e => ne (congrArg keyP e)) n
  have le : L.length ≤ ps.length := by
    have := pigeon _ _ S.nd subs
    rwa [List.length_map, List.length_map] at this
  obtain ⟨ob, hob, hex, hdat⟩ := S.ob
  refine ⟨.ref s.heap.objs.size, _, I.laid (t' := tk) kept (Nat.le_refl _) (nset_ok (n := L.length) ⟨ob, es, ep, t, hob, hex, hdat, S.size, S.fits⟩), rfl, q _ L.length (I.hok.fresh (Nat.le_refl _)) le (fun n => ?_) fun n => ?_⟩
  · have := pigeon _ _ (nd.mp n) alls
    rw [List.length_map, List.length_map] at this
    omega
  · obtain ⟨x, m1, m2⟩ := dup_split (D := ps.map keyP) fun z => n (nd.mpr z)
    have := pigeon _ ((ps.map keyP).erase x) S.nd fun y my => by
      by_cases e : y = x
      · rw [e]; exact m2
      · exact (List.mem_erase_of_ne e).mpr (subs y my)
    rw [List.length_erase_of_mem m1, List.length_map, List.length_map] at this
    have := List.length_pos_of_mem m1
    rw [List.length_map] at this
    omega
theorem cr_mixLen : CallR X (.builtin "len") (fun vs H Q => ∃ (a : Addr) (n : Nat), vs = [.ref a] ∧ H a = some (NSet a n) ∧ n < 1000 ∧ Q (.int (n : Int)) H) := by
  intro pins s σ H vs us Q I r h
  obtain ⟨a, n, rfl, ha, few, q⟩ := h
  obtain ⟨⟨o, es, ep, t, ho, hex, hd, rfl, fit⟩, _⟩ := I.hok a _ ha
  rw [Vals.ref1 r]
  exact call_len_set ho hex hd fit (by omega) ⟨.int _, H, I.tok _, ⟨_, rfl⟩, q⟩
end
end Moot
namespace Moot
open PySem PySem.Spec PyProof.Rows L2
def top (i : Nat) : Stmt := PySem.Challenge.pw_oathmoot_k07_networks_refused.main.body.getD i (.Pass ⟨0, 0, 0, 0⟩)
/-! the box of drawn numbers -/
structure Box (H : Hp) (b g m : Addr) (n : Nat) : Prop where
  ex : ∃ (x k : Int) (gs ms : List Int), H b = some (.lst [.ref g, .int x, .ref m, .int k]) ∧ H g = some (.lst (gs.map V.int)) ∧ H m = some (.lst (ms.map V.int)) ∧ 0 ≤ k ∧ k ≤ n ∧ gs.length ≤ 63 ∧ ms.length ≤ 63
  bg : b ≠ g
  bm : b ≠ m
  gm : g ≠ m
/-- all but the box's own cells stays -/
def Keep (b g : Addr) (H H' : Hp) : Prop := ∀ c o, H c = some o → c ≠ b → c ≠ g → H' c = some o
theorem same_new {H : Hp} {p : Addr} {o : HO} (h : H p = none) : Same H (upd H p o) := fun b x e => by
  rw [upd_ne (ne_of_none e h)]
  exact e
theorem Keep.refl (b g : Addr) (H : Hp) : Keep b g H H := fun _ _ e _ _ => e
theorem Keep.trans {b g : Addr} {H H1 H2 : Hp} (k : Keep b g H H1) (l : Keep b g H1 H2) : Keep b g H H2 := fun c o e n1 n2 => l c o (k c o e n1 n2) n1 n2
theorem Same.keep {b g : Addr} {H H' : Hp} (s : Same H H') : Keep b g H H' := fun c o e _ _ => s c o e
theorem Box.same {H H' : Hp} {b g m : Addr} {n : Nat} (B : Box H b g m n) (s : Same H H') : Box H' b g m n := by
  obtain ⟨⟨x, k, gs, ms, h1, h2, h3, r⟩, n1, n2, n3⟩ := B
  exact ⟨⟨x, k, gs, ms, s _ _ h1, s _ _ h2, s _ _ h3, r⟩, n1, n2, n3⟩
theorem Box.more {H : Hp} {b g m : Addr} {n n' : Nat} (B : Box H b g m n) (h : n ≤ n') : Box H b g m n' := by
  obtain ⟨⟨x, k, gs, ms, h1, h2, h3, h4, h5, r⟩, n1, n2, n3⟩ := B
  exact ⟨⟨x, k, gs, ms, h1, h2, h3, h4, by omega, r⟩, n1, n2, n3⟩
/-- a store elsewhere -/
theorem Box.store {H : Hp} {b g m p : Addr} {n : Nat} {o : HO} (B : Box H b g m n) (p1 : p ≠ b) (p2 : p ≠ g) (p3 : p ≠ m) : Box (upd H p o) b g m n := by
  obtain ⟨⟨x, k, gs, ms, h1, h2, h3, r⟩, n1, n2, n3⟩ := B
  exact ⟨⟨x, k, gs, ms, by rw [upd_ne p1.symm]; exact h1, by rw [upd_ne p2.symm]; exact h2, by rw [upd_ne p3.symm]; exact h3, r⟩, n1, n2, n3⟩
theorem Box.b_in {H : Hp} {b g m : Addr} {n : Nat} (B : Box H b g m n) : ∃ o, H b = some o := let ⟨_, _, _, _, h, _⟩ := B.ex; ⟨_, h⟩
theorem Box.g_in {H : Hp} {b g m : Addr} {n : Nat} (B : Box H b g m n) : ∃ o, H g = some o := let ⟨_, _, _, _, _, h, _⟩ := B.ex; ⟨_, h⟩
theorem Box.m_in {H : Hp} {b g m : Addr} {n : Nat} (B : Box H b g m n) : ∃ o, H m = some o := let ⟨_, _, _, _, _, _, h, _⟩ := B.ex; ⟨_, h⟩
/-- an int at a place in bounds -/
theorem int_at (l : List Int) {i : Int} (h0 : 0 ≤ i) (h1 : i < l.length) : ∃ z : Int, atI (l.map V.int) i = some (.int z) := by
  obtain ⟨j, rfl⟩ := Int.eq_ofNat_of_zero_le h0
  have lt : j < l.length := by omega
  exact ⟨l[j], atI_nat (by rw [List.getElem?_map, List.getElem?_eq_getElem lt]; rfl)⟩
section
variable {P : Program} {w : World} {K : PySem.W.Frag} {mg : Str → Option Value} {base : Heap}
/-! _law_box -/
abbrev sBox : Stmt := top 27
abbrev nBox : List Str := ["_law_script", "_law_great", "_law_cell"]
theorem scBox : FnScope nBox ["_law_script"] (defScope sBox) := ⟨rfl, rfl, rfl, by decide +kernel, rfl, by decide +kernel, by decide +kernel⟩
def spBox (K : PySem.W.Frag) : Sp := fun vs H Q _ => ∃ (a : Addr) (ns : List Int), vs = [.ref a] ∧ SqL K H a (ns.map V.int) ∧ ns.length ≤ 63 ∧
  ∀ H' b g m, Same H H' → Box H' b g m 0 → Q (.ref b) H'
/-- some ints, no more than there were -/
def Ints (H : Hp) (p : Addr) (n : Nat) : Prop := ∃ ns : List Int, H p = some (.lst (ns.map V.int)) ∧ ns.length ≤ n
theorem ok_box {f : Addr} {fd : FuncData} {k : Nat} (F : Fun K "_law_box" "_law_box" sBox f fd) : FnOk P w K mg base CX0 (k + 1) f fd ["_law_script"] (spBox K) := by
  refine F.ok scBox (fun vs H Q E h => ?_) (fun cdv A outer s H vs Q E hr h => ?_)
  · obtain ⟨a, ns, rfl, _⟩ := h
    rfl
  · obtain ⟨a, ns, rfl, hS, len, q⟩ := h
    refine ⟨_, pss_cons (ps_setLc (i := 1) (own := [("_law_cell", 2)]) (g := gName 2) (by rfl) scBox.nd rfl rfl (sw_true rfl rfl rfl (by decide +kernel)) (pi_list (pv 0)) (blkOk_by (N := nBox) (sc := defScope sBox) (by decide +kernel))
        (fun _ _ _ _ _ => pg_name (i := 2) scBox.nd rfl (Or.inl rfl)) (fun _ _ _ _ _ => pts_one (pt_cmpR op_ge (pv 2) (pe_op op_pow pe_int pe_int) (nomark _))) (fun _ _ _ _ _ => pv 2))
      (pss_one (ps_ret (pe_lst (pa_cons (pv 1) (pa_cons pe_int (pa_cons
        (pe_lc (own := [("_law_cell", 2)]) (g := gName 2) (by rfl) scBox.nd (pi_list (pv 0)) (blkOk_by (N := nBox) (sc := defScope sBox) (by decide +kernel))
          (fun _ _ _ _ _ => pg_name (i := 2) scBox.nd rfl (Or.inl rfl)) (fun _ _ _ _ _ => pts_one (pt_cmpR op_lt (pv 2) (pe_op op_pow pe_int pe_int) (nomark _))) (fun _ _ _ _ _ => pv 2))
        (pa_cons pe_int pa_nil))))))), ?_⟩
    have item : ∀ (i : Nat) (x : V), (ns.map V.int)[i]? = some x → ∃ z, x = V.int z := fun i x e => by
      rw [List.getElem?_map] at e
      obtain ⟨z, _, rfl⟩ := Option.map_eq_some_iff.mp e
      exact ⟨z, rfl⟩
    have pow : CPow 10 18 := ⟨by decide, by decide, by decide⟩
    have small : ∀ {l : List Int} {i : Nat}, l.length ≤ i → i < ns.length → (l.map V.int).length < sizeLine := fun h1 h2 => by
      rw [List.length_map]
      exact small1000 (by omega)
    refine ⟨.ref a, rfl, a, rfl, ⟨_, hS⟩, fun D nD => lc_list (K := K) (a := a) (xs := ns.map V.int) (fun i H1 => Same H H1 ∧ ∃ gs : List Int, H1 D = some (.lst (gs.map V.int)) ∧ gs.length ≤ i) ?_ (fun i H1 _ h => Same.seq h.1 hS) ?_ ?_⟩
    · exact ⟨same_new nD, [], upd_same, Nat.le_refl _⟩
    · rintro i x H1 hx ⟨s1, gs, hD, hl⟩
      have hi : i < ns.length := by
        have := (List.getElem?_eq_some_iff.mp hx).1
        rwa [List.length_map] at this
      obtain ⟨z, rfl⟩ := item i x hx
      refine ⟨rfl, .int z, rfl, 10, 18, rfl, rfl, pow, _, _, rfl, rfl, _, rfl, ite2 (fun _ => ?_) (fun _ => ?_)⟩
      · refine ⟨.int z, rfl, _, hD, small hl hi, fun c o e => ?_, gs ++ [z], ?_, ?_⟩
        · rw [upd_ne (ne_of_none e nD)]
          exact s1 c o e
        · rw [upd_same, List.map_append]
          rfl
        · rw [List.length_append]
          exact Nat.succ_le_succ hl
      · exact ⟨s1, gs, hD, Nat.le_succ_of_le hl⟩
    · rintro H1 ⟨s1, gs, hD, hl⟩
      rw [List.length_map] at hl
      have hS1 : SqL K H1 a (ns.map V.int) := Same.seq s1 hS
      refine ⟨.ref D, rfl, .ref a, rfl, a, rfl, ⟨_, hS1⟩, fun D2 nD2 => lc_list (K := K) (a := a) (xs := ns.map V.int) (fun i H2 => Same H1 H2 ∧ ∃ ms : List Int, H2 D2 = some (.lst (ms.map V.int)) ∧ ms.length ≤ i) ?_ (fun i H2 _ h => Same.seq h.1 hS1) ?_ ?_⟩
      · exact ⟨same_new nD2, [], upd_same, Nat.le_refl _⟩
      · rintro i x H2 hx ⟨s2, ms, hD2, hl2⟩
        have hi : i < ns.length := by
          have := (List.getElem?_eq_some_iff.mp hx).1
          rwa [List.length_map] at this
        obtain ⟨z, rfl⟩ := item i x hx
        refine ⟨rfl, .int z, rfl, 10, 18, rfl, rfl, pow, _, _, rfl, rfl, _, rfl, ite2 (fun _ => ?_) (fun _ => ?_)⟩
        · refine ⟨.int z, rfl, _, hD2, small hl2 hi, fun c o e => ?_, ms ++ [z], ?_, ?_⟩
          · rw [upd_ne (ne_of_none e nD2)]
            exact s2 c o e
          · rw [upd_same, List.map_append]
            rfl
          · rw [List.length_append]
            exact Nat.succ_le_succ hl2
        · exact ⟨s2, ms, hD2, Nat.le_succ_of_le hl2⟩
      · rintro H2 ⟨s2, ms, hD2, hl2⟩
        rw [List.length_map] at hl2
        refine ⟨by show 4 ≤ sizeLine; decide, fun b nb => ?_⟩
        have nD' : H2 D = some (.lst (gs.map V.int)) := s2 _ _ hD
        have ne : D ≠ D2 := ne_of_none hD nD2
        have e1 : D ≠ b := ne_of_none nD' nb
        have e2 : D2 ≠ b := ne_of_none hD2 nb
        refine q _ b D D2 ((s1.trans s2).trans (same_new nb)) ⟨⟨0, 0, gs, ms, upd_same, ?_, ?_, Int.le_refl _, Int.le_refl _, by omega, by omega⟩, e1.symm, e2.symm, ne⟩
        · rw [upd_ne e1]
          exact nD'
        · rw [upd_ne e2]
          exact hD2
/-! _law_mixed -/
abbrev sMixed : Stmt := top 28
abbrev nMixed : List Str := ["_law_cell", "_law_k", "_law_whole"]
theorem scMixed : FnScope nMixed ["_law_cell", "_law_k"] (defScope sMixed) := ⟨rfl, rfl, rfl, by decide +kernel, rfl, by decide +kernel, by decide +kernel⟩
def spMixed : Sp := fun vs H Q _ => ∃ c k : Int, vs = [.int c, .int k] ∧ 0 ≤ k ∧ k ≤ 10000000 ∧ ∀ v : Int, Q (.int v) H
theorem ok_mixed {f : Addr} {fd : FuncData} {k : Nat} (F : Fun K "_law_mixed" "_law_mixed" sMixed f fd) : FnOk P w K mg base CX0 (k + 1) f fd ["_law_cell", "_law_k"] spMixed := by
  refine F.ok scMixed (fun vs H Q E h => ?_) (fun cdv A outer s H vs Q E hr h => ?_)
  · obtain ⟨c, k, rfl, _⟩ := h
    rfl
  · obtain ⟨c, k, rfl, k0, k1, q⟩ := h
    refine ⟨_, pss_cons (ps_set (i := 2) scMixed.nd rfl (Or.inl rfl) (pe_op op_mod (pe_op op_pow
        (pe_op op_add (pe_op op_add (pe_op op_add (pe_op op_mod (pv 0) pe_int) (pe_op op_mul (pe_op op_mul pe_int (pv 1)) (pv 1))) (pe_op op_mul pe_int (pv 1))) pe_int) pe_int) pe_int))
      (pss_one (ps_ret (pe_op op_mod (pe_op op_add (pe_op op_mul (pv 2) pe_int) (pe_op op_mul pe_int (pv 1))) pe_int))), ?_⟩
    have m0 : 0 ≤ c % 2147483647 := Int.emod_nonneg _ (by decide)
    have m1 : c % 2147483647 < 2147483647 := Int.emod_lt_of_pos _ (by decide)
    have sq : 0 ≤ k * k ∧ k * k ≤ 10000000 * 10000000 := ⟨Int.mul_nonneg k0 k0, Int.mul_le_mul k1 k1 k0 (by decide)⟩
    have e : 1009 * k * k = 1009 * (k * k) := Int.mul_assoc _ _ _
    have big : (c % 2147483647 + 1009 * k * k + 48611 * k + 17).natAbs < 2 ^ 64 := by
      rw [e]
      omega
    refine ⟨_, rfl, _, _, rfl, rfl, (by show (0 : Int) < 2147483647; decide), _, rfl, _, _, rfl, rfl, .inl ⟨by decide, by decide⟩, _, rfl, _, _, rfl, rfl, .inr ⟨by omega, by omega⟩, _, _, rfl, rfl, _, rfl, _, _, rfl, rfl, .inl ⟨by decide, by decide⟩, _, _, rfl, rfl, _, _, rfl, rfl,
      _, _, rfl, rfl, ⟨by decide, by decide, big⟩, _, _, rfl, rfl, (by show (0 : Int) < 2147483647; decide), ?_⟩
    refine ⟨_, rfl, _, _, rfl, rfl, .inr ⟨by decide, by decide⟩, _, rfl, _, _, rfl, rfl, .inl ⟨by decide, by decide⟩, _, _, rfl, rfl, _, _, rfl, rfl, (by show (0 : Int) < 1000000007; decide), ?_⟩
    exact q _
/-! _law_take -/
abbrev sTake : Stmt := top 29
abbrev nTake : List Str := ["_law_box_here", "_law_size", "_law_found", "_law_cell", "_law_reach"]
theorem scTake : FnScope nTake ["_law_box_here", "_law_size"] (defScope sTake) := ⟨rfl, rfl, rfl, by decide +kernel, rfl, by decide +kernel, by decide +kernel⟩
/-- a drawn number below size; the box is a box again -/
def spTake : Sp := fun vs H Q _ => ∃ (b g m : Addr) (n : Nat) (size : Int), vs = [.ref b, .int size] ∧ Box H b g m n ∧ n ≤ 1000000 ∧ 1 ≤ size ∧ size ≤ 1000 ∧
  ∀ (v : Int) (H' : Hp), 0 ≤ v → v < size → Box H' b g m (n + 1) → Keep b g H H' → Q (.int v) H'
theorem ok_take {f fM : Addr} {fd fdM : FuncData} {k : Nat} (F : Fun K "_law_take" "_law_take" sTake f fd) (FM : Fun K "_law_mixed" "_law_mixed" sMixed fM fdM) (bM : Binds K fdM ["_law_cell", "_law_k"] []) (gM : mg "_law_mixed" = some (.ref fM))
    (ml : mg "len" = none) (mx : mg "max" = none) : FnOk P w K mg base CX0 (k + 2) f fd ["_law_box_here", "_law_size"] spTake := by
  have GM : FnOk P w K mg base CX0 (k + 1) fM fdM ["_law_cell", "_law_k"] spMixed := ok_mixed FM
  refine F.ok scTake (fun vs H Q E h => ?_) (fun cdv A outer s H vs Q E hr h => ?_)
  · obtain ⟨b, g, m, n, size, rfl, _⟩ := h
    rfl
  · obtain ⟨b, g, m, n, size, rfl, B, hn, s1, s2, q⟩ := h
    refine ⟨_, pss_cons (ps_asg (pe_op op_add (pe_ix ix_list (pv 0) pe_int (fun _ _ => rfl)) pe_int) (pg_sub (pv 0) pe_int L2.set_list))
      (C8.pss_cut (ps_if (PW.pt (pw_and (pt_cmpR op_eq (pe_ix ix_list (pv 0) pe_int (fun _ _ => rfl)) pe_int (nomark _))
          (pw_and1 (pt_cmpR op_gt (pe_callB call_len_seq (by rfl) ml PySem.boot_len (pa_cons (pe_ix ix_list (pv 0) pe_int (fun _ _ => rfl)) pa_nil)) pe_int (nomark _)))))
        (pss_one (ps_asg (pe_bm PySem.F.plainAttrs_list PySem.F.slot_list_pop PySem.F.type_list_pop mt_popAt (pe_ix ix_list (pv 0) pe_int (fun _ _ => rfl)) (pa_cons pe_int pa_nil)) (pg_sub (pv 0) pe_int L2.set_list))) pss_nil)
      (pss_cons (ps_if (pt_cmpR op_gt (pe_ix ix_list (pv 0) pe_int (fun _ _ => rfl)) pe_int (nomark _))
        (pss_cons (ps_set (i := 2) scTake.nd rfl (Or.inl rfl) (pe_op op_mod (pe_ix ix_list (pv 0) pe_int (fun _ _ => rfl)) (pv 1)))
        (pss_cons (ps_asg (pe_op op_fdiv (pe_ix ix_list (pv 0) pe_int (fun _ _ => rfl)) (pv 1)) (pg_sub (pv 0) pe_int L2.set_list))
        (pss_one (ps_ret (pv 2))))) pss_nil)
      (pss_cons (ps_set (i := 3) scTake.nd rfl (Or.inl rfl) (pe_ix ix_list (pe_op op_cat (pe_ix ix_list (pv 0) pe_int (fun _ _ => rfl)) (pe_lst (pa_cons (pe_op op_mul pe_int (pe_ix ix_list (pv 0) pe_int (fun _ _ => rfl))) pa_nil)))
          (pe_op op_mod (pe_ix ix_list (pv 0) pe_int (fun _ _ => rfl)) (pe_callB (call_max2 rfl) (by rfl) mx (by decide +kernel) (pa_cons pe_int (pa_cons (pe_callB call_len_seq (by rfl) ml PySem.boot_len (pa_cons (pe_ix ix_list (pv 0) pe_int (fun _ _ => rfl)) pa_nil)) pa_nil)))) (fun _ _ => rfl)))
      (pss_cons (ps_set (i := 2) scTake.nd rfl (Or.inl rfl) pe_int)
      (pss_cons (ps_set (i := 4) scTake.nd rfl (Or.inl rfl) pe_int)
      (pss_cons (ps_while PassesOwn.never (pt_cmpR op_lt (pv 4) (pv 1) (nomark _))
        (pss_cons (ps_set (i := 2) scTake.nd rfl (Or.inl rfl) (pe_op op_add (pe_op op_mul (pv 2) pe_int) (pe_call GM hr (by rfl) gM FM.kp bM .nil pass0 (pa_cons (pv 3) (pa_cons (pe_op op_add (pe_ix ix_list (pv 0) pe_int (fun _ _ => rfl)) (pe_op op_mul pe_int (pe_op op_mod (pv 2) pe_int))) pa_nil)))))
        (pss_one (ps_set (i := 4) scTake.nd rfl (Or.inl rfl) (pe_op op_mul (pv 4) pe_int)))))
      (pss_one (ps_ret (pe_op op_mod (pv 2) (pv 1)))))))))), ?_⟩
    obtain ⟨⟨x, c, gs, ms, hb, hg, hm, c0, c1, gl, mlen⟩, bg, bm, gm⟩ := id B
    -- box[3] = box[3] + 1
    refine ⟨.ref b, rfl, b, _, 3, .int c, rfl, rfl, SqL.of hb, rfl, _, _, rfl, rfl, .ref b, rfl, b, _, 3, 3, rfl, rfl, hb, rfl, ?_⟩
    -- the word between
    refine ⟨fun σ H1 => σ = [some (.ref b), some (.int size), none, none, none] ∧ ∃ (x1 : Int) (gs1 : List Int), H1 b = some (.lst [.ref g, .int x1, .ref m, .int (c + 1)]) ∧ H1 g = some (.lst (gs1.map V.int)) ∧ gs1.length ≤ 63 ∧ Keep b g H H1, ?_, ?_⟩
    · have hb1 : (upd H b (.lst [.ref g, .int x, .ref m, .int (c + 1)])) b = some (.lst [.ref g, .int x, .ref m, .int (c + 1)]) := upd_same
      have hg1 : (upd H b (.lst [.ref g, .int x, .ref m, .int (c + 1)])) g = some (.lst (gs.map V.int)) := by rw [upd_ne bg.symm]; exact hg
      have kp1 : Keep b g H (upd H b (.lst [.ref g, .int x, .ref m, .int (c + 1)])) := fun d o e n1 _ => by rw [upd_ne n1]; exact e
      refine ⟨.ref b, rfl, b, _, 1, .int x, rfl, rfl, SqL.of hb1, rfl, rfl, _, rfl, ?_⟩
      refine ite2 (fun _ => ?_) (fun _ => ?_)
      · refine ⟨.ref b, rfl, b, _, 0, .ref g, rfl, rfl, SqL.of hb1, rfl, g, _, rfl, .inl (SqL.of hg1), _, _, rfl, rfl, _, rfl, ite2 (fun e => ?_) (fun _ => ?_)⟩
        · have pos := of_decide_eq_true e
          rw [List.length_map] at pos
          obtain ⟨z, r, rfl⟩ : ∃ z r, gs = z :: r := by
            cases gs with
            | nil => simp at pos
            | cons z r => exact ⟨z, r, rfl⟩
          refine ⟨.ref b, rfl, b, _, 0, .ref g, rfl, rfl, SqL.of hb1, rfl, .inl ⟨rfl, _, SqL.of hg1⟩, g, _, 0, 0, .int z, rfl, rfl, hg1, by decide, by decide, ?_, rfl, ?_⟩
          · simp [seqIndex?]
          · refine ⟨.ref b, rfl, b, [.ref g, .int x, .ref m, .int (c + 1)], 1, 1, rfl, rfl, by rw [upd_ne bg]; exact hb1, rfl, rfl, z, r, upd_same, ?_, ?_, ?_⟩
            · rw [upd_ne bg.symm, upd_same]
              rfl
            · simp at gl
              omega
            · intro d o e n1 n2
              rw [upd_ne n1, upd_ne n2]
              exact kp1 d o e n1 n2
        · exact ⟨rfl, x, gs, hb1, hg1, gl, kp1⟩
      · exact ⟨rfl, x, gs, hb1, hg1, gl, kp1⟩
    · rintro σ H1 ⟨rfl, x1, gs1, hb1, hg1, gl1, kp1⟩
      have hm1 : H1 m = some (.lst (ms.map V.int)) := kp1 _ _ hm bm.symm gm.symm
      -- if box[1] > 0
      refine ⟨.ref b, rfl, b, _, 1, .int x1, rfl, rfl, SqL.of hb1, rfl, _, _, rfl, rfl, _, rfl, ite2 (fun _ => ?_) (fun _ => ?_)⟩
      · refine ⟨.ref b, rfl, b, _, 1, .int x1, rfl, rfl, SqL.of hb1, rfl, .int size, rfl, _, _, rfl, rfl, (by show 0 < size; omega), ?_⟩
        refine ⟨.ref b, rfl, b, _, 1, .int x1, rfl, rfl, SqL.of hb1, rfl, .int size, rfl, _, _, rfl, rfl, ⟨by omega, by omega⟩, .ref b, rfl, b, _, 1, 1, rfl, rfl, hb1, rfl, ?_⟩
        refine ⟨.int (x1 % size), rfl, q _ _ (Int.emod_nonneg _ (by omega)) (Int.emod_lt_of_pos _ (by omega)) ⟨⟨x1 / size, c + 1, gs1, ms, upd_same, ?_, ?_, by omega, by omega, gl1, mlen⟩, bg, bm, gm⟩ ?_⟩
        · rw [upd_ne bg.symm]
          exact hg1
        · rw [upd_ne bm.symm]
          exact hm1
        · intro d o e n1 n2
          rw [upd_ne n1]
          exact kp1 d o e n1 n2
      · -- the cell
        have mx0 : (0 : Int) < (if ((ms.map V.int).length : Int) > 1 then ((ms.map V.int).length : Int) else 1) := by
          split <;> omega
        refine ⟨.ref b, rfl, b, _, 2, .ref m, rfl, rfl, SqL.of hb1, rfl, .ref b, rfl, b, _, 3, .int (c + 1), rfl, rfl, SqL.of hb1, rfl, _, _, rfl, rfl, .inl ⟨by decide, by decide⟩, by show 1 ≤ sizeLine; decide, fun l1 nl1 => ?_⟩
        have ne1 : m ≠ l1 := ne_of_none hm1 nl1
        refine ⟨m, l1, ms.map V.int, [.int (7 * (c + 1))], rfl, rfl, by rw [upd_ne ne1]; exact hm1, upd_same, ?_, fun l2 nl2 => ?_⟩
        · rw [List.length_map]
          have : (63 : Nat) + 1 ≤ sizeLine := by decide
          show ms.length + 1 ≤ sizeLine
          omega
        have hb2 : upd (upd H1 l1 (.lst [.int (7 * (c + 1))])) l2 (.lst (ms.map V.int ++ [.int (7 * (c + 1))])) b = some (.lst [.ref g, .int x1, .ref m, .int (c + 1)]) := by
          rw [upd_ne (ne_of_none (by rw [upd_ne (ne_of_none hb1 nl1)]; exact hb1) nl2), upd_ne (ne_of_none hb1 nl1)]
          exact hb1
        have s2' : Same H1 (upd (upd H1 l1 (.lst [.int (7 * (c + 1))])) l2 (.lst (ms.map V.int ++ [.int (7 * (c + 1))]))) := (same_new nl1).trans (same_new nl2)
        have at2 : upd (upd H1 l1 (.lst [.int (7 * (c + 1))])) l2 (.lst (ms.map V.int ++ [.int (7 * (c + 1))])) l2 = some (.lst (ms.map V.int ++ [.int (7 * (c + 1))])) := upd_same
        generalize upd (upd H1 l1 (.lst [.int (7 * (c + 1))])) l2 (.lst (ms.map V.int ++ [.int (7 * (c + 1))])) = H2 at hb2 s2' at2
        have hm2 := s2' _ _ hm1
        have idx : ∃ z : Int, atI (ms.map V.int ++ [V.int (7 * (c + 1))]) ((c + 1) % (if ((ms.map V.int).length : Int) > 1 then ((ms.map V.int).length : Int) else 1)) = some (.int z) := by
          have e : ms.map V.int ++ [V.int (7 * (c + 1))] = (ms ++ [7 * (c + 1)]).map V.int := by rw [List.map_append]; rfl
          rw [e]
          refine int_at _ (Int.emod_nonneg _ (by omega)) ?_
          refine Int.lt_of_lt_of_le (Int.emod_lt_of_pos (c + 1) mx0) ?_
          rw [List.length_map, List.length_append, List.length_singleton]
          split <;> omega
        obtain ⟨z, idx⟩ := idx
        refine ⟨.ref b, rfl, b, _, 3, .int (c + 1), rfl, rfl, SqL.of hb2, rfl, .ref b, rfl, b, _, 2, .ref m, rfl, rfl, SqL.of hb2, rfl, m, _, rfl, .inl (SqL.of hm2), _, _, rfl, _, _, rfl, rfl, mx0, l2, _, _, .int z, rfl, rfl, SqL.of at2, idx, ?_⟩
        -- the loop
        refine while_by (fun σ H3 => H3 = H2 ∧ ∃ fo re : Int, σ = [some (.ref b), some (.int size), some (.int fo), some (.int z), some (.int re)] ∧ (re = 1 ∧ fo = 0 ∨ re = 1000000007))
          (fun (σ : L2.St) _ => match σ[4]? with | some (some (V.int r)) => if r = 1 then 1 else 0 | _ => 0) ⟨rfl, 0, 1, rfl, .inl ⟨rfl, rfl⟩⟩ ?_
          (fun σ H Q Q' hq ⟨v, e, v', e', i, j, e1, e2, b, eb, h⟩ => ⟨v, e, v', e', i, j, e1, e2, b, eb, hq _ _ h⟩)
        rintro σ H3 ⟨rfl, fo, re, rfl, hre⟩
        refine ⟨.int re, rfl, .int size, rfl, _, _, rfl, rfl, _, rfl, ite2 (fun e => ?_) (fun _ => ?_)⟩
        · have lt : re < size := of_decide_eq_true e
          obtain ⟨rfl, rfl⟩ : re = 1 ∧ fo = 0 := by
            rcases hre with h | h
            · exact h
            · omega
          refine ⟨.int 0, rfl, _, _, rfl, rfl, .inl ⟨by decide, by decide⟩, .int z, rfl, .ref b, rfl, b, _, 3, .int (c + 1), rfl, rfl, SqL.of hb2, rfl, .int 0, rfl, _, _, rfl, rfl, (by show (0 : Int) < 89; decide), _, _, rfl, rfl, .inl ⟨by decide, by decide⟩, _, _, rfl, rfl, z, _, rfl, ?_, ?_, fun v => ?_⟩
          · show 0 ≤ c + 1 + 1000 * (0 % 89)
            omega
          · show c + 1 + 1000 * (0 % 89) ≤ 10000000
            omega
          · refine ⟨_, _, rfl, rfl, .int 1, rfl, _, _, rfl, rfl, .inl ⟨by decide, by decide⟩, ⟨rfl, _, 1 * 1000000007, rfl, .inr rfl⟩, ?_⟩
            show (if (1 * 1000000007 : Int) = 1 then 1 else 0) < (if (1 : Int) = 1 then 1 else 0)
            decide
        · refine ⟨.int fo, rfl, .int size, rfl, _, _, rfl, rfl, (by show 0 < size; omega), q _ _ (Int.emod_nonneg _ (by omega)) (Int.emod_lt_of_pos _ (by omega)) ⟨⟨x1, c + 1, gs1, ms, hb2, s2' _ _ hg1, hm2, by omega, by omega, gl1, mlen⟩, bg, bm, gm⟩ ?_⟩
          exact kp1.trans (Same.keep s2')
end
end Moot
namespace Moot
open PySem PySem.Spec PyProof.Rows L2
/-! texts of one sign -/
def sg (c : Nat) : Str := ⟨#[c]⟩
theorem sg_inj {c d : Nat} (h : sg c = sg d) : c = d := by
  have := congrArg (fun s : Str => s.cps.toList) h
  simpa [sg] using this
theorem glue_one : ∀ (cs : List Nat) (acc : Array Nat), (cs.map sg).foldl (fun a p => a ++ Str.empty.cps ++ p.cps) acc = acc ++ cs.toArray
  | [], acc => by simp
  | c :: cs, acc => by
    rw [List.map_cons, List.foldl_cons, glue_one cs]
    simp [Str.empty, sg]
theorem join_signs (cs : List Nat) : Txt.join Str.empty (cs.map sg) = ⟨cs.toArray⟩ := by
  unfold Txt.join Builtin.Str.glued
  cases cs with
  | nil => rfl
  | cons c cs =>
    show (⟨(cs.map sg).foldl _ (sg c).cps⟩ : Str) = _
    rw [glue_one]
    simp [sg]
/-- a name: one to eight letters -/
structure Nm (x : Str) : Prop where
  lo : 1 ≤ x.cps.size
  hi : x.cps.size ≤ 8
  low : ∀ c ∈ x.cps.toList, 97 ≤ c ∧ c ≤ 122
theorem Nm.ok {x : Str} (h : Nm x) : PyData.strOk x = true := by
  unfold PyData.strOk
  rw [Array.all_eq_true]
  intro i hi
  have := h.low x.cps[i] (by simp)
  simp
  omega
abbrev abc : Str := "abcdefghijklmnopqrstuvwxyz"
theorem abc_list : abc.cps.toList = (List.range 26).map (· + 97) := by decide +kernel
theorem abc_size : abc.cps.size = 26 := by decide +kernel
theorem abc_at {i : Nat} (h : i < 26) : abc.cps.toList[i]? = some (i + 97) := by
  rw [abc_list, List.getElem?_map, List.getElem?_range h]
  rfl
theorem sg_nm {c : Nat} (h : c < 26) : Nm (sg (c + 97)) := ⟨by simp [sg], by simp [sg], fun d m => by
  have : d = c + 97 := by simpa [sg] using m
  omega⟩
theorem nm_of {cs : List Nat} (h1 : 1 ≤ cs.length) (h2 : cs.length ≤ 8) (h : ∀ c ∈ cs, 97 ≤ c ∧ c ≤ 122) : Nm ⟨cs.toArray⟩ := ⟨by simpa using h1, by simpa using h2, fun c m => h c (by simpa using m)⟩
theorem inV_str (z : Str) (xs : List Str) : inV (.str z) (xs.map V.str) = decide (z ∈ xs) := by
  unfold inV
  rw [List.any_map]
  rw [Bool.eq_iff_iff, List.any_eq_true, decide_eq_true_eq]
  constructor
  · rintro ⟨y, m, e⟩
    have : y = z := by simpa [eqV] using e
    exact this ▸ m
  · intro m
    exact ⟨z, m, by simp [eqV]⟩
theorem flats (xs : List Str) : (xs.map V.str).all flatV = true := by
  rw [List.all_map]
  exact List.all_eq_true.mpr fun _ _ => rfl
/-- some letter is not among fewer than 26 names -/
theorem letter_left (xs : List Str) (h : xs.length < 26) : ∃ c, c < 26 ∧ sg (c + 97) ∉ xs := by
  rcases Classical.em (∃ c, c < 26 ∧ sg (c + 97) ∉ xs) with h' | h'
  · exact h'
  · exfalso
    have all : ∀ y ∈ (List.range 26).map (fun c => sg (c + 97)), y ∈ xs := fun y m => by
      obtain ⟨c, hc, rfl⟩ := List.mem_map.mp m
      rcases Classical.em (sg (c + 97) ∈ xs) with k | k
      · exact k
      · exact absurd ⟨c, List.mem_range.mp hc, k⟩ h'
    have nd : ((List.range 26).map (fun c => sg (c + 97))).Nodup := by
      refine List.Pairwise.map _ (fun a b n e => n ?_) (List.nodup_range (n := 26))
      have := sg_inj e
      omega
    have : ∀ (l D : List Str), l.Nodup → (∀ y ∈ l, y ∈ D) → l.length ≤ D.length := by
      intro l
      induction l with
      | nil => intros; exact Nat.zero_le _
      | cons y l ih =>
        intro D n s
        obtain ⟨n1, n2⟩ := List.nodup_cons.mp n
        have my := s y List.mem_cons_self
        have := ih (D.erase y) n2 fun z mz => (List.mem_erase_of_ne fun (e : z = y) => n1 (e ▸ mz)).mpr (s z (List.mem_cons_of_mem _ mz))
        have e := List.length_erase_of_mem my
        have := List.length_pos_of_mem my
        rw [List.length_cons]
        omega
    have := this _ xs nd all
    rw [List.length_map, List.length_range] at this
    omega
theorem Box.ne {H : Hp} {b g m p : Addr} {n : Nat} (B : Box H b g m n) (h : H p = none) : p ≠ b ∧ p ≠ g ∧ p ≠ m := by
  obtain ⟨o1, h1⟩ := B.b_in
  obtain ⟨o2, h2⟩ := B.g_in
  obtain ⟨o3, h3⟩ := B.m_in
  exact ⟨(ne_of_none h1 h).symm, (ne_of_none h2 h).symm, (ne_of_none h3 h).symm⟩
theorem Keep.free {b g p : Addr} {H H' : Hp} (k : Keep b g H H') (p1 : p ≠ b) (p2 : p ≠ g) (h : H' p = none) : H p = none := by
  cases e : H p with
  | none => rfl
  | some o =>
    rw [k p o e p1 p2] at h
    cases h
theorem one_two_eight {v : Int} (h0 : 0 ≤ v) (h1 : v < 3) : ∃ s : Int, atI [V.int 1, V.int 2, V.int 8] v = some (.int s) ∧ 1 ≤ s ∧ s ≤ 8 := by
  have c : v = 0 ∨ v = 1 ∨ v = 2 := by omega
  rcases c with rfl | rfl | rfl
  · exact ⟨1, rfl, by decide, by decide⟩
  · exact ⟨2, rfl, by decide, by decide⟩
  · exact ⟨8, rfl, by decide, by decide⟩
theorem erase_map {α β : Type} (f : α → β) : ∀ (l : List α) (k : Nat), (l.map f).eraseIdx k = (l.eraseIdx k).map f
  | [], _ => rfl
  | _ :: _, 0 => rfl
  | x :: l, k + 1 => by
    show f x :: (l.map f).eraseIdx k = f x :: (l.eraseIdx k).map f
    rw [erase_map f l k]
theorem seq_at {n : Nat} {v : Int} (h0 : 0 ≤ v) (h1 : v < n) : seqIndex? v n = some v.toNat := by
  have e : ixN n v = some v.toNat := by
    unfold ixN
    rw [if_pos h0, if_pos (by omega)]
  exact (ixN_seq e).1
section
variable {P : Program} {w : World} {K : PySem.W.Frag} {mg : Str → Option Value} {base : Heap}
/-! _law_names -/
abbrev sNames : Stmt := top 30
abbrev nNames : List Str := ["_law_box_here", "_law_many", "_law_letters", "_law_found", "_law_k", "_law_size", "_law_name_here", "_law_j", "_law_one"]
theorem scNames : FnScope nNames ["_law_box_here", "_law_many"] (defScope sNames) := ⟨rfl, rfl, rfl, by decide +kernel, rfl, by decide +kernel, by decide +kernel⟩
/-- that many names, none twice, each with a token -/
def spNames : Sp := fun vs H Q _ => ∃ (b g m : Addr) (n : Nat) (many : Nat), vs = [.ref b, .int many] ∧ Box H b g m n ∧ n ≤ 900000 ∧ many ≤ 8 ∧
  ∀ (p : Addr) (xs : List Str) (H' : Hp), H p = none → GLs H' p (xs.map V.str) → xs.length = many → xs.Nodup → (∀ x ∈ xs, Nm x) → Box H' b g m (n + 100) → Keep b g H H' → Q (.ref p) H'
theorem ok_names {f fT : Addr} {fd fdT : FuncData} {k : Nat} (F : Fun K "_law_names" "_law_names" sNames f fd) (FT : Fun K "_law_take" "_law_take" sTake fT fdT) (bT : Binds K fdT ["_law_box_here", "_law_size"] []) (gT : mg "_law_take" = some (.ref fT))
    (GT : FnOk P w K mg base CX0 k fT fdT ["_law_box_here", "_law_size"] spTake) (mr : mg "range" = none) : FnOk P w K mg base CX0 (k + 1) f fd ["_law_box_here", "_law_many"] spNames := by
  refine F.ok scNames (fun vs H Q E h => ?_) (fun cdv A outer s H vs Q E hr h => ?_)
  · obtain ⟨b, g, m, n, many, rfl, _⟩ := h
    rfl
  · obtain ⟨b, g, m, n, many, rfl, B, hn, hmany, q⟩ := h
    refine ⟨_, pss_cons (ps_set (i := 2) scNames.nd rfl (Or.inr rfl) pe_str)
      (pss_cons (ps_set (i := 3) scNames.nd rfl (Or.inr rfl) (pe_lst pa_nil))
      (pss_known (pss_cons (ps_for PassesOwn.never rfl (pi_range1 rfl mr (pa_cons (pv 1) pa_nil)) (pg_name (i := 4) scNames.nd rfl (Or.inl rfl))
        (pss_cons (ps_set (i := 5) scNames.nd rfl (Or.inl rfl) (pe_op op_add pe_int (pe_call GT hr (by rfl) gT FT.kp bT .nil pass0 (pa_cons (pv 0) (pa_cons (pe_ix ix_list (pe_lst (pa_cons pe_int (pa_cons pe_int (pa_cons pe_int pa_nil)))) (pe_call GT hr (by rfl) gT FT.kp bT .nil pass0 (pa_cons (pv 0) (pa_cons pe_int pa_nil))) (fun _ _ => rfl)) pa_nil)))))
        (pss_joinPut (i := 6) (jf := 3) scNames.nd rfl rfl rfl (.inr (.inl rfl))
          (pek_lcG (own := [("_law_j", 7)]) (tv := tvOf (gName 7) _ [7]) (by rfl) scNames.nd (pig_of (pi_range1 rfl mr (pa_cons (pv 5) pa_nil))) (blkOk_by (N := nNames) (sc := defScope sNames) (by decide +kernel))
            (fun _ _ _ _ _ => turn_of rfl (pg_name (i := 7) scNames.nd rfl (Or.inl rfl)) (pek_ixStr (pv 2) (pe_call GT hr (by rfl) gT FT.kp bT .nil pass0 (pa_cons (pv 0) (pa_cons pe_int pa_nil))) (fun _ _ => rfl))))
          (pek_lcG (own := [("_law_one", 8)]) (tv := tvNotIn K 8 3) (by rfl) scNames.nd (pig_str (pv 2)) (blkOk_by (N := nNames) (sc := defScope sNames) (by decide +kernel))
            (fun _ _ _ _ _ => turn_notin scNames.nd rfl rfl rfl (by first | exact .inl rfl | exact .inr (.inl rfl) | exact .inr (.inr rfl)))))))
      (pss_one (ps_ret (pv 3)))))), ?_⟩
    refine ⟨Nat.zero_le _, fun p np => ⟨p, upd_same, fun o u e => ?_, fun o0 g0 => ?_⟩⟩
    · have e : H p = some (.frz o u) := e
      rw [np] at e
      cases e
    rw [upd_upd]
    obtain ⟨pb, pg, pm⟩ := B.ne np
    have nf : ∀ o u, H p ≠ some (.frz o u) := fun o u e => by
      rw [np] at e
      cases e
    refine ⟨.int many, rfl, many, rfl, by omega, by omega, for_range (lo := 0) (n := (many : Int).toNat) (fun i σ H1 => ∃ (xs : List Str) (y4 y5 y6 y7 y8 : Option V), σ = [some (.ref b), some (.int many), some (.str abc), some (.ref p), y4, y5, y6, y7, y8] ∧
      Box H1 b g m (n + 12 * i) ∧ Keep b g H H1 ∧ GLs H1 p (xs.map V.str) ∧ xs.length = i ∧ xs.Nodup ∧ ∀ x ∈ xs, Nm x) ?_ ?_ ?_⟩
    · exact ⟨[], none, none, none, none, none, rfl, B.store pb pg pm, Same.keep (same_new np), ⟨o0, g0, upd_same⟩, rfl, List.nodup_nil, fun x m => by simp at m⟩
    · rintro i σ H1 hi ⟨xs, y4, y5, y6, y7, y8, rfl, B1, K1, h1, len, nd, nm⟩
      have hi8 : i < 8 := by omega
      -- the size
      refine ⟨.ref b, rfl, by show 3 ≤ sizeLine; decide, fun l1 nl1 => ?_⟩
      have B1' := B1.same (same_new (o := .lst [.int 1, .int 2, .int 8]) nl1)
      obtain ⟨lb, lg, lm⟩ := B1.ne nl1
      refine ⟨.ref b, rfl, b, g, m, _, 3, rfl, B1', by omega, by decide, by decide, fun v1 H2 v0 v3 B2 K2 => ?_⟩
      have hl2 : H2 l1 = some (.lst [.int 1, .int 2, .int 8]) := K2 _ _ upd_same lb lg
      obtain ⟨sz, at1, sz1, sz8⟩ := one_two_eight v0 v3
      refine ⟨l1, _, v1, .int sz, rfl, rfl, SqL.of hl2, at1, b, g, m, _, sz, rfl, B2, by omega, sz1, by omega, fun v2 H3 v20 v2s B3 K3 => ?_⟩
      have K13 : Keep b g H1 H3 := ((Same.keep (same_new nl1)).trans K2).trans K3
      refine ⟨_, _, rfl, rfl, ?_⟩
      -- the name
      refine ⟨.int (1 + v2), rfl, 1 + v2, rfl, by omega, by omega, fun D nD oD gD => ?_⟩
      obtain ⟨Db, Dg, Dm⟩ := B3.ne nD
      have abcAt : ∀ v : Int, 0 ≤ v → v < 26 → atI abc.cps.toList v = some (v.toNat + 97) := fun v a0 a1 => by
        obtain ⟨j, rfl⟩ := Int.eq_ofNat_of_zero_le a0
        exact atI_nat (abc_at (by omega))
      refine lcG_range (lo := 0) (n := (1 + v2).toNat) (fun j H4 => Box H4 b g m (n + 12 * i + 2 + j) ∧ Keep b g H3 H4 ∧ ∃ cs : List Nat, GLs H4 D ((cs.map sg).map V.str) ∧ cs.length = j ∧ ∀ c ∈ cs, 97 ≤ c ∧ c ≤ 122) ?_ ?_ ?_
      · exact ⟨B3.store Db Dg Dm, Same.keep (same_new nD), [], ⟨oD, gD, upd_same⟩, rfl, fun c m => by simp at m⟩
      · rintro j H4 hj ⟨B4, K4, cs, ⟨oc, gc, hD⟩, lcs, low⟩
        refine ⟨rfl, .str abc, rfl, .ref b, rfl, b, g, m, _, 26, rfl, B4, by omega, by decide, by decide, fun v H5 a0 a1 B5 K5 => ?_⟩
        refine ⟨abc, v, v.toNat + 97, rfl, rfl, by show abc.cps.size ≤ sizeLine; rw [abc_size]; decide, abcAt v a0 a1, _, ⟨oc, gc, K5 _ _ hD Db Dg⟩, ?_, fun o' g' => ?_⟩
        · rw [List.length_map, List.length_map]
          exact small1000 (by omega)
        · have e' : (cs.map sg).map V.str ++ [V.str ⟨#[v.toNat + 97]⟩] = ((cs ++ [v.toNat + 97]).map sg).map V.str := by
            rw [List.map_append, List.map_append]
            rfl
          refine ⟨(B5.store Db Dg Dm).more (by omega), fun d o e n1 n2 => ?_, cs ++ [v.toNat + 97], ⟨o', ?_, ?_⟩, ?_, ?_⟩
          · rw [upd_ne (ne_of_none e nD)]
            exact K5 _ _ (K4 _ _ e n1 n2) n1 n2
          · rw [← e']
            exact g'
          · rw [upd_same, e']
          · rw [List.length_append, lcs]
            rfl
          · intro c mc
            rcases List.mem_append.mp mc with mc | mc
            · exact low c mc
            · have := List.mem_singleton.mp mc
              omega
      · rintro H4 ⟨B4, K4, cs, gcs, lcs, low⟩
        have K14 : Keep b g H1 H4 := K13.trans K4
        obtain ⟨op, gp, hp1⟩ := h1
        have hp4 : GLs H4 p (xs.map V.str) := ⟨op, gp, K14 _ _ hp1 pb pg⟩
        have lc8 : cs.length ≤ 8 := by omega
        have lc1 : 1 ≤ cs.length := by omega
        refine ⟨D, cs.map sg, rfl, gcs, ?_, ?_⟩
        · have : ((cs.map sg).map (·.length)).sum = cs.length := by
            clear lcs low gcs lc8 lc1
            induction cs with
            | nil => rfl
            | cons c cs ih =>
              rw [List.map_cons, List.map_cons, List.sum_cons, ih, List.length_cons]
              show 1 + cs.length = _
              omega
          rw [this]
          show cs.length + _ * 0 ≤ _
          omega
        rw [join_signs]
        have nmN : Nm ⟨cs.toArray⟩ := nm_of lc1 lc8 low
        generalize (⟨cs.toArray⟩ : Str) = name at nmN ⊢
        have put : ∀ (z : Str) (H5 : Hp) (o' : Obj), Nm z → z ∉ xs → Same H4 H5 → GdL o' (xs.map V.str ++ [.str z]) → Box (upd H5 p (.frz o' (.lst (xs.map V.str ++ [.str z])))) b g m (n + 12 * (i + 1)) ∧ Keep b g H (upd H5 p (.frz o' (.lst (xs.map V.str ++ [.str z])))) ∧
            GLs (upd H5 p (.frz o' (.lst (xs.map V.str ++ [.str z])))) p ((xs ++ [z]).map V.str) ∧ (xs ++ [z]).length = i + 1 ∧ (xs ++ [z]).Nodup ∧ ∀ x ∈ xs ++ [z], Nm x := fun z H5 o' nz out s5 g' => by
          have e' : xs.map V.str ++ [V.str z] = (xs ++ [z]).map V.str := by
            rw [List.map_append]
            rfl
          refine ⟨((B4.same s5).store pb pg pm).more (by omega), ?_, ⟨o', ?_, ?_⟩, ?_, ?_, ?_⟩
          · intro d o e n1 n2
            rw [upd_ne (ne_of_none e np)]
            exact s5 _ _ (K14 _ _ (K1 _ _ e n1 n2) n1 n2)
          · rw [← e']
            exact g'
          · rw [upd_same, e']
          · rw [List.length_append, len]
            rfl
          · exact List.nodup_append.mpr ⟨nd, List.nodup_cons.mpr ⟨by simp, List.nodup_nil⟩, fun a ma c mc e => out (by rw [← List.mem_singleton.mp mc, ← e]; exact ma)⟩
          · intro x mx
            rcases List.mem_append.mp mx with mx | mx
            · exact nm x mx
            · rw [List.mem_singleton.mp mx]
              exact nz
        have room : xs.length < sizeLine := by
          rw [len]
          exact small1000 (by omega)
        refine ⟨p, xs, rfl, hp4, nf, room, fun out o' g' => ⟨xs ++ [name], _, _, _, _, _, rfl, put name H4 o' nmN out (Same.refl _) g'⟩, fun inn => ?_⟩
        refine ⟨.str abc, rfl, abc, rfl, fun D2 nD2 o2 g2 => ?_⟩
        refine lcG_str (fun j H5 => Same H4 H5 ∧ GLs H5 D2 (((((List.range 26).take j).filter fun c => decide (sg (c + 97) ∉ xs)).map fun c => sg (c + 97)).map V.str)) ?_ ?_ ?_
        · exact ⟨same_new nD2, o2, g2, upd_same⟩
        · rintro j c H5 hc ⟨s5, hD2⟩
          have hj26 : j < 26 := by
            have := (Array.getElem?_eq_some_iff.mp hc).1
            rwa [abc_size] at this
          have ec : c = j + 97 := by
            have := abc_at hj26
            rw [Array.getElem?_toList] at this
            exact Option.some.inj (hc.symm.trans this)
          subst ec
          obtain ⟨op4, gp4, e4⟩ := hp4
          have tk : (List.range 26).take (j + 1) = (List.range 26).take j ++ [j] := by
            rw [List.take_add_one, List.getElem?_range hj26]
            rfl
          refine ⟨sg (j + 97), p, xs, rfl, rfl, .inl (.inr ⟨op4, s5 _ _ e4⟩), fun isIn => ⟨s5, ?_⟩, fun isIn => ⟨_, hD2, ?_, fun o' g' => ⟨fun d o e => ?_, o', ?_, ?_⟩⟩⟩
          · rw [tk, List.filter_append]
            simpa [isIn] using hD2
          · rw [List.length_map, List.length_map]
            refine small1000 (Nat.le_trans (List.length_filter_le _ _) ?_)
            rw [List.length_take]
            omega
          · rw [upd_ne (ne_of_none e nD2)]
            exact s5 d o e
          · rw [tk, List.filter_append]
            simpa [isIn] using g'
          · rw [upd_same, tk, List.filter_append]
            simp [isIn]
        · rintro H5 ⟨s5, hD2⟩
          obtain ⟨c, hc, out⟩ := letter_left xs (by omega)
          have e26 : (List.range 26).take abc.cps.size = List.range 26 := by
            rw [abc_size]
            rfl
          rw [e26] at hD2
          have mem : c ∈ (List.range 26).filter fun c => decide (sg (c + 97) ∉ xs) := List.mem_filter.mpr ⟨List.mem_range.mpr hc, decide_eq_true out⟩
          obtain ⟨d, r, er⟩ : ∃ d r, ((List.range 26).filter fun c => decide (sg (c + 97) ∉ xs)) = d :: r := by
            cases h : ((List.range 26).filter fun c => decide (sg (c + 97) ∉ xs)) with
            | nil => rw [h] at mem; simp at mem
            | cons d r => exact ⟨d, r, rfl⟩
          have hd : d < 26 ∧ sg (d + 97) ∉ xs := by
            have : d ∈ (List.range 26).filter fun c => decide (sg (c + 97) ∉ xs) := by rw [er]; exact List.mem_cons_self
            obtain ⟨m1, m2⟩ := List.mem_filter.mp this
            exact ⟨List.mem_range.mp m1, of_decide_eq_true m2⟩
          rw [er] at hD2
          obtain ⟨op4, gp4, e4⟩ := hp4
          exact ⟨D2, sg (d + 97), _, rfl, hD2, ⟨op4, gp4, s5 _ _ e4⟩, fun o' g' => ⟨xs ++ [sg (d + 97)], _, _, _, _, _, rfl, put _ H5 o' (sg_nm hd.1) hd.2 s5 g'⟩⟩
    · rintro σ H1 ⟨xs, y4, y5, y6, y7, y8, rfl, B1, K1, h1, len, nd, nm⟩
      exact ⟨.ref p, rfl, q p xs H1 np h1 (by omega) nd nm (B1.more (by omega)) K1⟩
/-- len by a reading over K alone -/
abbrev rLen (K : PySem.W.Frag) : List V → Hp → VK → Prop := fun xs H Q => ∃ p ys, xs = [.ref p] ∧ (SqL K H p ys ∨ SqT K H p ys) ∧ Q (.int ys.length) H
/-! _law_some -/
abbrev sSome : Stmt := top 31
abbrev nSome : List Str := ["_law_box_here", "_law_values", "_law_left", "_law_k"]
theorem scSome : FnScope nSome ["_law_box_here", "_law_values"] (defScope sSome) := ⟨rfl, rfl, rfl, by decide +kernel, rfl, by decide +kernel, by decide +kernel⟩
/-- at least one of them, none more often than before, each with its token -/
def spSome : Sp := fun vs H Q _ => ∃ (b g m vp : Addr) (n : Nat) (xs : List Str), vs = [.ref b, .ref vp] ∧ Box H b g m n ∧ n ≤ 900000 ∧ GLs H vp (xs.map V.str) ∧ 1 ≤ xs.length ∧ xs.length ≤ 100 ∧
  ∀ (p : Addr) (ys zs : List Str) (H' : Hp), H p = none → GLs H' p (ys.map V.str) → 1 ≤ ys.length → (ys ++ zs).Perm xs → Box H' b g m (n + 1 + xs.length) → Keep b g H H' → Q (.ref p) H'
theorem ok_some {f fT : Addr} {fd fdT : FuncData} {k : Nat} (F : Fun K "_law_some" "_law_some" sSome f fd) (FT : Fun K "_law_take" "_law_take" sTake fT fdT) (bT : Binds K fdT ["_law_box_here", "_law_size"] []) (gT : mg "_law_take" = some (.ref fT))
    (GT : FnOk P w K mg base CX0 k fT fdT ["_law_box_here", "_law_size"] spTake) (mr : mg "range" = none) (ml : mg "len" = none) (mls : mg "list" = none) : FnOk P w K mg base CX0 (k + 1) f fd ["_law_box_here", "_law_values"] spSome := by
  refine F.ok scSome (fun vs H Q E h => ?_) (fun cdv A outer s H vs Q E hr h => ?_)
  · obtain ⟨b, g, m, vp, n, xs, rfl, _⟩ := h
    rfl
  · obtain ⟨b, g, m, vp, n, xs, rfl, B, hn, hv, x1, x2, q⟩ := h
    refine ⟨_, pss_cons (ps_set (i := 2) scSome.nd rfl (Or.inr rfl) (pe_callTy call_listX (by rfl) mls (by decide +kernel) (pa_cons (pv 1) pa_nil)))
      (pss_one (ps_ret (PEK.pe (pek_lcG (own := [("_law_k", 3)]) (tv := tvOf (gName 3) _ [3]) (by rfl) scSome.nd
        (pig_of (pi_range1 rfl mr (pa_cons (pe_op op_add pe_int (pe_call GT hr (by rfl) gT FT.kp bT .nil pass0 (pa_cons (pv 0) (pa_cons (pe_callB call_lenX (by rfl) ml PySem.boot_len (pa_cons (pv 2) pa_nil)) pa_nil)))) pa_nil))) (blkOk_by (N := nSome) (sc := defScope sSome) (by decide +kernel))
        (fun _ _ _ _ _ => turn_of rfl (pg_name (i := 3) scSome.nd rfl (Or.inl rfl))
          (pek_popX (pv 2) (pa_cons (pe_call GT hr (by rfl) gT FT.kp bT .nil pass0 (pa_cons (pv 0) (pa_cons (pe_callB call_lenX (by rfl) ml PySem.boot_len (pa_cons (pv 2) pa_nil)) pa_nil))) pa_nil))))))), ?_⟩
    refine ⟨.ref vp, rfl, vp, _, rfl, hv, fun l nl => ?_⟩
    obtain ⟨lb, lg, lm⟩ := B.ne nl
    have s1 : Same H (upd H l (TLx l (xs.map V.str))) := same_new nl
    have lx : (xs.map V.str).length = xs.length := List.length_map _
    refine ⟨.ref b, rfl, .ref l, rfl, l, _, rfl, upd_same, b, g, m, n, _, rfl, B.same s1, by omega, by omega, by omega, fun v0 H1 a0 a1 B1 K1 => ?_⟩
    refine ⟨_, _, rfl, rfl, 1 + v0, rfl, by omega, by omega, fun D nD oD gD => ?_⟩
    obtain ⟨Db, Dg, Dm⟩ := B1.ne nD
    have hl1 : H1 l = some (TLx l (xs.map V.str)) := K1 _ _ upd_same lb lg
    have Dl : D ≠ l := (ne_of_none hl1 nD).symm
    have K01 : Keep b g H H1 := (Same.keep s1).trans K1
    have fD : H D = none := K01.free Db Dg nD
    refine lcG_range (lo := 0) (n := (1 + v0).toNat) (fun j H4 => Box H4 b g m (n + 1 + j) ∧ Keep b g H H4 ∧ ∃ ys zs : List Str, GLs H4 D (ys.map V.str) ∧ H4 l = some (TLx l (zs.map V.str)) ∧ ys.length = j ∧ (ys ++ zs).Perm xs) ?_ ?_ ?_
    · refine ⟨B1.store Db Dg Dm, K01.trans (Same.keep (same_new nD)), [], xs, ⟨oD, gD, upd_same⟩, ?_, rfl, List.Perm.refl _⟩
      rw [upd_ne Dl.symm]
      exact hl1
    · rintro j H4 hj ⟨B4, K4, ys, zs, ⟨o4, g4, hD⟩, hl, ly, pm⟩
      have total := pm.length_eq
      rw [List.length_append] at total
      have lz : (zs.map V.str).length = zs.length := List.length_map _
      refine ⟨rfl, .ref l, rfl, l, _, rfl, hl, .ref b, rfl, .ref l, rfl, l, _, rfl, hl, b, g, m, _, _, rfl, B4, by omega, by omega, by omega, fun v H5 c0 c1 B5 K5 => ?_⟩
      have hl5 := K5 _ _ hl lb lg
      have hD5 := K5 _ _ hD Db Dg
      have hv : v.toNat < zs.length := by omega
      refine ⟨_, v, v.toNat, .str zs[v.toNat], rfl, hl5, by omega, by omega, seq_at c0 c1, ?_, ys.map V.str, ⟨o4, g4, ?_⟩, ?_, fun o' g' => ?_⟩
      · rw [List.getElem?_map, List.getElem?_eq_getElem hv]
        rfl
      · rw [upd_ne Dl]
        exact hD5
      · rw [List.length_map]
        exact small1000 (by omega)
      · have e' : ys.map V.str ++ [V.str zs[v.toNat]] = (ys ++ [zs[v.toNat]]).map V.str := by
          rw [List.map_append]
          rfl
        refine ⟨((B5.store lb lg lm).store Db Dg Dm).more (by omega), fun d o e n1 n2 => ?_, ys ++ [zs[v.toNat]], zs.eraseIdx v.toNat, ⟨o', ?_, ?_⟩, ?_, ?_, ?_⟩
        · rw [upd_ne (ne_of_none e fD), upd_ne (ne_of_none e nl)]
          exact K5 _ _ (K4 _ _ e n1 n2) n1 n2
        · rw [← e']
          exact g'
        · rw [upd_same, e']
        · rw [upd_ne Dl.symm, upd_same, erase_map]
        · rw [List.length_append, ly]
          rfl
        · refine List.Perm.trans ?_ pm
          rw [List.append_assoc]
          exact List.Perm.append_left ys (erase_perm zs v.toNat _ (List.getElem?_eq_getElem hv))
    · rintro H4 ⟨B4, K4, ys, zs, hD, hl, ly, pm⟩
      exact q D ys zs H4 fD hD (by omega) pm (B4.more (by omega)) K4
/-! _law_count -/
abbrev sCount : Stmt := top 32
abbrev nCount : List Str := ["_law_box_here", "_law_many"]
theorem scCount : FnScope nCount ["_law_box_here", "_law_many"] (defScope sCount) := ⟨rfl, rfl, rfl, by decide +kernel, rfl, by decide +kernel, by decide +kernel⟩
def spCount : Sp := fun vs H Q _ => ∃ (b g m : Addr) (n : Nat) (many : Int), vs = [.ref b, .int many] ∧ Box H b g m n ∧ n ≤ 900000 ∧ 1 ≤ many ∧ many ≤ 1000 ∧
  ∀ (c : Int) (H' : Hp), 1 ≤ c → c ≤ many → Box H' b g m (n + 2) → Keep b g H H' → Q (.int c) H'
theorem ok_count {f fT : Addr} {fd fdT : FuncData} {k : Nat} (F : Fun K "_law_count" "_law_count" sCount f fd) (FT : Fun K "_law_take" "_law_take" sTake fT fdT) (bT : Binds K fdT ["_law_box_here", "_law_size"] []) (gT : mg "_law_take" = some (.ref fT))
    (GT : FnOk P w K mg base CX0 k fT fdT ["_law_box_here", "_law_size"] spTake) (mn : mg "min" = none) : FnOk P w K mg base CX0 (k + 1) f fd ["_law_box_here", "_law_many"] spCount := by
  refine F.ok scCount (fun vs H Q E h => ?_) (fun cdv A outer s H vs Q E hr h => ?_)
  · obtain ⟨b, g, m, n, many, rfl, _⟩ := h
    rfl
  · obtain ⟨b, g, m, n, many, rfl, B, hn, m1, m2, q⟩ := h
    refine ⟨_, pss_one (ps_ret (pe_ix ix_list (pe_lst (pa_cons pe_int (pa_cons (pv 1) (pa_cons
        (pe_callB (call_min2 rfl) (by rfl) mn (by decide +kernel) (pa_cons (pv 1) (pa_cons (pe_op op_add (pe_op op_fdiv (pe_op op_mul pe_int (pv 1)) pe_int) pe_int) pa_nil)))
        (pa_cons (pe_op op_add pe_int (pe_call GT hr (by rfl) gT FT.kp bT .nil pass0 (pa_cons (pv 0) (pa_cons (pv 1) pa_nil)))) pa_nil)))))
      (pe_call GT hr (by rfl) gT FT.kp bT .nil pass0 (pa_cons (pv 0) (pa_cons pe_int pa_nil))) (fun _ _ => rfl))), ?_⟩
    refine ⟨_, rfl, _, rfl, _, rfl, _, _, rfl, rfl, .inl ⟨by decide, by decide⟩, _, _, rfl, rfl, ⟨by decide, by decide⟩, _, _, rfl, rfl, _, _, rfl, .ref b, rfl, .int many, rfl, b, g, m, n, many, rfl, B, by omega, m1, m2, fun v H1 v0 vs B1 K1 => ?_⟩
    refine ⟨_, _, rfl, rfl, by show 4 ≤ sizeLine; decide, fun l nl => ?_⟩
    obtain ⟨lb, lg, lm⟩ := B1.ne nl
    refine ⟨.ref b, rfl, b, g, m, _, 4, rfl, B1.same (same_new nl), by omega, by decide, by decide, fun v2 H2 a0 a1 B2 K2 => ?_⟩
    have hl := K2 _ _ upd_same lb lg
    have KK : Keep b g H H2 := (K1.trans (Same.keep (same_new nl))).trans K2
    have c : v2 = 0 ∨ v2 = 1 ∨ v2 = 2 ∨ v2 = 3 := by omega
    rcases c with rfl | rfl | rfl | rfl
    · exact ⟨l, _, 0, _, rfl, rfl, SqL.of hl, atI_nat (j := 0) rfl, q 1 H2 (by decide) m1 B2 KK⟩
    · exact ⟨l, _, 1, _, rfl, rfl, SqL.of hl, atI_nat (j := 1) rfl, q many H2 m1 (Int.le_refl _) B2 KK⟩
    · refine ⟨l, _, 2, _, rfl, rfl, SqL.of hl, atI_nat (j := 2) rfl, q _ H2 ?_ ?_ B2 KK⟩
      · split <;> omega
      · split <;> omega
    · exact ⟨l, _, 3, _, rfl, rfl, SqL.of hl, atI_nat (j := 3) rfl, q _ H2 (by omega) (by omega) B2 KK⟩
end
end Moot
namespace Moot
open PySem PySem.Spec PyProof.Rows L2
theorem Keep.tups {H H' : Hp} {b g m : Addr} {n : Nat} (k : Keep b g H H') (B : Box H b g m n) : Tups H H' := by
  obtain ⟨x, c, gs, ms, hb, hg, _⟩ := B.ex
  have ne : ∀ a o, H a = some o → (∀ xs, o ≠ .lst xs) → a ≠ b ∧ a ≠ g := fun a o h no => ⟨fun e => by rw [e, hb] at h; cases h; exact no _ rfl, fun e => by rw [e, hg] at h; cases h; exact no _ rfl⟩
  exact ⟨fun a xs h => k a _ h (ne a _ h fun _ z => by cases z).1 (ne a _ h fun _ z => by cases z).2, fun a o u h => k a _ h (ne a _ h fun _ z => by cases z).1 (ne a _ h fun _ z => by cases z).2⟩
/-- the names as they are written -/
def namesOf : List Part → List Str
  | [] => []
  | .inl x :: r => x :: namesOf r
  | .inr (_, ns) :: r => ns ++ namesOf r
theorem namesOf_append : ∀ a b : List Part, namesOf (a ++ b) = namesOf a ++ namesOf b
  | [], _ => rfl
  | .inl x :: a, b => by
    show x :: namesOf (a ++ b) = x :: (namesOf a ++ namesOf b)
    rw [namesOf_append a b]
  | .inr (c, ns) :: a, b => by
    show ns ++ namesOf (a ++ b) = (ns ++ namesOf a) ++ namesOf b
    rw [namesOf_append a b, List.append_assoc]
theorem namesOf_names : ∀ ns : List Str, namesOf (ns.map Sum.inl) = ns
  | [] => rfl
  | x :: ns => by
    show x :: namesOf (ns.map Sum.inl) = x :: ns
    rw [namesOf_names ns]
theorem namesOf_take {ps : List Part} {i : Nat} {p : Part} (h : ps[i]? = some p) : namesOf (ps.take (i + 1)) = namesOf (ps.take i) ++ namesOf [p] := by
  rw [List.take_add_one, h, namesOf_append]
  rfl
theorem namesOf_le (ps : List Part) (i : Nat) : (namesOf (ps.take i)).length ≤ (namesOf ps).length := by
  have e := namesOf_append (ps.take i) (ps.drop i)
  rw [List.take_append_drop] at e
  rw [e, List.length_append]
  omega
/-- which sets satisfy -/
def satP (S : List Str) : Part → Bool
  | .inl x => decide (x ∈ S)
  | .inr (c, ns) => decide (c ≤ ((ns.countP fun x => decide (x ∈ S) : Nat) : Int))
def sat (S : List Str) (c : Int) (ps : List Part) : Bool := decide (c ≤ ((ps.countP (satP S) : Nat) : Int))
theorem sat_names (S : List Str) (c : Int) (ns : List Str) : sat S c (ns.map Sum.inl) = satP S (.inr (c, ns)) := by
  unfold sat
  rw [List.countP_map]
  rfl
/-- only the members count -/
theorem satP_same {S S' : List Str} {p : Part} (h : ∀ x ∈ namesOf [p], x ∈ S ↔ x ∈ S') : satP S p = satP S' p := by
  cases p with
  | inl x =>
    have := h x (List.mem_cons_self)
    show decide _ = decide _
    rw [decide_eq_decide]
    exact this
  | inr y =>
    obtain ⟨c, ns⟩ := y
    have e : ns.countP (fun x => decide (x ∈ S)) = ns.countP (fun x => decide (x ∈ S')) := by
      refine List.countP_congr fun x m => ?_
      rw [decide_eq_true_eq, decide_eq_true_eq]
      exact h x (by show x ∈ ns ++ []; rw [List.append_nil]; exact m)
    show decide _ = decide _
    rw [e]
theorem sat_same {S S' : List Str} {c : Int} {ps : List Part} (h : ∀ x ∈ namesOf ps, x ∈ S ↔ x ∈ S') : sat S c ps = sat S' c ps := by
  have e : ps.countP (satP S) = ps.countP (satP S') := by
    refine List.countP_congr fun p m => ?_
    have : satP S p = satP S' p := satP_same fun x mx => h x (by
      obtain ⟨a, b, rfl⟩ := List.append_of_mem m
      rw [namesOf_append, show p :: b = [p] ++ b from rfl, namesOf_append]
      exact List.mem_append_right _ (List.mem_append_left _ mx))
    rw [this]
  unfold sat
  rw [e]
/-- isinstance(part, str) -/
theorem isi_part {K : PySem.W.Frag} {H : Hp} {v : V} {p : Part} (h : PartAt H v p) : ∃ t : Value, TyX K H v t ∧ PySem.W.kitOne K t (.type "str") = some p.isLeft := by
  cases p with
  | inl x =>
    cases h
    exact ⟨.type "str", .base (.str x), kit_ty (r := true) (by decide +kernel)⟩
  | inr y =>
    obtain ⟨c, ns⟩ := y
    obtain ⟨a, p, rfl, h1, h2⟩ := h
    exact ⟨.type "tuple", .base (.tup h1), kit_ty (r := false) (by decide +kernel)⟩
section
variable {P : Program} {w : World} {K : PySem.W.Frag} {mg : Str → Option Value} {base : Heap}
/-! node_set -/
abbrev sNs : Stmt := top 8
theorem scNs : FnScope ["names"] ["names"] (defScope sNs) := ⟨rfl, rfl, rfl, by decide +kernel, rfl, by decide +kernel, by decide +kernel⟩
def spNs (K : PySem.W.Frag) : Sp := fun vs H Q _ => ∃ (l : Addr) (zs : List Str), vs = [.ref l] ∧ SqL K H l (zs.map V.str) ∧ zs.length < 64 ∧
  ∀ (p : Addr) (ys : List Str) (H' : Hp), Same H H' → H p = none → H' p = some (.tup (ys.map V.str)) → sortedS ys = true → ys.Nodup → (∀ x, x ∈ ys ↔ x ∈ zs) → Q (.ref p) H'
theorem ok_ns {f : Addr} {fd : FuncData} {k : Nat} (F : Fun K "node_set" "node_set" sNs f fd) (mt : mg "tuple" = none) (mso : mg "sorted" = none) (mse : mg "set" = none) : FnOk P w K mg base CX0 (k + 1) f fd ["names"] (spNs K) := by
  refine F.ok scNs (fun vs H Q E h => ?_) (fun cdv A outer s H vs Q E hr h => ?_)
  · obtain ⟨l, zs, rfl, _⟩ := h
    rfl
  · obtain ⟨l, zs, rfl, hl, few, q⟩ := h
    refine ⟨_, pss_one (ps_ret (pe_callTy call_tuple_of (by rfl) mt (by decide +kernel) (pa_cons (pe_callB (cr_txtSorted rfl) (by rfl) mso (by decide +kernel)
      (pa_cons (pe_callTy (cr_txtSet rfl) (by rfl) mse (by decide +kernel) (pa_cons (pv 0) pa_nil)) pa_nil)) pa_nil))), ?_⟩
    refine ⟨.ref l, rfl, l, zs, rfl, hl, few, fun a m na hm => ?_⟩
    refine ⟨a, _, m, rfl, upd_same, by omega, fun ys p srt nd mem len np => ?_⟩
    refine ⟨p, _, rfl, .inl ⟨SqL.of upd_same, fun t nt => ?_⟩⟩
    have s1 := same_new (o := TxtSet P w a (fun k => decide (k ∈ zs)) m) na
    have s2 := same_new (o := .lst (ys.map V.str)) np
    have s3 := same_new (o := .tup (ys.map V.str)) nt
    exact q t ys _ ((s1.trans s2).trans s3) ((s1.trans s2).free nt) upd_same srt nd fun x => (mem x).trans (by simp)
end
end Moot
namespace Moot
open PySem PySem.Spec PyProof.Rows L2
/-- a set of names, as a list or a tuple -/
def NodesAt (K : PySem.W.Frag) (H : Hp) (p : Addr) (S : List Str) : Prop := SqL K H p (S.map V.str) ∨ SqT K H p (S.map V.str)
theorem Same.seqT {K : PySem.W.Frag} {H H' : Hp} {a : Addr} {xs : List V} (e : Same H H') (h : SqT K H a xs) : SqT K H' a xs := by
  rcases h with (h | ⟨o, h⟩) | h
  · exact .inl (.inl (e _ _ h))
  · exact .inl (.inr ⟨o, e _ _ h⟩)
  · exact .inr h
theorem NodesAt.same {K : PySem.W.Frag} {H H' : Hp} {p : Addr} {S : List Str} (h : NodesAt K H p S) (s : Same H H') : NodesAt K H' p S := h.imp (Same.seq s) (Same.seqT s)
/-- what the built-in names are -/
structure Blt (mg : Str → Option Value) : Prop where
  isi : mg "isinstance" = none
  str : mg "str" = none
  len : mg "len" = none
  tup : mg "tuple" = none
  lst : mg "list" = none
  srt : mg "sorted" = none
  set : mg "set" = none
  rng : mg "range" = none
  int : mg "int" = none
  bool : mg "bool" = none
  sum : mg "sum" = none
  min : mg "min" = none
  max : mg "max" = none
section
variable {P : Program} {w : World} {K : PySem.W.Frag} {mg : Str → Option Value} {base : Heap}
theorem fn_none {CX : CXT} {f : Addr} {fd : FuncData} {ps : List Str} {sp : Sp} (k : Nat) (h : ∀ vs H Q E, ¬ sp vs H Q E) : FnOk P w K mg base CX k f fd ps sp :=
  ⟨fun vs H Q E y => absurd y (h vs H Q E), fun _ _ _ H _ _ vs Q E _ _ _ _ y => absurd y (h vs H Q E)⟩
/-! names_with_repetition -/
abbrev sNwr : Stmt := top 20
abbrev nNwr : List Str := ["requirement", "names", "part"]
theorem scNwr : FnScope nNwr ["requirement"] (defScope sNwr) := ⟨rfl, rfl, rfl, by decide +kernel, rfl, by decide +kernel, by decide +kernel⟩
def spNwr (D : List Part → Prop) : Sp := fun vs H Q _ => ∃ (r : Addr) (c : Int) (ps : List Part), vs = [.ref r] ∧ ReqAt H r c ps ∧ D ps ∧ (namesOf ps).length ≤ 1000 ∧
  ∀ (p : Addr) (H' : Hp), Same H H' → H p = none → H' p = some (.lst ((namesOf ps).map V.str)) → Q (.ref p) H'
theorem ok_nwr {D0 D : List Part → Prop} {f : Addr} {fd : FuncData} {k : Nat} (F : Fun K "names_with_repetition" "names_with_repetition" sNwr f fd) (bN : Binds K fd ["requirement"] []) (gN : mg "names_with_repetition" = some (.ref f)) (T : Blt mg)
    (G : FnOk P w K mg base CX0 k f fd ["requirement"] (spNwr D0)) (imp : ∀ ps, D ps → ∀ c ns, Sum.inr (c, ns) ∈ ps → D0 (ns.map Sum.inl)) : FnOk P w K mg base CX0 (k + 1) f fd ["requirement"] (spNwr D) := by
  refine F.ok scNwr (fun vs H Q E h => ?_) (fun cdv A outer s H vs Q E hr h => ?_)
  · obtain ⟨r, c, ps, rfl, _⟩ := h
    rfl
  · obtain ⟨r, c, ps, rfl, R, hD, few, q⟩ := h
    refine ⟨_, pss_cons (ps_set (i := 1) scNwr.nd rfl (Or.inl rfl) (pe_lst pa_nil))
      (pss_cons (ps_for PassesOwn.never rfl (pi_tup (pe_ix ix_tup (pv 0) pe_int (fun _ _ => rfl))) (pg_name (i := 2) scNwr.nd rfl (Or.inl rfl))
        (pss_one (ps_if (pt_val (pe_callB call_isi (by rfl) T.isi (by decide +kernel) (pa_cons (pv 2) (pa_cons (pe_bltn (v := .ty "str") (by rfl) T.str (by decide +kernel) rfl) pa_nil))))
          (pss_one (ps_expr (pe_bm PySem.F.plainAttrs_list PySem.F.slot_list_append PySem.F.type_list_append mt_append (pv 1) (pa_cons (pv 2) pa_nil))))
          (pss_one (ps_expr (pe_bm PySem.F.plainAttrs_list PySem.F.slot_list_extend PySem.F.type_list_extend mt_extend (pv 1) (pa_cons (pe_call G hr (by rfl) gN F.kp bN .nil pass0 (pa_cons (pv 2) pa_nil)) pa_nil)))))))
      (pss_one (ps_ret (pv 1)))), ?_⟩
    obtain ⟨pp, vs, hr1, hp1, PS⟩ := R
    refine ⟨Nat.zero_le _, fun l nl => ?_⟩
    have s1 : Same H (upd H l (.lst [])) := same_new nl
    refine ⟨.ref r, rfl, r, _, 1, .ref pp, rfl, rfl, SqT.of (s1 _ _ hr1), atI_nat (j := 1) rfl, pp, rfl, ⟨_, (hp1.tups (Same.tups s1)).seq⟩, for_tup (K := K) (a := pp) (xs := vs) (fun i σ H1 => ∃ y2 : Option V, σ = [some (.ref r), some (.ref l), y2] ∧
      Same H H1 ∧ H1 l = some (.lst ((namesOf (ps.take i)).map V.str))) ⟨none, rfl, s1, upd_same⟩ (fun i σ H1 _ ⟨_, _, s2, _⟩ => (hp1.tups (Same.tups s2)).seq) ?_ ?_⟩
    · rintro i x σ H1 hx ⟨y2, rfl, s2, h1⟩
      obtain ⟨p, hp, pa⟩ := PS.at hx
      have pa1 := pa.tups (Same.tups s2).tup
      have e := namesOf_take hp
      have le := namesOf_le ps (i + 1)
      have le0 := namesOf_le ps i
      obtain ⟨ty, ty1, ty2⟩ := isi_part (K := K) pa1
      refine ⟨x, rfl, _, _, ty, .type "str", _, rfl, .ty _, ty1, ty2, _, rfl, ?_⟩
      cases p with
      | inl z =>
        cases pa
        refine iteT ⟨.ref l, rfl, .inl ⟨rfl, _, SqL.of h1⟩, .str z, rfl, l, _, _, rfl, rfl, h1, ?_, _, rfl, fun d o c => ?_, ?_⟩
        · rw [List.length_map]
          exact small1000 (by omega)
        · rw [upd_ne (ne_of_none c nl)]
          exact s2 d o c
        · rw [upd_same, e, List.map_append]
          rfl
      | inr y =>
        obtain ⟨c', ns⟩ := y
        obtain ⟨q', rfl, R'⟩ := pa1.req
        have mem : Sum.inr (c', ns) ∈ ps := List.mem_of_getElem? hp
        have en : namesOf (ns.map Sum.inl) = ns := namesOf_names ns
        have e1 : namesOf [(Sum.inr (c', ns) : Part)] = ns := List.append_nil ns
        rw [e1] at e
        have lens := congrArg List.length e
        rw [List.length_append] at lens
        refine iteF ⟨.ref l, rfl, .inl ⟨rfl, _, SqL.of h1⟩, .ref q', rfl, q', c', ns.map Sum.inl, rfl, R', imp ps hD c' ns mem, by rw [en]; omega, fun p2 H2 s3 np2 h2 => ?_⟩
        rw [en] at h2
        refine ⟨l, p2, _, _, rfl, rfl, s3 _ _ h1, h2, ?_, _, rfl, fun d o c => ?_, ?_⟩
        · rw [List.length_map, List.length_map]
          exact Nat.le_of_lt (small1000 (by omega))
        · rw [upd_ne (ne_of_none c nl)]
          exact s3 _ _ (s2 d o c)
        · rw [upd_same, e, List.map_append]
    · rintro σ H1 ⟨y2, rfl, s2, h1⟩
      rw [PS.length, List.take_length] at h1
      exact ⟨.ref l, rfl, q l H1 s2 nl h1⟩
/-! names_in -/
abbrev sNin : Stmt := top 21
theorem scNin : FnScope ["requirement"] ["requirement"] (defScope sNin) := ⟨rfl, rfl, rfl, by decide +kernel, rfl, by decide +kernel, by decide +kernel⟩
def spNin : Sp := fun vs H Q _ => ∃ (r : Addr) (c : Int) (ps : List Part), vs = [.ref r] ∧ ReqAt H r c ps ∧ (namesOf ps).length < 64 ∧
  ∀ (p : Addr) (ys : List Str) (H' : Hp), Same H H' → H p = none → H' p = some (.tup (ys.map V.str)) → sortedS ys = true → ys.Nodup → (∀ x, x ∈ ys ↔ x ∈ namesOf ps) → Q (.ref p) H'
theorem ok_nin {f fN fW : Addr} {fd fdN fdW : FuncData} {k : Nat} (F : Fun K "names_in" "names_in" sNin f fd) (FN : Fun K "node_set" "node_set" sNs fN fdN) (bN : Binds K fdN ["names"] []) (gN : mg "node_set" = some (.ref fN))
    (FW : Fun K "names_with_repetition" "names_with_repetition" sNwr fW fdW) (bW : Binds K fdW ["requirement"] []) (gW : mg "names_with_repetition" = some (.ref fW)) (GN : FnOk P w K mg base CX0 k fN fdN ["names"] (spNs K)) (GW : FnOk P w K mg base CX0 k fW fdW ["requirement"] (spNwr fun _ => True)) :
    FnOk P w K mg base CX0 (k + 1) f fd ["requirement"] spNin := by
  refine F.ok scNin (fun vs H Q E h => ?_) (fun cdv A outer s H vs Q E hr h => ?_)
  · obtain ⟨r, c, ps, rfl, _⟩ := h
    rfl
  · obtain ⟨r, c, ps, rfl, R, few, q⟩ := h
    refine ⟨_, pss_one (ps_ret (pe_call GN hr (by rfl) gN FN.kp bN .nil pass0 (pa_cons (pe_call GW hr (by rfl) gW FW.kp bW .nil pass0 (pa_cons (pv 0) pa_nil)) pa_nil))), ?_⟩
    refine ⟨.ref r, rfl, r, c, ps, rfl, R, trivial, by omega, fun l H1 s1 nl h1 => ?_⟩
    exact ⟨l, _, rfl, SqL.of h1, few, fun p ys H2 s2 np h2 a1 a2 a3 => q p ys H2 (s1.trans s2) (s1.free np) h2 a1 a2 a3⟩
end
end Moot
namespace Moot
open PySem PySem.Spec PyProof.Rows L2
/-- the names that are left -/
def outs (S : List Str) (ps : List Part) : List Str := (namesOf ps).filter fun x => decide (x ∉ S)
def blk (S : List Str) (c : Int) (ps : List Part) : Bool := !sat (outs S ps) c ps
theorem sat_outs {S zs : List Str} {c : Int} {ps : List Part} (h : ∀ x, x ∈ zs ↔ x ∈ namesOf ps) : sat (zs.filter fun x => decide (x ∉ S)) c ps = sat (outs S ps) c ps := by
  refine sat_same fun x _ => ?_
  unfold outs
  rw [List.mem_filter, List.mem_filter, h x]
/-- every inner one is short -/
def Short (ps : List Part) : Prop := ∀ c ns, Sum.inr (c, ns) ∈ ps → ns.length ≤ 1000
def ShortP (p : Part) : Prop := ∀ c ns, p = .inr (c, ns) → ns.length ≤ 1000
theorem Short.p {ps : List Part} (h : Short ps) : ∀ p ∈ ps, ShortP p := fun p m c ns e => h c ns (e ▸ m)
def AllNames (ps : List Part) : Prop := ∀ p ∈ ps, p.isLeft = true
theorem allNames (ns : List Str) : AllNames (ns.map Sum.inl) := fun p m => by
  obtain ⟨x, _, rfl⟩ := List.mem_map.mp m
  rfl
theorem nodup_le : ∀ {l D : List Str}, l.Nodup → (∀ y ∈ l, y ∈ D) → l.length ≤ D.length
  | [], _, _, _ => Nat.zero_le _
  | y :: l, D, n, s => by
    obtain ⟨n1, n2⟩ := List.nodup_cons.mp n
    have my := s y List.mem_cons_self
    have := nodup_le (D := D.erase y) n2 fun z mz => (List.mem_erase_of_ne fun (e : z = y) => n1 (e ▸ mz)).mpr (s z (List.mem_cons_of_mem _ mz))
    have e := List.length_erase_of_mem my
    have := List.length_pos_of_mem my
    rw [List.length_cons]
    omega
section
variable {P : Program} {w : World} {K : PySem.W.Frag} {mg : Str → Option Value} {base : Heap}
/-- satisfies, for all requirements -/
theorem ok_nwr_all {f : Addr} {fd : FuncData} (F : Fun K "names_with_repetition" "names_with_repetition" sNwr f fd) (b : Binds K fd ["requirement"] []) (g : mg "names_with_repetition" = some (.ref f)) (T : Blt mg) : FnOk P w K mg base CX0 2 f fd ["requirement"] (spNwr fun _ => True) := by
  have g0 : FnOk P w K mg base CX0 0 f fd ["requirement"] (spNwr fun _ => False) := fn_none 0 fun vs H Q E ⟨r, c, ps, _, _, h, _⟩ => h
  have g1 : FnOk P w K mg base CX0 1 f fd ["requirement"] (spNwr AllNames) := ok_nwr F b g T g0 fun ps h c ns m => by
    have := h _ m
    cases this
  exact ok_nwr F b g T g1 fun ps _ c ns m => allNames ns
/-! _law_names_in -/
abbrev sLni : Stmt := top 35
abbrev nLni : List Str := ["_law_requirement_here", "_law_found", "_law_part"]
theorem scLni : FnScope nLni ["_law_requirement_here"] (defScope sLni) := ⟨rfl, rfl, rfl, by decide +kernel, rfl, by decide +kernel, by decide +kernel⟩
theorem ok_lni {f : Addr} {fd : FuncData} {k : Nat} (F : Fun K "_law_names_in" "_law_names_in" sLni f fd) (T : Blt mg) : FnOk P w K mg base CX0 (k + 1) f fd ["_law_requirement_here"] (spNwr fun _ => True) := by
  refine F.ok scLni (fun vs H Q E h => ?_) (fun cdv A outer s H vs Q E hr h => ?_)
  · obtain ⟨r, c, ps, rfl, _⟩ := h
    rfl
  · obtain ⟨r, c, ps, rfl, R, hD, few, q⟩ := h
    refine ⟨_, pss_cons (ps_set (i := 1) scLni.nd rfl (Or.inl rfl) (pe_lst pa_nil))
      (pss_cons (ps_for PassesOwn.never rfl (pi_tup (pe_ix ix_tup (pv 0) pe_int (fun _ _ => rfl))) (pg_name (i := 2) scLni.nd rfl (Or.inl rfl))
        (pss_one (ps_expr (pe_bm PySem.F.plainAttrs_list PySem.F.slot_list_extend PySem.F.type_list_extend mt_extend (pv 1) (pa_cons
          (pe_ifExp (pt_val (pe_callB call_isi (by rfl) T.isi (by decide +kernel) (pa_cons (pv 2) (pa_cons (pe_bltn (v := .ty "str") (by rfl) T.str (by decide +kernel) rfl) pa_nil))))
            (pe_lst (pa_cons (pv 2) pa_nil)) (pe_callTy call_list_of (by rfl) T.lst (by decide +kernel) (pa_cons (pe_ix ix_tup (pv 2) pe_int (fun _ _ => rfl)) pa_nil))) pa_nil)))))
      (pss_one (ps_ret (pv 1)))), ?_⟩
    obtain ⟨pp, vs, hr1, hp1, PS⟩ := R
    refine ⟨Nat.zero_le _, fun l nl => ?_⟩
    have s1 : Same H (upd H l (.lst [])) := same_new nl
    refine ⟨.ref r, rfl, r, _, 1, .ref pp, rfl, rfl, SqT.of (s1 _ _ hr1), atI_nat (j := 1) rfl, pp, rfl, ⟨_, (hp1.tups (Same.tups s1)).seq⟩, for_tup (K := K) (a := pp) (xs := vs) (fun i σ H1 => ∃ y2 : Option V, σ = [some (.ref r), some (.ref l), y2] ∧
      Same H H1 ∧ H1 l = some (.lst ((namesOf (ps.take i)).map V.str))) ⟨none, rfl, s1, upd_same⟩ (fun i σ H1 _ ⟨_, _, s2, _⟩ => (hp1.tups (Same.tups s2)).seq) ?_ ?_⟩
    · rintro i x σ H1 hx ⟨y2, rfl, s2, h1⟩
      obtain ⟨p, hp, pa⟩ := PS.at hx
      have pa1 := pa.tups (Same.tups s2).tup
      have e := namesOf_take hp
      have le := namesOf_le ps (i + 1)
      obtain ⟨ty, ty1, ty2⟩ := isi_part (K := K) pa1
      have lens := congrArg List.length e
      rw [List.length_append] at lens
      -- what stands behind extend
      have fin : ∀ (t : Addr) (H2 : Hp), Same H1 H2 → H2 t = some (.lst ((namesOf [p]).map V.str)) → ∃ l' b xs zs, V.ref l = .ref l' ∧ [V.ref t] = [.ref b] ∧ H2 l' = some (.lst xs) ∧ H2 b = some (.lst zs) ∧ xs.length + zs.length ≤ sizeLine ∧
          ∃ y2 : Option V, [some (.ref r), some (.ref l), some x] = [some (.ref r), some (.ref l), y2] ∧ Same H (upd H2 l' (.lst (xs ++ zs))) ∧ (upd H2 l' (.lst (xs ++ zs))) l = some (.lst ((namesOf (ps.take (i + 1))).map V.str)) := fun t H2 s3 h2 => by
        refine ⟨l, t, _, _, rfl, rfl, s3 _ _ h1, h2, ?_, some x, rfl, fun d o c => ?_, ?_⟩
        · rw [List.length_map, List.length_map]
          exact Nat.le_of_lt (small1000 (by omega))
        · rw [upd_ne (ne_of_none c nl)]
          exact s3 _ _ (s2 d o c)
        · rw [upd_same, e, List.map_append]
      refine ⟨.ref l, rfl, .inl ⟨rfl, _, SqL.of h1⟩, x, rfl, _, _, ty, .type "str", _, rfl, .ty _, ty1, ty2, _, rfl, ?_⟩
      cases p with
      | inl z =>
        cases pa
        exact iteT ⟨.str z, rfl, by show 1 ≤ sizeLine; decide, fun t nt => fin t _ (same_new nt) upd_same⟩
      | inr y =>
        obtain ⟨c', ns⟩ := y
        obtain ⟨a, p', rfl, g1, g2⟩ := pa1
        have e1 : namesOf [(Sum.inr (c', ns) : Part)] = ns := List.append_nil ns
        rw [e1] at fin
        exact iteF ⟨.ref a, rfl, a, _, 1, .ref p', rfl, rfl, SqT.of g1, atI_nat (j := 1) rfl, p', _, rfl, .inr (SqT.of g2), fun t nt => fin t _ (same_new nt) upd_same⟩
    · rintro σ H1 ⟨y2, rfl, s2, h1⟩
      rw [PS.length, List.take_length] at h1
      exact ⟨.ref l, rfl, q l H1 s2 nl h1⟩
end
end Moot
namespace Moot
open PySem PySem.Spec PyProof.Rows L2
section
variable {P : Program} {w : World} {K : PySem.W.Frag} {mg : Str → Option Value} {base : Heap}
/-! _law_listed -/
abbrev sLis : Stmt := top 36
abbrev nLis : List Str := ["_law_parts", "_law_part"]
theorem scLis : FnScope nLis ["_law_parts"] (defScope sLis) := ⟨rfl, rfl, rfl, by decide +kernel, rfl, by decide +kernel, by decide +kernel⟩
def spLis : Sp := fun vs H Q _ => ∃ (l : Addr) (us : List V) (ps : List Part), vs = [.ref l] ∧ H l = some (.lst us) ∧ Parts H us ps ∧ ps.length ≤ 900 ∧ ∀ H' : Hp, Same H H' → Q (.int ((namesOf ps).length : Nat)) H'
theorem sum_push : ∀ (ns : List Int) (z : Int), (ns ++ [z]).sum = ns.sum + z
  | [], z => by simp
  | n :: ns, z => by
    rw [List.cons_append, List.sum_cons, List.sum_cons, sum_push ns z]
    omega
theorem ok_lis {f : Addr} {fd : FuncData} {k : Nat} (F : Fun K "_law_listed" "_law_listed" sLis f fd) (T : Blt mg) : FnOk P w K mg base CX0 (k + 1) f fd ["_law_parts"] spLis := by
  refine F.ok scLis (fun vs H Q E h => ?_) (fun cdv A outer s H vs Q E hr h => ?_)
  · obtain ⟨l, us, ps, rfl, _⟩ := h
    rfl
  · obtain ⟨l, us, ps, rfl, hl, PS, few, q⟩ := h
    refine ⟨_, pss_one (ps_ret (pe_callB (cr_sum rfl) (by rfl) T.sum (by decide +kernel) (pa_cons
      (pe_lc (own := [("_law_part", 1)]) (g := gName 1) (tt := tYes) (by rfl) scLis.nd (pi_list (pv 0)) (blkOk_by (N := nLis) (sc := defScope sLis) (by decide +kernel))
        (fun _ _ _ _ _ => pg_name (i := 1) scLis.nd rfl (Or.inl rfl)) (fun _ _ _ _ _ => pts_nil)
        (fun _ _ _ _ _ => pe_ifExp (pt_val (pe_callB (show CallR _ (.builtin "isinstance") (rIsi K) from call_isi) (by rfl) T.isi (by decide +kernel) (pa_cons (pv 1) (pa_cons (pe_bltn (v := .ty "str") (by rfl) T.str (by decide +kernel) rfl) pa_nil)))) pe_int
          (pe_callB (show CallR _ (.builtin "len") (rLen K) from call_len_seq) (by rfl) T.len PySem.boot_len (pa_cons (pe_ix (show IxR _ (rIxT K) from ix_tup) (pv 1) pe_int (fun _ _ => rfl)) pa_nil)))) pa_nil))), ?_⟩
    refine ⟨.ref l, rfl, l, rfl, ⟨_, SqL.of hl⟩, fun D nD => lc_list (K := K) (a := l) (xs := us) (fun i H1 => Same H H1 ∧ ∃ ns : List Int, H1 D = some (.lst (ns.map V.int)) ∧ ns.length = i ∧ ns.sum = ((namesOf (ps.take i)).length : Nat)) ?_ (fun i H1 _ h => SqL.of (h.1 _ _ hl)) ?_ ?_⟩
    · exact ⟨same_new nD, [], upd_same, rfl, rfl⟩
    · rintro i x H1 hx ⟨s1, ns, hD, ln, sm⟩
      have lt := (List.getElem?_eq_some_iff.mp hx).1
      rw [PS.length] at lt
      obtain ⟨p, hp, pa⟩ := PS.at hx
      have pa1 := pa.tups (Same.tups s1).tup
      obtain ⟨ty, ty1, ty2⟩ := isi_part (K := K) pa1
      have room : (ns.map V.int).length < sizeLine := by
        rw [List.length_map]
        exact small1000 (by omega)
      have nt := congrArg List.length (namesOf_take hp)
      rw [List.length_append] at nt
      have fin : ∀ z : Int, z = ((namesOf [p]).length : Nat) → Same H (upd H1 D (.lst (ns.map V.int ++ [.int z]))) ∧ ∃ ns : List Int, upd H1 D (.lst (_ ++ [.int z])) D = some (.lst (ns.map V.int)) ∧ ns.length = i + 1 ∧ ns.sum = ((namesOf (ps.take (i + 1))).length : Nat) := fun z hz => by
        refine ⟨fun d o e => ?_, ns ++ [z], ?_, ?_, by rw [sum_push, sm, hz, nt]; omega⟩
        · rw [upd_ne (ne_of_none e nD)]
          exact s1 d o e
        · rw [upd_same, List.map_append]
          rfl
        · rw [List.length_append, ln]
          rfl
      refine ⟨rfl, x, rfl, _, _, ty, .type "str", _, rfl, .ty _, ty1, ty2, _, rfl, ?_⟩
      cases p with
      | inl z => exact iteT ⟨_, hD, room, fin 1 rfl⟩
      | inr y =>
        obtain ⟨c', ms⟩ := y
        obtain ⟨a, p', rfl, g1, g2⟩ := pa1
        exact iteF ⟨.ref a, rfl, a, _, 1, .ref p', rfl, rfl, SqT.of g1, atI_nat (j := 1) rfl, p', _, rfl, .inr (SqT.of g2), _, hD, room, fin _ (by rw [List.length_map, show namesOf [(Sum.inr (c', ms) : Part)] = ms from List.append_nil ms])⟩
    · rintro H1 ⟨s1, ns, hD, ln, sm⟩
      rw [PS.length, List.take_length] at sm
      refine ⟨D, ns, rfl, SqL.of hD, ?_⟩
      rw [sm]
      exact q H1 s1
end
end Moot
namespace Moot
open PySem PySem.Spec PyProof.Rows L2
/-! parts as data -/
def partD : Part → PyData
  | .inl x => .str x
  | .inr (c, ns) => .tuple [.int c, .tuple (ns.map PyData.str)]
theorem dp_strs {K : PySem.W.Frag} {H : Hp} : ∀ ns : List Str, DpAll K H (ns.map V.str) (ns.map PyData.str)
  | [] => .nil
  | x :: ns => .cons (.str x) (dp_strs ns)
theorem PartAt.dp {K : PySem.W.Frag} {H : Hp} {v : V} {p : Part} (h : PartAt H v p) : Dp K H v (partD p) := by
  cases p with
  | inl x =>
    cases h
    exact .str x
  | inr y =>
    obtain ⟨c, ns⟩ := y
    obtain ⟨q, p, rfl, h1, h2⟩ := h
    exact .tup (SqT.of h1) (.cons (.int c) (.cons (.tup (SqT.of h2) (dp_strs ns)) .nil))
theorem Parts.dp {K : PySem.W.Frag} {H : Hp} {vs : List V} {ps : List Part} (h : Parts H vs ps) : DpAll K H vs (ps.map partD) := by
  induction h with
  | nil => exact .nil
  | cons a _ ih => exact .cons a.dp ih
/-- a drawn part of a requirement over the names xs -/
def Good (xs : List Str) : Part → Prop
  | .inl x => x ∈ xs
  | .inr (c, ns) => 1 ≤ ns.length ∧ ns.length ≤ 8 ∧ 1 ≤ c ∧ c ≤ ns.length ∧ (xs.Nodup → ns.Nodup) ∧ ∀ y ∈ ns, y ∈ xs
theorem lay_strs : ∀ {ns : List Str}, (∀ y ∈ ns, PyData.strOk y = true) → PyData.canLayAll0 (ns.map PyData.str) = true
  | [], _ => rfl
  | x :: ns, h => by
    show (PyData.strOk x && PyData.canLayAll0 (ns.map PyData.str)) = true
    rw [h x List.mem_cons_self, lay_strs fun y m => h y (List.mem_cons_of_mem _ m)]
    rfl
theorem depth_strs : ∀ ns : List Str, PyData.depthAll (ns.map PyData.str) = 0
  | [] => rfl
  | x :: ns => by
    show max 0 (PyData.depthAll (ns.map PyData.str)) = 0
    rw [depth_strs ns]
    rfl
theorem Good.lay {xs : List Str} (ok : ∀ x ∈ xs, PyData.strOk x = true) {p : Part} (h : Good xs p) : PyData.canLay0 (partD p) = true ∧ PyData.depth (partD p) ≤ 2 := by
  cases p with
  | inl x => exact ⟨ok x h, Nat.zero_le _⟩
  | inr y =>
    obtain ⟨c, ns⟩ := y
    have l := lay_strs fun y m => ok y (h.2.2.2.2.2 y m)
    refine ⟨?_, ?_⟩
    · show (true && (PyData.canLayAll0 (ns.map PyData.str) && true)) = true
      rw [l]
      rfl
    · show max 0 (max (PyData.depthAll (ns.map PyData.str) + 1) 0) + 1 ≤ 2
      rw [depth_strs]
      decide
theorem goods_lay {xs : List Str} (ok : ∀ x ∈ xs, PyData.strOk x = true) : ∀ {ps : List Part}, (∀ p ∈ ps, Good xs p) → PyData.canLayAll0 (ps.map partD) = true ∧ PyData.depthAll (ps.map partD) ≤ 2
  | [], _ => ⟨rfl, Nat.zero_le _⟩
  | p :: ps, h => by
    obtain ⟨a1, a2⟩ := Good.lay ok (h p List.mem_cons_self)
    obtain ⟨b1, b2⟩ := goods_lay ok fun q m => h q (List.mem_cons_of_mem _ m)
    refine ⟨?_, ?_⟩
    · show (PyData.canLay0 (partD p) && PyData.canLayAll0 (ps.map partD)) = true
      rw [a1, b1]
      rfl
    · show max (PyData.depth (partD p)) (PyData.depthAll (ps.map partD)) ≤ 2
      omega
theorem shaped_part {xs : List Str} (ok : ∀ x ∈ xs, PyData.strOk x = true) {p : Part} (h : Good xs p) : SeqAt.shaped (partD p) = true := by
  obtain ⟨a1, a2⟩ := Good.lay ok h
  unfold SeqAt.shaped
  rw [a1, decide_eq_true (by omega : PyData.depth (partD p) ≤ 64)]
  rfl
theorem shaped_parts {xs : List Str} (ok : ∀ x ∈ xs, PyData.strOk x = true) {ps : List Part} (h : ∀ p ∈ ps, Good xs p) : SeqAt.shaped (.list (ps.map partD)) = true := by
  obtain ⟨a1, a2⟩ := goods_lay ok h
  unfold SeqAt.shaped
  have d : PyData.depth (.list (ps.map partD)) ≤ 64 := by
    show PyData.depthAll (ps.map partD) + 1 ≤ 64
    omega
  rw [decide_eq_true d]
  show (PyData.canLayAll0 (ps.map partD) && true) = true
  rw [a1]
  rfl
/-- a drawn list of parts -/
structure Fine (xs : List Str) (len names : Nat) (ps : List Part) : Prop where
  all : ∀ p ∈ ps, Good xs p
  len : ps.length ≤ len
  nam : (namesOf ps).length ≤ names
  nd : xs.Nodup → ps.Nodup
theorem namesOf_sub {qs ps : List Part} (h : qs.Sublist ps) : (namesOf qs).length ≤ (namesOf ps).length := by
  have one : ∀ (a : Part) (r : List Part), (namesOf (a :: r)).length = (namesOf [a]).length + (namesOf r).length := fun a r => by
    rw [show a :: r = [a] ++ r from rfl, namesOf_append, List.length_append]
  induction h with
  | slnil => exact Nat.le_refl _
  | cons a _ ih =>
    rw [one]
    omega
  | @cons_cons l1 l2 a _ ih =>
    have e1 := one a l1
    have e2 := one a l2
    omega
theorem inl_nodup {ys : List Str} (h : ys.Nodup) : (ys.map (Sum.inl : Str → Part)).Nodup := List.Pairwise.map _ (fun a b ne e => ne (Sum.inl.inj e)) h
theorem not_among {ps : List Part} {p : Part} (lay : PyData.canLay0 (partD p) = true) (h : (!((ps.map partD).any fun d => PyData.eqv d (partD p))) = true) : p ∉ ps := fun m => by
  have : ((ps.map partD).any fun d => PyData.eqv d (partD p)) = true := List.any_eq_true.mpr ⟨partD p, List.mem_map_of_mem m, SeqAt.eqv_refl _ lay⟩
  rw [this] at h
  cases h
theorem Parts.append {H : Hp} {us vs : List V} {ps qs : List Part} (h : Parts H us ps) (h2 : Parts H vs qs) : Parts H (us ++ vs) (ps ++ qs) := by
  induction h with
  | nil => exact h2
  | cons a _ ih => exact .cons a ih
theorem Parts.cut {H : Hp} {us : List V} {ps : List Part} (h : Parts H us ps) : ∀ j, Parts H (us.take j) (ps.take j) ∧ Parts H (us.drop j) (ps.drop j) := by
  induction h with
  | nil => intro j; exact ⟨by simpa using Parts.nil, by simpa using Parts.nil⟩
  | cons a b ih =>
    intro j
    cases j with
    | zero => exact ⟨.nil, .cons a b⟩
    | succ j => exact ⟨.cons a (ih j).1, (ih j).2⟩
theorem five {v : Int} (h0 : 0 ≤ v) (h1 : v < 5) : ∃ s : Int, atI [V.int 0, V.int 0, V.int 1, V.int 2, V.int 4] v = some (.int s) ∧ 0 ≤ s ∧ s ≤ 4 := by
  have c : v = 0 ∨ v = 1 ∨ v = 2 ∨ v = 3 ∨ v = 4 := by omega
  rcases c with rfl | rfl | rfl | rfl | rfl
  · exact ⟨0, rfl, by decide, by decide⟩
  · exact ⟨0, rfl, by decide, by decide⟩
  · exact ⟨1, rfl, by decide, by decide⟩
  · exact ⟨2, rfl, by decide, by decide⟩
  · exact ⟨4, rfl, by decide, by decide⟩
theorem cut_to (ys : List Str) {j : Int} (h : 0 ≤ j) : cutV (ys.map V.str) none (some j) = (ys.take j.toNat).map V.str := by
  obtain ⟨n, rfl⟩ := Int.eq_ofNat_of_zero_le h
  unfold cutV
  rw [HT.sIx_none, HT.sIx_nat]
  show ((ys.map V.str).drop 0).take (min n (ys.map V.str).length - 0) = _
  rw [List.drop_zero, Nat.sub_zero, List.map_take, List.length_map]
  show _ = (ys.map V.str).take n
  rw [List.take_eq_take_iff, List.length_map]
  omega
/-- the drawn names do not stand at the box -/
theorem Box.apart {H : Hp} {b g m p : Addr} {n : Nat} {xs : List Str} (B : Box H b g m n) (h : GLs H p (xs.map V.str)) : p ≠ b ∧ p ≠ g := by
  obtain ⟨o, _, h⟩ := h
  obtain ⟨x, c, gs, ms, hb, hg, _⟩ := B.ex
  exact ⟨fun e => (by rw [e, hb] at h; cases h), fun e => (by rw [e, hg] at h; cases h)⟩
section
variable {P : Program} {w : World} {K : PySem.W.Frag} {mg : Str → Option Value} {base : Heap}
/-! _law_requirement -/
abbrev sReq : Stmt := top 33
abbrev nReq : List Str := ["_law_box_here", "_law_names_here", "_law_parts", "_law_k", "_law_inner", "_law_part"]
theorem scReq : FnScope nReq ["_law_box_here", "_law_names_here"] (defScope sReq) := ⟨rfl, rfl, rfl, by decide +kernel, rfl, by decide +kernel, by decide +kernel⟩
/-- a requirement whose tuple of parts is known -/
def ReqG (H : Hp) (r : Addr) (c : Int) (ps : List Part) : Prop := ∃ p vs, H r = some (.tup [.int c, .ref p]) ∧ GTp H p vs ∧ Parts H vs ps
theorem ReqG.at {H : Hp} {r : Addr} {c : Int} {ps : List Part} (h : ReqG H r c ps) : ReqAt H r c ps := let ⟨p, vs, a, b, d⟩ := h; ⟨p, vs, a, .inl b, d⟩
theorem ReqG.tups {H H' : Hp} {r : Addr} {c : Int} {ps : List Part} (h : ReqG H r c ps) (t : Tups H H') : ReqG H' r c ps := by
  obtain ⟨p, vs, a, ⟨o, g, e⟩, d⟩ := h
  exact ⟨p, vs, t.tup _ _ a, ⟨o, g, t.frz _ _ _ e⟩, d.tups t.tup⟩
def spReq : Sp := fun vs H Q _ => ∃ (b g m vp : Addr) (n : Nat) (xs : List Str), vs = [.ref b, .ref vp] ∧ Box H b g m n ∧ n ≤ 800000 ∧ GLs H vp (xs.map V.str) ∧ 1 ≤ xs.length ∧ xs.length ≤ 8 ∧ (∀ x ∈ xs, Nm x) ∧
  ∀ (r : Addr) (c : Int) (ps : List Part) (H' : Hp), H r = none → ReqG H' r c ps → Fine xs 12 12 ps → 1 ≤ c → c ≤ ps.length → Box H' b g m (n + 100) → Keep b g H H' → Q (.ref r) H'
/-- the list of the parts: known, or without texts -/
def Lst (H : Hp) (l : Addr) (us : List V) : Prop := GLs H l us ∨ (H l = some (.lst us) ∧ ∀ x ∈ us, ∃ a, x = V.ref a)
theorem Lst.seq {K : PySem.W.Frag} {H : Hp} {l : Addr} {us : List V} (h : Lst H l us) : SqL K H l us := h.elim (fun h => h.seq) fun h => SqL.of h.1
theorem ok_req {f fT fS fC fL : Addr} {fd fdT fdS fdC fdL : FuncData} {k : Nat} (F : Fun K "_law_requirement" "_law_requirement" sReq f fd)
    (FT : Fun K "_law_take" "_law_take" sTake fT fdT) (bT : Binds K fdT ["_law_box_here", "_law_size"] []) (gT : mg "_law_take" = some (.ref fT)) (GT : FnOk P w K mg base CX0 k fT fdT ["_law_box_here", "_law_size"] spTake)
    (FS : Fun K "_law_some" "_law_some" sSome fS fdS) (bS : Binds K fdS ["_law_box_here", "_law_values"] []) (gS : mg "_law_some" = some (.ref fS)) (GS : FnOk P w K mg base CX0 k fS fdS ["_law_box_here", "_law_values"] spSome)
    (FC : Fun K "_law_count" "_law_count" sCount fC fdC) (bC : Binds K fdC ["_law_box_here", "_law_many"] []) (gC : mg "_law_count" = some (.ref fC)) (GC : FnOk P w K mg base CX0 k fC fdC ["_law_box_here", "_law_many"] spCount)
    (FL : Fun K "_law_listed" "_law_listed" sLis fL fdL) (bL : Binds K fdL ["_law_parts"] []) (gL : mg "_law_listed" = some (.ref fL)) (GL : FnOk P w K mg base CX0 k fL fdL ["_law_parts"] spLis) (hk : 1 ≤ k) (T : Blt mg) :
    FnOk P w K mg base CX0 (k + 1) f fd ["_law_box_here", "_law_names_here"] spReq := by
  refine F.ok scReq (fun vs H Q E h => ?_) (fun cdv A outer s H vs Q E hr h => ?_)
  · obtain ⟨b, g, m, vp, n, xs, rfl, _⟩ := h
    rfl
  · obtain ⟨b, g, m, vp, n, xs, rfl, B, hn, hv, x1, x8, nm, q⟩ := h
    have hu : (A.deeper (envOfC "_law_requirement" (defScope sReq) s.heap.objs.size f cdv)).units + 65 < cLine := by
      have := hr.un
      omega
    refine ⟨_, pss_cons (ps_set (i := 2) scReq.nd rfl (Or.inl rfl) (pe_call GS hr (by rfl) gS FS.kp bS .nil pass0 (pa_cons (pv 0) (pa_cons (pv 1) pa_nil))))
      (pss_cons (ps_for PassesOwn.never rfl (pi_range1 rfl T.rng (pa_cons (pe_ix ix_list (pe_lst (pa_cons pe_int (pa_cons pe_int (pa_cons pe_int (pa_cons pe_int (pa_cons pe_int pa_nil)))))) (pe_call GT hr (by rfl) gT FT.kp bT .nil pass0 (pa_cons (pv 0) (pa_cons pe_int pa_nil))) (fun _ _ => rfl)) pa_nil)) (pg_name (i := 3) scReq.nd rfl (Or.inl rfl))
        (pss_cons (ps_set (i := 4) scReq.nd rfl (Or.inl rfl) (pe_slice sl_list (pe_call GS hr (by rfl) gS FS.kp bS .nil pass0 (pa_cons (pv 0) (pa_cons (pv 1) pa_nil))) po_none (po_some (pe_op op_add pe_int (pe_call GT hr (by rfl) gT FT.kp bT .nil pass0 (pa_cons (pv 0) (pa_cons pe_int pa_nil)))))))
        (pss_cons (ps_set (i := 5) scReq.nd rfl (Or.inl rfl) (pe_tup (pa_cons (pe_call GC hr (by rfl) gC FC.kp bC .nil pass0 (pa_cons (pv 0) (pa_cons (pe_callB call_len_seq (by rfl) T.len PySem.boot_len (pa_cons (pv 4) pa_nil)) pa_nil)))
            (pa_cons (pe_callTy call_tuple_of (by rfl) T.tup (by decide +kernel) (pa_cons (pv 4) pa_nil)) pa_nil))))
        (pss_one (ps_if (PW.pt (pw_and (pt_cmpR (op_notInD hu) (pv 5) (pv 2) (by rfl)) (pw_and1 (pt_cmpR op_lt (pe_call GL hr (by rfl) gL FL.kp bL .nil pass0 (pa_cons (pe_op op_catS (pv 2) (pe_lst (pa_cons (pv 5) pa_nil))) pa_nil)) pe_int (nomark _)))))
          (pss_one (ps_expr (pe_bm PySem.F.plainAttrs_list PySem.F.slot_list_insert PySem.F.type_list_insert mt_insertG (pv 2) (pa_cons (pe_call GT hr (by rfl) gT FT.kp bT .nil pass0 (pa_cons (pv 0) (pa_cons (pe_op op_add (pe_callB call_len_seq (by rfl) T.len PySem.boot_len (pa_cons (pv 2) pa_nil)) pe_int) pa_nil))) (pa_cons (pv 5) pa_nil))))) pss_nil)))))
      (pss_cons (ps_setLc (i := 4) (own := [("_law_part", 5)]) (g := gName 5) (by rfl) scReq.nd rfl rfl (sw_true rfl rfl rfl (by decide +kernel)) (pi_list (pv 2)) (blkOk_by (N := nReq) (sc := defScope sReq) (by decide +kernel))
        (fun _ _ _ _ _ => pg_name (i := 5) scReq.nd rfl (Or.inl rfl)) (fun _ _ _ _ _ => pts_one (pt_not (pt_val (pe_callB (show CallR _ (.builtin "isinstance") (rIsi K) from call_isi) (by rfl) T.isi (by decide +kernel) (pa_cons (pv 5) (pa_cons (pe_bltn (v := .ty "str") (by rfl) T.str (by decide +kernel) rfl) pa_nil)))))) (fun _ _ _ _ _ => pv 5))
      (C8.pss_cut (ps_if (PW.pt (pw_and (pt_cmpR op_gt (pe_callB call_len_seq (by rfl) T.len PySem.boot_len (pa_cons (pv 4) pa_nil)) pe_int (nomark _)) (pw_and1 (pt_cmpR op_eq (pe_call GT hr (by rfl) gT FT.kp bT .nil pass0 (pa_cons (pv 0) (pa_cons pe_int pa_nil))) pe_int (nomark _)))))
        (pss_one (ps_set (i := 2) scReq.nd rfl (Or.inl rfl) (pv 4))) pss_nil)
      (pss_one (ps_ret (pe_tup (pa_cons (pe_call GC hr (by rfl) gC FC.kp bC .nil pass0 (pa_cons (pv 0) (pa_cons (pe_callB call_len_seq (by rfl) T.len PySem.boot_len (pa_cons (pv 2) pa_nil)) pa_nil)))
            (pa_cons (pe_callTy call_tupleG (by rfl) T.tup (by decide +kernel) (pa_cons (pv 2) pa_nil)) pa_nil)))))))), ?_⟩
    have okx : ∀ x ∈ xs, PyData.strOk x = true := fun x mx => (nm x mx).ok
    obtain ⟨vb, vg⟩ := B.apart hv
    obtain ⟨ov, gv, ev⟩ := hv
    have sub : ∀ {ys zs : List Str}, (ys ++ zs).Perm xs → ys.length ≤ 8 ∧ (∀ y ∈ ys, y ∈ xs) ∧ (xs.Nodup → ys.Nodup) := fun {ys zs} pm => by
      have e := pm.length_eq
      rw [List.length_append] at e
      exact ⟨by omega, fun y my => pm.mem_iff.mp (List.mem_append_left _ my), fun nd => (List.nodup_append.mp (pm.nodup_iff.mpr nd)).1⟩
    -- parts = _law_some(..)
    refine ⟨.ref b, rfl, .ref vp, rfl, b, g, m, vp, n, xs, rfl, B, by omega, ⟨ov, gv, ev⟩, x1, by omega, fun l ys zs H1 nl h1 y1 pm B1 K1 => ?_⟩
    obtain ⟨lb, lg, lm⟩ := B.ne nl
    obtain ⟨y8, ysub, ynd⟩ := sub pm
    have nf : ∀ o u, H l ≠ some (.frz o u) := fun o u e => by
      rw [nl] at e
      cases e
    -- how often
    refine ⟨by show 5 ≤ sizeLine; decide, fun l5 n5 => ?_⟩
    obtain ⟨l5b, l5g, l5m⟩ := B1.ne n5
    refine ⟨.ref b, rfl, b, g, m, _, 5, rfl, B1.same (same_new n5), by omega, by decide, by decide, fun v0 H2 a0 a1 B2 K2 => ?_⟩
    obtain ⟨cnt, at5, c0, c4⟩ := five a0 a1
    have K12 : Keep b g H1 H2 := (Same.keep (same_new n5)).trans K2
    obtain ⟨o1, g1, e1⟩ := h1
    refine ⟨l5, _, v0, .int cnt, rfl, rfl, SqL.of (K2 _ _ upd_same l5b l5g), at5, cnt, rfl, by omega, by omega, for_range (lo := 0) (n := cnt.toNat) (fun i σ H3 => ∃ (us : List V) (ps : List Part) (y3 y4 y5 : Option V), σ = [some (.ref b), some (.ref vp), some (.ref l), y3, y4, y5] ∧
      Box H3 b g m (n + 10 + 14 * i) ∧ Keep b g H H3 ∧ GLs H3 l us ∧ Parts H3 us ps ∧ Fine xs (8 + i) 12 ps ∧ 1 ≤ ps.length) ?_ ?_ ?_⟩
    · refine ⟨ys.map V.str, ys.map Sum.inl, none, none, none, rfl, B2.more (by omega), K1.trans K12, ⟨o1, g1, K12 _ _ e1 lb lg⟩, Parts.names ys, ⟨fun p mp => ?_, ?_, ?_, fun nd => inl_nodup (ynd nd)⟩, by rw [List.length_map]; exact y1⟩
      · obtain ⟨y, my, rfl⟩ := List.mem_map.mp mp
        exact ysub y my
      · rw [List.length_map]
        omega
      · rw [namesOf_names]
        omega
    · rintro i σ H3 hi ⟨us, ps, y3, y4, y5, rfl, B3, K3, ⟨o3, g3, h3⟩, PS, fine, one⟩
      have i4 : i < 4 := by omega
      have hv3 : GLs H3 vp (xs.map V.str) := ⟨ov, gv, K3 _ _ ev vb vg⟩
      -- inner = _law_some(..)[:..]
      refine ⟨.ref b, rfl, .ref vp, rfl, b, g, m, vp, _, xs, rfl, B3, by omega, hv3, x1, by omega, fun l2 ys2 zs2 H4 nl2 h4 y21 pm2 B4 K4 => ?_⟩
      obtain ⟨y28, y2sub, y2nd⟩ := sub pm2
      obtain ⟨l2b, l2g, l2m⟩ := B3.ne nl2
      obtain ⟨o4, g4, e4⟩ := h4
      refine ⟨.ref b, rfl, b, g, m, _, 4, rfl, B4, by omega, by decide, by decide, fun v1 H5 e0 e1 B5 K5 => ?_⟩
      refine ⟨_, _, rfl, rfl, 1 + v1, rfl, l2, _, rfl, .inl (.inr ⟨o4, K5 _ _ e4 l2b l2g⟩), fun l3 nl3 => ?_⟩
      rw [cut_to ys2 (by omega)]
      have is1 : 1 ≤ (ys2.take (1 + v1).toNat).length := by
        rw [List.length_take]
        omega
      have is8 : (ys2.take (1 + v1).toNat).length ≤ 8 := by
        rw [List.length_take]
        omega
      have isub : ∀ y ∈ ys2.take (1 + v1).toNat, y ∈ xs := fun y my => y2sub y (List.mem_of_mem_take my)
      have isnd : xs.Nodup → (ys2.take (1 + v1).toNat).Nodup := fun nd => (y2nd nd).sublist (List.take_sublist _ _)
      generalize ys2.take (1 + v1).toNat = is at is1 is8 isub isnd
      obtain ⟨l3b, l3g, l3m⟩ := B5.ne nl3
      have il : (is.map V.str).length = is.length := List.length_map _
      -- part = (.., tuple(inner))
      refine ⟨.ref b, rfl, .ref l3, rfl, l3, _, rfl, .inl (SqL.of upd_same), b, g, m, _, _, rfl, B5.same (same_new nl3), by omega, by omega, by omega, fun c' H7 d0 d1 B7 K7 => ?_⟩
      have h7 : H7 l3 = some (.lst (is.map V.str)) := K7 _ _ upd_same l3b l3g
      refine ⟨.ref l3, rfl, l3, _, rfl, .inl ⟨SqL.of h7, fun t1 nt1 => ⟨by show 2 ≤ sizeLine; decide, fun t2 nt2 => ?_⟩⟩⟩
      have K37 : Keep b g H3 H7 := ((K4.trans K5).trans (Same.keep (same_new nl3))).trans K7
      have s9 : Same H7 (upd (upd H7 t1 (.tup (is.map V.str))) t2 (.tup [.int c', .ref t1])) := (same_new nt1).trans (same_new nt2)
      have t12 : t1 ≠ t2 := ne_of_none (upd_same (H := H7) (o := .tup (is.map V.str))) nt2
      have pt : PartAt (upd (upd H7 t1 (.tup (is.map V.str))) t2 (.tup [.int c', .ref t1])) (.ref t2) (.inr (c', is)) := ⟨t2, t1, rfl, upd_same, by rw [upd_ne t12, upd_same]⟩
      generalize upd (upd H7 t1 (.tup (is.map V.str))) t2 (.tup [.int c', .ref t1]) = H9 at s9 pt ⊢
      have K39 : Keep b g H3 H9 := K37.trans (Same.keep s9)
      have tup39 : Tups H3 H9 := K39.tups B3
      have h9 : H9 l = some (.frz o3 (.lst us)) := K39 _ _ h3 lb lg
      have PS9 := PS.tups tup39.tup
      have B9 : Box H9 b g m (n + 10 + 14 * i + 13) := (B7.same s9).more (by omega)
      have good : Good xs (.inr (c', is)) := ⟨is1, is8, d0, by omega, isnd, isub⟩
      have ulen := PS.length
      have pl := fine.len
      have room : us.length < sizeLine := small1000 (by omega)
      have skip : ∀ H', Same H9 H' → ∃ (us : List V) (ps : List Part) (y3' y4 y5 : Option V), [some (.ref b), some (.ref vp), some (.ref l), some (.int (0 + i)), some (.ref l3), some (.ref t2)] = [some (.ref b), some (.ref vp), some (.ref l), y3', y4, y5] ∧
          Box H' b g m (n + 10 + 14 * (i + 1)) ∧ Keep b g H H' ∧ GLs H' l us ∧ Parts H' us ps ∧ Fine xs (8 + (i + 1)) 12 ps ∧ 1 ≤ ps.length := fun H' s' =>
        ⟨us, ps, _, _, _, rfl, (B9.same s').more (by omega), (K3.trans K39).trans (Same.keep s'), ⟨o3, g3, s' _ _ h9⟩, PS9.tups (Same.tups s').tup, ⟨fine.all, by have := fine.len; omega, fine.nam, fine.nd⟩, one⟩
      refine ⟨.ref t2, rfl, .ref l, rfl, _, _, pt.dp, .lst (.inl (.inr ⟨o3, h9⟩)) PS9.dp, shaped_part okx good, shaped_parts okx fine.all, _, rfl, ite2 (fun fresh => ?_) (fun _ => skip H9 (Same.refl _))⟩
      have fresh := not_among (Good.lay okx good).1 fresh
      refine ⟨.ref l, rfl, .ref t2, rfl, by show 1 ≤ sizeLine; decide, fun l7 nl7 => ⟨l, l7, us, [.ref t2], rfl, rfl, .inr ⟨o3, same_new nl7 _ _ h9⟩, .inl upd_same, ?_, fun l8 nl8 => ?_⟩⟩
      · show us.length + 1 ≤ sizeLine
        omega
      have s8 := (same_new (o := .lst [.ref t2]) nl7).trans (same_new (o := .lst (us ++ [.ref t2])) nl8)
      refine ⟨l8, _, ps ++ [Sum.inr (c', is)], rfl, upd_same, (PS9.append (.cons pt .nil)).tups (Same.tups s8).tup, ?_, fun H10 s10 => ?_⟩
      · rw [List.length_append]
        show ps.length + 1 ≤ 900
        omega
      have s910 := s8.trans s10
      refine ⟨_, _, rfl, rfl, _, rfl, ite2 (fun small => ?_) (fun _ => skip H10 s910)⟩
      have small := of_decide_eq_true small
      rw [namesOf_append, List.length_append, show namesOf [(Sum.inr (c', is) : Part)] = is from List.append_nil is] at small
      -- parts.insert(.., part)
      have h10 := s910 _ _ h9
      have g10 : GLs H10 l us := ⟨o3, g3, h10⟩
      refine ⟨.ref l, rfl, .inl ⟨rfl, _, g10.seq⟩, .ref b, rfl, .ref l, rfl, l, _, rfl, .inl g10.seq, _, _, rfl, rfl, b, g, m, _, _, rfl, B9.same s910, by omega, by omega, by omega, fun v2 H11 f0 f1 B11 K11 => ?_⟩
      have h11 := K11 _ _ h10 lb lg
      have tup11 : Tups H9 H11 := (Same.tups s910).trans (K11.tups (B9.same s910))
      have PS11 := PS9.tups tup11.tup
      have pt11 := pt.tups tup11.tup
      have cutp := PS11.cut v2.toNat
      have whole : ps.take v2.toNat ++ ps.drop v2.toNat = ps := List.take_append_drop _ _
      have namesN : (namesOf (ps.take v2.toNat ++ [Sum.inr (c', is)] ++ ps.drop v2.toNat)).length = (namesOf ps).length + is.length := by
        have e := congrArg (fun q => (namesOf q).length) whole
        rw [namesOf_append, List.length_append] at e
        rw [namesOf_append, namesOf_append, List.length_append, List.length_append, show namesOf [(Sum.inr (c', is) : Part)] = is from List.append_nil is]
        omega
      have lensN : (ps.take v2.toNat ++ [Sum.inr (c', is)] ++ ps.drop v2.toNat).length = ps.length + 1 := by
        have e := congrArg List.length whole
        rw [List.length_append] at e
        rw [List.length_append, List.length_append, List.length_singleton]
        omega
      have permN : (ps.take v2.toNat ++ [Sum.inr (c', is)] ++ ps.drop v2.toNat).Perm (Sum.inr (c', is) :: ps) := by
        rw [List.append_assoc]
        have := put_perm ps v2.toNat (Sum.inr (c', is))
        simpa using this
      refine ⟨.ref t2, rfl, l, us, v2, t2, rfl, rfl, ⟨o3, g3, h11⟩, nf, room, f0, by omega, fun o' g' => ⟨us.take v2.toNat ++ [.ref t2] ++ us.drop v2.toNat, ps.take v2.toNat ++ [Sum.inr (c', is)] ++ ps.drop v2.toNat, _, _, _, rfl, (B11.store lb lg lm).more (by omega), ?_, ⟨o', g', upd_same⟩, ?_, ⟨?_, ?_, ?_, ?_⟩, ?_⟩⟩
      · intro d o e n1 n2
        rw [upd_ne (ne_of_none e nl)]
        exact K11 _ _ (s910 _ _ (K39 _ _ (K3 _ _ e n1 n2) n1 n2)) n1 n2
      · refine ((cutp.1.append (.cons pt11 .nil)).append cutp.2).tups fun a xs e => ?_
        rw [upd_ne (fun z => by rw [z, h11] at e; cases e)]
        exact e
      · intro p mp
        rcases List.mem_append.mp mp with mp | mp
        · rcases List.mem_append.mp mp with mp | mp
          · exact fine.all p (List.mem_of_mem_take mp)
          · rw [List.mem_singleton.mp mp]
            exact good
        · exact fine.all p (List.mem_of_mem_drop mp)
      · rw [lensN]
        omega
      · rw [namesN]
        omega
      · intro nd
        exact permN.nodup_iff.mpr (List.nodup_cons.mpr ⟨fresh, fine.nd nd⟩)
      · rw [lensN]
        omega
    · rintro σ H3 ⟨us, ps, y3, y4, y5, rfl, B3, K3, ⟨o3, g3, h3⟩, PS, fine, one⟩
      have cn : cnt.toNat ≤ 4 := by omega
      refine ⟨.ref l, rfl, l, rfl, ⟨_, .inl (.inr ⟨o3, h3⟩)⟩, fun D nD => lc_list (K := K) (a := l) (xs := us) (fun i H4 => Same H3 H4 ∧ ∃ (vs : List V) (qs : List Part), H4 D = some (.lst vs) ∧ (∀ x ∈ vs, ∃ a, x = V.ref a) ∧ Parts H4 vs qs ∧ (∀ p ∈ qs, Good xs p) ∧ qs.Sublist (ps.take i)) ?_ (fun i H4 _ h => .inl (.inr ⟨o3, h.1 _ _ h3⟩)) ?_ ?_⟩
      · exact ⟨same_new nD, [], [], upd_same, fun x mx => by simp at mx, .nil, fun p mp => by simp at mp, List.Sublist.refl _⟩
      · rintro i x H4 hx ⟨s4, vs, qs, hD, rf, QS, gq, sl⟩
        have lt := (List.getElem?_eq_some_iff.mp hx).1
        rw [PS.length] at lt
        have pl := fine.len
        obtain ⟨p, hp, pa⟩ := PS.at hx
        have pa4 := pa.tups (Same.tups s4).tup
        obtain ⟨ty, ty1, ty2⟩ := isi_part (K := K) pa4
        have tk : ps.take (i + 1) = ps.take i ++ [p] := by
          rw [List.take_add_one, hp]
          rfl
        have ql : qs.length ≤ ps.length := by
          have := sl.length_le
          rw [List.length_take] at this
          omega
        refine ⟨rfl, x, rfl, _, _, ty, .type "str", _, rfl, .ty _, ty1, ty2, _, rfl, ?_⟩
        cases p with
        | inl z => exact iteF ⟨s4, vs, qs, hD, rf, QS, gq, by rw [tk]; exact sl.trans (List.sublist_append_left _ _)⟩
        | inr y =>
          refine iteT ⟨x, rfl, vs, hD, ?_, fun d o e => ?_, vs ++ [x], qs ++ [Sum.inr y], upd_same, ?_, ?_, ?_, ?_⟩
          · rw [QS.length]
            exact small1000 (by omega)
          · rw [upd_ne (ne_of_none e nD)]
            exact s4 d o e
          · intro z mz
            rcases List.mem_append.mp mz with mz | mz
            · exact rf z mz
            · rw [List.mem_singleton.mp mz]
              obtain ⟨cy, ny⟩ := y
              obtain ⟨a, _, ea, _⟩ := pa4
              exact ⟨a, ea⟩
          · exact (QS.append (.cons pa4 .nil)).tups (tups_store hD).tup
          · intro p mp
            rcases List.mem_append.mp mp with mp | mp
            · exact gq p mp
            · rw [List.mem_singleton.mp mp]
              exact fine.all _ (List.mem_of_getElem? hp)
          · rw [tk]
            exact sl.append (List.Sublist.refl _)
      · rintro H4 ⟨s4, vs, qs, hD, rf, QS, gq, sl⟩
        rw [PS.length, List.take_length] at sl
        have fl := fine.len
        have fnm := fine.nam
        have ql := sl.length_le
        have h4 := s4 _ _ h3
        have K4 : Keep b g H H4 := K3.trans (Same.keep s4)
        have B4 : Box H4 b g m (n + 66) := (B3.same s4).more (by omega)
        obtain ⟨Db, Dg, Dm⟩ := B3.ne nD
        refine ⟨fun σ H5 => ∃ (l' : Addr) (us' : List V) (ps' : List Part) (z3 z4 z5 : Option V), σ = [some (.ref b), some (.ref vp), some (.ref l'), z3, z4, z5] ∧ l' ≠ b ∧ l' ≠ g ∧ Box H5 b g m (n + 67) ∧ Keep b g H H5 ∧ Lst H5 l' us' ∧ Parts H5 us' ps' ∧ Fine xs 12 12 ps' ∧ 1 ≤ ps'.length, ?_, ?_⟩
        · have stay : ∀ H5, Keep b g H4 H5 → Box H5 b g m (n + 67) → ∃ (l' : Addr) (us' : List V) (ps' : List Part) (z3 z4 z5 : Option V), [some (.ref b), some (.ref vp), some (.ref l), y3, some (.ref D), y5] = [some (.ref b), some (.ref vp), some (.ref l'), z3, z4, z5] ∧ l' ≠ b ∧ l' ≠ g ∧ Box H5 b g m (n + 67) ∧ Keep b g H H5 ∧ Lst H5 l' us' ∧ Parts H5 us' ps' ∧ Fine xs 12 12 ps' ∧ 1 ≤ ps'.length := fun H5 K5 B5 =>
            ⟨l, us, ps, _, _, _, rfl, lb, lg, B5, K4.trans K5, .inl ⟨o3, g3, K5 _ _ h4 lb lg⟩, (PS.tups (Same.tups s4).tup).tups (K5.tups B4).tup, ⟨fine.all, by omega, fnm, fine.nd⟩, one⟩
          refine ⟨.ref D, rfl, D, _, rfl, .inl (SqL.of hD), _, _, rfl, rfl, _, rfl, ite2 (fun e => ?_) (fun _ => stay H4 (Keep.refl _ _ _) (B4.more (by omega)))⟩
          have pos := of_decide_eq_true e
          rw [QS.length] at pos
          refine ⟨.ref b, rfl, b, g, m, _, 4, rfl, B4, by omega, by decide, by decide, fun v H5 a0 a1 B5 K5 => ⟨rfl, _, rfl, ite2 (fun _ => ?_) (fun _ => stay H5 K5 B5)⟩⟩
          exact ⟨.ref D, rfl, D, vs, qs, _, _, _, rfl, Db, Dg, B5, K4.trans K5, .inr ⟨K5 _ _ hD Db Dg, rf⟩, QS.tups (K5.tups B4).tup, ⟨gq, by omega, Nat.le_trans (namesOf_sub sl) fnm, fun nd => (fine.nd nd).sublist sl⟩, by omega⟩
        · rintro σ H5 ⟨l', us', ps', z3, z4, z5, rfl, l'b, l'g, B5, K5, h5, PS', fine', one'⟩
          have ul := PS'.length
          have fl' := fine'.len
          refine ⟨.ref b, rfl, .ref l', rfl, l', _, rfl, .inl h5.seq, b, g, m, _, _, rfl, B5, by omega, by omega, by omega, fun c H6 e1 e2 B6 K6 => ?_⟩
          have h6 : GLs H6 l' us' ∨ (SqL K H6 l' us' ∧ ∀ x ∈ us', ∃ a, x = V.ref a) := by
            rcases h5 with ⟨o, go, e⟩ | ⟨e, r⟩
            · exact .inl ⟨o, go, K6 _ _ e l'b l'g⟩
            · exact .inr ⟨SqL.of (K6 _ _ e l'b l'g), r⟩
          refine ⟨.ref l', rfl, l', _, rfl, h6, fun t1 ot nt1 gt => ⟨by show 2 ≤ sizeLine; decide, fun t2 nt2 => ?_⟩⟩
          have s8 := (same_new (o := .frz ot (.tup us')) nt1).trans (same_new (o := .tup [.int c, .ref t1]) nt2)
          have t12 : t1 ≠ t2 := ne_of_none (upd_same (H := H6) (o := .frz ot (.tup us'))) nt2
          have K06 : Keep b g H H6 := K5.trans K6
          obtain ⟨t2b, t2g, _⟩ := B6.ne (p := t2) (by
            have z := nt2
            rw [upd_ne t12.symm] at z
            exact z)
          have new : H t2 = none := by
            refine K06.free t2b t2g ?_
            have z := nt2
            rw [upd_ne t12.symm] at z
            exact z
          refine q t2 c ps' _ new ⟨t1, us', upd_same, ⟨ot, gt, by rw [upd_ne t12, upd_same]⟩, (PS'.tups (K6.tups B5).tup).tups (Same.tups s8).tup⟩ fine' e1 (by omega) ((B6.same s8).more (by omega)) (K06.trans (Same.keep s8))
end
end Moot
namespace Moot
open PySem PySem.Spec PyProof.Rows L2
structure Bq (mg : Str → Option Value) : Prop where
  T : Blt mg
  all : mg "all" = none
  letters : ∃ u, mg "LETTERS" = some u ∧ RelV (.str abc) u
  longest : ∃ u, mg "LONGEST_NAME" = some u ∧ RelV (.int 8) u
  mostn : ∃ u, mg "MOST_NAMES" = some u ∧ RelV (.int 12) u
  mostd : ∃ u, mg "MOST_DIFFERENT_NAMES" = some u ∧ RelV (.int 8) u
theorem abc_mem {c : Nat} (h : 97 ≤ c ∧ c ≤ 122) : c ∈ abc.cps.toList := by
  rw [abc_list]
  exact List.mem_map.mpr ⟨c - 97, List.mem_range.mpr (by omega), by omega⟩
theorem all_true {α : Type} (l : List α) : ((l.map fun _ => true).all id) = true := by
  rw [List.all_map]
  exact List.all_eq_true.mpr fun _ _ => rfl
/-- an inner requirement as it must be -/
def InnOk (c : Int) (ns : List Str) : Prop := 1 ≤ c ∧ c ≤ (ns.length : Int) ∧ ns.length ≤ 12 ∧ ns.Nodup ∧ ∀ x ∈ ns, Nm x
/-- a requirement as it must be, over the names xs -/
structure Valid (xs : List Str) (c : Int) (ps : List Part) : Prop where
  c1 : 1 ≤ c
  c2 : c ≤ (ps.length : Int)
  nd : ps.Nodup
  nam : (namesOf ps).length ≤ 12
  few : xs.length ≤ 8
  sub : ∀ x ∈ namesOf ps, x ∈ xs
  nm : ∀ x ∈ xs, Nm x
  inn : ∀ d ns, Sum.inr (d, ns) ∈ ps → InnOk d ns
theorem mem_names {ps : List Part} {p : Part} (m : p ∈ ps) {x : Str} (h : x ∈ namesOf [p]) : x ∈ namesOf ps := by
  obtain ⟨a, b, rfl⟩ := List.append_of_mem m
  rw [namesOf_append, show p :: b = [p] ++ b from rfl, namesOf_append]
  exact List.mem_append_right _ (List.mem_append_left _ h)
theorem len_names : ∀ {ps : List Part}, (∀ d ns, Sum.inr (d, ns) ∈ ps → 1 ≤ ns.length) → ps.length ≤ (namesOf ps).length
  | [], _ => Nat.le_refl _
  | .inl x :: ps, h => by
    have := len_names (ps := ps) fun d ns m => h d ns (List.mem_cons_of_mem _ m)
    show ps.length + 1 ≤ (x :: namesOf ps).length
    rw [List.length_cons]
    omega
  | .inr (d, ns) :: ps, h => by
    have := len_names (ps := ps) fun d ns m => h d ns (List.mem_cons_of_mem _ m)
    have := h d ns List.mem_cons_self
    show ps.length + 1 ≤ (ns ++ namesOf ps).length
    rw [List.length_append]
    omega
theorem Valid.len {xs : List Str} {c : Int} {ps : List Part} (h : Valid xs c ps) : ps.length ≤ 12 := by
  have := len_names (ps := ps) fun d ns m => by
    have := h.inn d ns m
    have := this.1
    have := (h.inn d ns m).2.1
    omega
  have := h.nam
  omega
section
variable {P : Program} {w : World} {K : PySem.W.Frag} {mg : Str → Option Value} {base : Heap}
/-! is_name -/
abbrev sIn : Stmt := top 14
abbrev nIn : List Str := ["value", "letter"]
theorem scIn : FnScope nIn ["value"] (defScope sIn) := ⟨rfl, rfl, rfl, by decide +kernel, rfl, by decide +kernel, by decide +kernel⟩
def spIn (K : PySem.W.Frag) : Sp := fun vs H Q _ => (∃ z : Str, vs = [.str z] ∧ Nm z ∧ ∀ H', Same H H' → Q (.bl true) H') ∨ ∃ a, vs = [.ref a] ∧ TyX K H (.ref a) (.type "tuple") ∧ Q (.bl false) H
theorem ok_isname {f : Addr} {fd : FuncData} {k : Nat} (F : Fun K "is_name" "is_name" sIn f fd) (T : Bq mg) : FnOk P w K mg base CX0 (k + 1) f fd ["value"] (spIn K) := by
  obtain ⟨uL, mL, rL⟩ := T.letters
  obtain ⟨uG, mG, rG⟩ := T.longest
  refine F.ok scIn (fun vs H Q E h => ?_) (fun cdv A outer s H vs Q E hr h => ?_)
  · rcases h with ⟨z, rfl, _⟩ | ⟨a, rfl, _⟩ <;> rfl
  · refine ⟨_, pss_cons (ps_if (pt_not (pt_val (pe_callB call_isi (by rfl) T.T.isi (by decide +kernel) (pa_cons (pv 0) (pa_cons (pe_bltn (v := .ty "str") (by rfl) T.T.str (by decide +kernel) rfl) pa_nil))))) (pss_one (ps_ret pe_bl)) pss_nil)
      (pss_cons (ps_if (pt_not (pt_chain op_le op_le pe_int (pe_callB call_len_str (by rfl) T.T.len PySem.boot_len (pa_cons (pv 0) pa_nil)) (pe_glob (by rfl) mG rG))) (pss_one (ps_ret pe_bl)) pss_nil)
      (pss_one (ps_ret (pe_callB (cr_all rfl) (by rfl) T.all (by decide +kernel) (pa_cons (pe_lc (own := [("letter", 1)]) (g := gName 1) (tt := tYes) (by rfl) scIn.nd (pi_str (pv 0)) (blkOk_by (N := nIn) (sc := defScope sIn) (by decide +kernel))
          (fun _ _ _ _ _ => pg_name (i := 1) scIn.nd rfl (Or.inl rfl)) (fun _ _ _ _ _ => pts_nil) (fun _ _ _ _ _ => pe_cmpR op_in_sign (pv 1) (pe_glob (by rfl) mL rL) (by rfl))) pa_nil))))), ?_⟩
    rcases h with ⟨z, rfl, nz, q⟩ | ⟨a, rfl, ty, q⟩
    rotate_left
    · exact ⟨.ref a, rfl, _, _, .type "tuple", .type "str", false, rfl, .ty _, ty, kit_ty (r := false) (by decide +kernel), _, rfl, iteT q⟩
    have l8 : z.length ≤ 8 := nz.hi
    have l1 : 1 ≤ z.length := nz.lo
    refine ⟨.str z, rfl, _, _, .type "str", .type "str", true, rfl, .ty _, .base (.str z), kit_ty (r := true) (by decide +kernel), _, rfl, iteF ?_⟩
    refine ⟨.str z, rfl, z, rfl, Nat.le_of_lt (small1000 (by omega)), _, _, rfl, rfl, _, rfl, ?_⟩
    rw [decide_eq_true (show (1 : Int) ≤ (z.length : Int) by omega)]
    refine iteT ⟨_, _, rfl, rfl, _, rfl, ?_⟩
    rw [decide_eq_true (show (z.length : Int) ≤ 8 by omega)]
    refine iteF ?_
    refine ⟨.str z, rfl, z, rfl, fun D nD => ?_⟩
    refine lc_it walk_str (fun j H1 => Same H H1 ∧ H1 D = some (.lst (((z.cps.toList.take j).map fun _ => true).map V.bl))) ?_ (fun _ _ _ _ => trivial) ?_ ?_
    · exact ⟨same_new nD, upd_same⟩
    · rintro j x H1 H2 hj ⟨s1, hD⟩ ⟨rfl, c, hc, rfl⟩
      have tk : z.cps.toList.take (j + 1) = z.cps.toList.take j ++ [c] := by
        rw [List.take_add_one, Array.getElem?_toList, hc]
        rfl
      have mc : c ∈ z.cps.toList := List.mem_of_getElem? (by rw [Array.getElem?_toList]; exact hc)
      refine ⟨rfl, .str (sg c), rfl, c, abc, rfl, rfl, ?_⟩
      rw [decide_eq_true (abc_mem (nz.low c mc))]
      refine ⟨_, hD, ?_, fun a o e => ?_, ?_⟩
      · rw [List.length_map, List.length_map, List.length_take]
        have : z.cps.toList.length = z.length := by simp [Str.length]
        exact small1000 (by omega)
      · rw [upd_ne (ne_of_none e nD)]
        exact s1 a o e
      · rw [upd_same, tk, List.map_append, List.map_append]
        rfl
    · rintro H1 ⟨s1, hD⟩
      refine ⟨D, _, rfl, SqL.of hD, ?_⟩
      rw [all_true]
      exact q H1 s1
/-! is_whole_number -/
abbrev sWh : Stmt := top 15
theorem scWh : FnScope ["value"] ["value"] (defScope sWh) := ⟨rfl, rfl, rfl, by decide +kernel, rfl, by decide +kernel, by decide +kernel⟩
def spWh : Sp := fun vs H Q _ => ∃ i : Int, vs = [.int i] ∧ Q (.bl true) H
theorem ok_whole {f : Addr} {fd : FuncData} {k : Nat} (F : Fun K "is_whole_number" "is_whole_number" sWh f fd) (T : Bq mg) : FnOk P w K mg base CX0 (k + 1) f fd ["value"] spWh := by
  refine F.ok scWh (fun vs H Q E h => ?_) (fun cdv A outer s H vs Q E hr h => ?_)
  · obtain ⟨i, rfl, _⟩ := h
    rfl
  · obtain ⟨i, rfl, q⟩ := h
    refine ⟨_, pss_one (ps_ret (pe_and (pe_callB call_isi (by rfl) T.T.isi (by decide +kernel) (pa_cons (pv 0) (pa_cons (pe_bltn (v := .ty "int") (by rfl) T.T.int (by decide +kernel) rfl) pa_nil)))
      (pe_one (pe_not (pe_callB call_isi (by rfl) T.T.isi (by decide +kernel) (pa_cons (pv 0) (pa_cons (pe_bltn (v := .ty "bool") (by rfl) T.T.bool (by decide +kernel) rfl) pa_nil))))))), ?_⟩
    exact ⟨.int i, rfl, _, _, .type "int", .type "int", true, rfl, .ty _, .base (.int i), kit_ty (r := true) (by decide +kernel), _, rfl, iteT ⟨.int i, rfl, _, _, .type "int", .type "bool", false, rfl, .ty _, .base (.int i), kit_ty (r := false) (by decide +kernel), _, rfl, q⟩⟩
/-! is_counted_tuple -/
abbrev sCt : Stmt := top 16
abbrev nCt : List Str := ["value", "count", "parts"]
theorem scCt : FnScope nCt ["value"] (defScope sCt) := ⟨rfl, rfl, rfl, by decide +kernel, rfl, by decide +kernel, by decide +kernel⟩
theorem PTup.ty {H : Hp} {p : Addr} {vs : List V} (h : PTup H p vs) : TyX K H (.ref p) (.type "tuple") := by
  rcases h with ⟨o, _, e⟩ | ⟨e, _⟩
  · exact .fTuple e
  · exact .base (.tup e)
def spCt : Sp := fun vs H Q _ => ∃ (r p : Addr) (c : Int) (ws : List V), vs = [.ref r] ∧ H r = some (.tup [.int c, .ref p]) ∧ PTup H p ws ∧ 1 ≤ c ∧ c ≤ (ws.length : Int) ∧ Q (.bl true) H
theorem ok_counted {f fW : Addr} {fd fdW : FuncData} {k : Nat} (F : Fun K "is_counted_tuple" "is_counted_tuple" sCt f fd) (T : Bq mg) (FW : Fun K "is_whole_number" "is_whole_number" sWh fW fdW) (bW : Binds K fdW ["value"] []) (gW : mg "is_whole_number" = some (.ref fW)) :
    FnOk P w K mg base CX0 (k + 2) f fd ["value"] spCt := by
  have GW : FnOk P w K mg base CX0 (k + 1) fW fdW ["value"] spWh := ok_whole FW T
  refine F.ok scCt (fun vs H Q E h => ?_) (fun cdv A outer s H vs Q E hr h => ?_)
  · obtain ⟨r, p, c, ws, rfl, _⟩ := h
    rfl
  · obtain ⟨r, p, c, ws, rfl, hr1, hp1, c1, c2, q⟩ := h
    refine ⟨_, pss_cons (ps_if (PW.pt (pw_or (pt_not (pt_val (pe_callB call_isi (by rfl) T.T.isi (by decide +kernel) (pa_cons (pv 0) (pa_cons (pe_bltn (v := .ty "tuple") (by rfl) T.T.tup (by decide +kernel) rfl) pa_nil)))))
          (pw_or1 (pt_cmpR op_ne (pe_callB call_len_seq (by rfl) T.T.len PySem.boot_len (pa_cons (pv 0) pa_nil)) pe_int (nomark _))))) (pss_one (ps_ret pe_bl)) pss_nil)
      (pss_cons (ps_asg (pv 0) (pg_tup (by rfl) (pgs_cons (pg_name (i := 1) scCt.nd rfl (Or.inl rfl)) (pgs_cons (pg_name (i := 2) scCt.nd rfl (Or.inl rfl)) pgs_nil))))
      (pss_cons (ps_if (PW.pt (pw_or (pt_not (pt_val (pe_call GW hr (by rfl) gW FW.kp bW .nil pass0 (pa_cons (pv 1) pa_nil)))) (pw_or1 (pt_not (pt_val (pe_callB call_isi (by rfl) T.T.isi (by decide +kernel) (pa_cons (pv 2) (pa_cons (pe_bltn (v := .ty "tuple") (by rfl) T.T.tup (by decide +kernel) rfl) pa_nil)))))))) (pss_one (ps_ret pe_bl)) pss_nil)
      (pss_one (ps_ret (pe_chain op_le op_le pe_int (pv 1) (pe_callB call_len_seq (by rfl) T.T.len PySem.boot_len (pa_cons (pv 2) pa_nil))))))), ?_⟩
    refine ⟨.ref r, rfl, _, _, .type "tuple", .type "tuple", true, rfl, .ty _, .base (.tup hr1), kit_ty (r := true) (by decide +kernel), _, rfl, iteF ⟨.ref r, rfl, r, _, rfl, .inr (SqT.of hr1), rfl, _, rfl, iteF ?_⟩⟩
    refine ⟨.ref r, rfl, r, _, rfl, SqT.of hr1, rfl, _, _, rfl, _, _, rfl, rfl, ?_⟩
    refine ⟨.int c, rfl, c, rfl, _, rfl, iteF ⟨.ref p, rfl, _, _, .type "tuple", .type "tuple", true, rfl, .ty _, hp1.ty, kit_ty (r := true) (by decide +kernel), _, rfl, iteF ?_⟩⟩
    refine ⟨.int c, rfl, _, _, rfl, rfl, _, rfl, ?_⟩
    rw [decide_eq_true c1]
    refine iteT ⟨.ref p, rfl, p, _, rfl, .inr hp1.seq, _, _, rfl, rfl, ?_⟩
    show Q (.bl (decide (c ≤ (ws.length : Int)))) H
    rw [decide_eq_true c2]
    exact q
/-! has_duplicates -/
abbrev sHd : Stmt := top 17
theorem scHd : FnScope ["parts"] ["parts"] (defScope sHd) := ⟨rfl, rfl, rfl, by decide +kernel, rfl, by decide +kernel, by decide +kernel⟩
/-- none twice: texts alone, or mixed with tokens -/
def spHd (K : PySem.W.Frag) : Sp := fun vs H Q _ => ∃ p, vs = [.ref p] ∧ ((∃ zs : List Str, NodesAt K H p zs ∧ zs.length < 64 ∧ zs.Nodup) ∨ ∃ (ws : List V) (ps : List Part), GTp H p ws ∧ Parts H ws ps ∧ ps.length < 63 ∧ ps.Nodup) ∧ ∀ H', Same H H' → Q (.bl false) H'
theorem ok_dup {f : Addr} {fd : FuncData} {k : Nat} (F : Fun K "has_duplicates" "has_duplicates" sHd f fd) (T : Bq mg) : FnOk P w K mg base CX0 (k + 1) f fd ["parts"] (spHd K) := by
  refine F.ok scHd (fun vs H Q E h => ?_) (fun cdv A outer s H vs Q E hr h => ?_)
  · obtain ⟨p, rfl, _⟩ := h
    rfl
  · obtain ⟨p, rfl, hp, q⟩ := h
    have hu : (A.deeper (envOfC "has_duplicates" (defScope sHd) s.heap.objs.size f cdv)).units + 12 < cLine := by
      have := hr.un
      omega
    refine ⟨_, pss_one (ps_ret (pe_cmpR op_lt (pe_callB (CallR.or cr_txtLen cr_mixLen) (by rfl) T.T.len PySem.boot_len (pa_cons (pe_callTy (CallR.or (cr_txtSetA rfl) (cr_mixSet rfl hu)) (by rfl) T.T.set (by decide +kernel) (pa_cons (pv 0) pa_nil)) pa_nil)) (pe_callB call_len_seq (by rfl) T.T.len PySem.boot_len (pa_cons (pv 0) pa_nil)) (nomark _))), ?_⟩
    rcases hp with ⟨zs, hp, few, nd⟩ | ⟨ws, ps, hp, PS, few, nd⟩
    · refine ⟨.ref p, rfl, .inl ⟨p, zs, rfl, hp, few, fun a m na hm => .inl ⟨a, _, m, rfl, upd_same, by omega, fun least => ?_⟩⟩⟩
      have le := least zs nd fun k mk => decide_eq_true mk
      have s1 := same_new (o := TxtSet P w a (fun k => decide (k ∈ zs)) m) na
      refine ⟨.ref p, rfl, p, _, rfl, hp.same s1, _, _, rfl, rfl, ?_⟩
      show Q (.bl (decide ((m : Int) < ((zs.map V.str).length : Int)))) _
      rw [List.length_map, decide_eq_false (show ¬ ((m : Int) < (zs.length : Int)) by omega)]
      exact q _ s1
    · refine ⟨.ref p, rfl, .inr ⟨p, ws, ps, rfl, hp, PS, few, fun a n na hn all _ => .inr ⟨a, n, rfl, upd_same, by omega, ?_⟩⟩⟩
      have e := all nd
      have s1 := same_new (o := NSet a n) na
      have hp1 : PTup (upd H a (NSet a n)) p ws := (show PTup H p ws from .inl hp).tups (Same.tups s1)
      refine ⟨.ref p, rfl, p, _, rfl, .inr hp1.seq, _, _, rfl, rfl, ?_⟩
      show Q (.bl (decide ((n : Int) < (ws.length : Int)))) _
      rw [PS.length, decide_eq_false (show ¬ ((n : Int) < (ps.length : Int)) by omega)]
      exact q _ s1
/-! is_simple_requirement -/
abbrev sSr : Stmt := top 18
abbrev nSr : List Str := ["value", "names", "name"]
theorem scSr : FnScope nSr ["value"] (defScope sSr) := ⟨rfl, rfl, rfl, by decide +kernel, rfl, by decide +kernel, by decide +kernel⟩
def spSr : Sp := fun vs H Q _ => ∃ (r p : Addr) (c : Int) (ns : List Str), vs = [.ref r] ∧ H r = some (.tup [.int c, .ref p]) ∧ H p = some (.tup (ns.map V.str)) ∧ InnOk c ns ∧ ∀ H', Same H H' → Q (.bl true) H'
theorem ok_simple {f f1 f2 f4 : Addr} {fd fd1 fd2 fd4 : FuncData} {k : Nat} (F : Fun K "is_simple_requirement" "is_simple_requirement" sSr f fd) (T : Bq mg)
    (F1 : Fun K "is_counted_tuple" "is_counted_tuple" sCt f1 fd1) (b1 : Binds K fd1 ["value"] []) (g1 : mg "is_counted_tuple" = some (.ref f1)) (G1 : FnOk P w K mg base CX0 k f1 fd1 ["value"] spCt)
    (F2 : Fun K "is_name" "is_name" sIn f2 fd2) (b2 : Binds K fd2 ["value"] []) (g2 : mg "is_name" = some (.ref f2)) (G2 : FnOk P w K mg base CX0 k f2 fd2 ["value"] (spIn K))
    (F4 : Fun K "has_duplicates" "has_duplicates" sHd f4 fd4) (b4 : Binds K fd4 ["parts"] []) (g4 : mg "has_duplicates" = some (.ref f4)) (G4 : FnOk P w K mg base CX0 k f4 fd4 ["parts"] (spHd K)) :
    FnOk P w K mg base CX0 (k + 1) f fd ["value"] spSr := by
  refine F.ok scSr (fun vs H Q E h => ?_) (fun cdv A outer s H vs Q E hr h => ?_)
  · obtain ⟨r, p, c, ns, rfl, _⟩ := h
    rfl
  · obtain ⟨r, p, c, ns, rfl, hr1, hp1, ⟨c1, c2, few, nd, nm⟩, q⟩ := h
    refine ⟨_, pss_cons (ps_if (pt_not (pt_val (pe_call G1 hr (by rfl) g1 F1.kp b1 .nil pass0 (pa_cons (pv 0) pa_nil)))) (pss_one (ps_ret pe_bl)) pss_nil)
      (pss_cons (ps_set (i := 1) scSr.nd rfl (Or.inl rfl) (pe_ix ix_tup (pv 0) pe_int (fun _ _ => rfl)))
      (pss_one (ps_ret (pe_and (pe_callB (cr_all rfl) (by rfl) T.all (by decide +kernel) (pa_cons (pe_lc (own := [("name", 2)]) (g := gName 2) (tt := tYes) (by rfl) scSr.nd (pi_tup (pv 1)) (blkOk_by (N := nSr) (sc := defScope sSr) (by decide +kernel))
          (fun _ _ _ _ _ => pg_name (i := 2) scSr.nd rfl (Or.inl rfl)) (fun _ _ _ _ _ => pts_nil)
          (fun _ _ _ _ _ => pe_call G2 hr (by rfl) g2 F2.kp b2 .nil pass0 (pa_cons (pv 2) pa_nil))) pa_nil))
        (pe_one (pe_not (pe_call G4 hr (by rfl) g4 F4.kp b4 .nil pass0 (pa_cons (pv 1) pa_nil)))))))), ?_⟩
    refine ⟨.ref r, rfl, r, p, c, _, rfl, hr1, .inr ⟨hp1, ns, rfl⟩, c1, by rw [List.length_map]; exact c2, _, rfl, iteF ?_⟩
    refine ⟨.ref r, rfl, r, _, 1, .ref p, rfl, rfl, SqT.of hr1, atI_nat (j := 1) rfl, ?_⟩
    refine ⟨.ref p, rfl, p, rfl, ⟨_, SqT.of hp1⟩, fun D nD => lc_tup (K := K) (a := p) (xs := ns.map V.str) (fun i H1 => Same H H1 ∧ H1 D = some (.lst (((ns.take i).map fun _ => true).map V.bl))) ⟨same_new nD, upd_same⟩ (fun i H1 _ h => SqT.of (h.1 _ _ hp1)) ?_ ?_⟩
    · rintro i x H1 hx ⟨s1, hD⟩
      rw [List.getElem?_map] at hx
      obtain ⟨z, hz, rfl⟩ := Option.map_eq_some_iff.mp hx
      have tk : ns.take (i + 1) = ns.take i ++ [z] := by
        rw [List.take_add_one, hz]
        rfl
      refine ⟨rfl, .str z, rfl, .inl ⟨z, rfl, nm z (List.mem_of_getElem? hz), fun H2 s2 => ?_⟩⟩
      refine ⟨_, s2 _ _ hD, ?_, fun d o e => ?_, ?_⟩
      · rw [List.length_map, List.length_map, List.length_take]
        exact small1000 (by omega)
      · rw [upd_ne (ne_of_none e nD)]
        exact s2 _ _ (s1 d o e)
      · rw [upd_same, tk, List.map_append, List.map_append]
        rfl
    · rintro H1 ⟨s1, hD⟩
      refine ⟨D, _, rfl, SqL.of hD, ?_⟩
      rw [all_true]
      refine ⟨_, rfl, iteT ?_⟩
      exact ⟨.ref p, rfl, p, rfl, .inl ⟨ns, .inr (SqT.of (s1 _ _ hp1)), by omega, nd⟩, fun H2 s2 => ⟨_, rfl, q H2 (s1.trans s2)⟩⟩
/-! is_requirement -/
abbrev sIr : Stmt := top 19
abbrev nIr : List Str := ["value", "parts", "names", "part"]
theorem scIr : FnScope nIr ["value"] (defScope sIr) := ⟨rfl, rfl, rfl, by decide +kernel, rfl, by decide +kernel, by decide +kernel⟩
def spIr : Sp := fun vs H Q _ => ∃ (r : Addr) (c : Int) (ps : List Part) (xs : List Str), vs = [.ref r] ∧ ReqAt H r c ps ∧ Valid xs c ps ∧ ∀ H', Same H H' → Q (.bl true) H'
theorem ok_isreq {f f1 f2 f3 f4 f5 : Addr} {fd fd1 fd2 fd3 fd4 fd5 : FuncData} {k : Nat} (F : Fun K "is_requirement" "is_requirement" sIr f fd) (T : Bq mg)
    (F1 : Fun K "is_counted_tuple" "is_counted_tuple" sCt f1 fd1) (b1 : Binds K fd1 ["value"] []) (g1 : mg "is_counted_tuple" = some (.ref f1)) (G1 : FnOk P w K mg base CX0 k f1 fd1 ["value"] spCt)
    (F2 : Fun K "is_name" "is_name" sIn f2 fd2) (b2 : Binds K fd2 ["value"] []) (g2 : mg "is_name" = some (.ref f2)) (G2 : FnOk P w K mg base CX0 k f2 fd2 ["value"] (spIn K))
    (F3 : Fun K "is_simple_requirement" "is_simple_requirement" sSr f3 fd3) (b3 : Binds K fd3 ["value"] []) (g3 : mg "is_simple_requirement" = some (.ref f3)) (G3 : FnOk P w K mg base CX0 k f3 fd3 ["value"] spSr)
    (F4 : Fun K "has_duplicates" "has_duplicates" sHd f4 fd4) (b4 : Binds K fd4 ["parts"] []) (g4 : mg "has_duplicates" = some (.ref f4)) (G4 : FnOk P w K mg base CX0 k f4 fd4 ["parts"] (spHd K))
    (F5 : Fun K "names_with_repetition" "names_with_repetition" sNwr f5 fd5) (b5 : Binds K fd5 ["requirement"] []) (g5 : mg "names_with_repetition" = some (.ref f5)) (G5 : FnOk P w K mg base CX0 k f5 fd5 ["requirement"] (spNwr fun _ => True)) :
    FnOk P w K mg base CX0 (k + 1) f fd ["value"] spIr := by
  obtain ⟨uN, mN, rN⟩ := T.mostn
  obtain ⟨uD, mD, rD⟩ := T.mostd
  refine F.ok scIr (fun vs H Q E h => ?_) (fun cdv A outer s H vs Q E hr h => ?_)
  · obtain ⟨r, c, ps, xs, rfl, _⟩ := h
    rfl
  · obtain ⟨r, c, ps, xs, rfl, R, V0, q⟩ := h
    refine ⟨_, pss_cons (ps_if (pt_not (pt_val (pe_call G1 hr (by rfl) g1 F1.kp b1 .nil pass0 (pa_cons (pv 0) pa_nil)))) (pss_one (ps_ret pe_bl)) pss_nil)
      (pss_cons (ps_set (i := 1) scIr.nd rfl (Or.inl rfl) (pe_ix ix_tup (pv 0) pe_int (fun _ _ => rfl)))
      (pss_cons (ps_if (pt_not (pt_val (pe_callB (cr_all rfl) (by rfl) T.all (by decide +kernel) (pa_cons (pe_lc (own := [("part", 3)]) (g := gName 3) (tt := tYes) (by rfl) scIr.nd (pi_tup (pv 1)) (blkOk_by (N := nIr) (sc := defScope sIr) (by decide +kernel))
          (fun _ _ _ _ _ => pg_name (i := 3) scIr.nd rfl (Or.inl rfl)) (fun _ _ _ _ _ => pts_nil)
          (fun _ _ _ _ _ => pe_or (pe_call G2 hr (by rfl) g2 F2.kp b2 .nil pass0 (pa_cons (pv 3) pa_nil)) (pe_one (pe_call G3 hr (by rfl) g3 F3.kp b3 .nil pass0 (pa_cons (pv 3) pa_nil))))) pa_nil)))) (pss_one (ps_ret pe_bl)) pss_nil)
      (pss_cons (ps_if (pt_val (pe_call G4 hr (by rfl) g4 F4.kp b4 .nil pass0 (pa_cons (pv 1) pa_nil))) (pss_one (ps_ret pe_bl)) pss_nil)
      (pss_cons (ps_set (i := 2) scIr.nd rfl (Or.inl rfl) (pe_call G5 hr (by rfl) g5 F5.kp b5 .nil pass0 (pa_cons (pv 0) pa_nil)))
      (pss_one (ps_ret (pe_and (pe_cmpR op_le (pe_callB call_len_seq (by rfl) T.T.len PySem.boot_len (pa_cons (pv 2) pa_nil)) (pe_glob (by rfl) mN rN) (nomark _))
        (pe_one (pe_cmpR op_le (pe_callB cr_txtLen2 (by rfl) T.T.len PySem.boot_len (pa_cons (pe_callTy (cr_txtSetA rfl) (by rfl) T.T.set (by decide +kernel) (pa_cons (pv 2) pa_nil)) pa_nil)) (pe_glob (by rfl) mD rD) (nomark _)))))))))), ?_⟩
    obtain ⟨p, ws, hr1, hp1, PS⟩ := id R
    have l12 := V0.len
    have wl := PS.length
    refine ⟨.ref r, rfl, r, p, c, _, rfl, hr1, hp1, V0.c1, by rw [wl]; exact V0.c2, _, rfl, iteF ?_⟩
    refine ⟨.ref r, rfl, r, _, 1, .ref p, rfl, rfl, SqT.of hr1, atI_nat (j := 1) rfl, ?_⟩
    refine ⟨.ref p, rfl, p, rfl, ⟨_, hp1.seq⟩, fun D nD => lc_tup (K := K) (a := p) (xs := ws) (fun i H1 => Same H H1 ∧ H1 D = some (.lst (((ps.take i).map fun _ => true).map V.bl))) ⟨same_new nD, upd_same⟩ (fun i H1 _ h => (hp1.tups (Same.tups h.1)).seq) ?_ ?_⟩
    · rintro i x H1 hx ⟨s1, hD⟩
      obtain ⟨pt, hpt, pa⟩ := PS.at hx
      have mem : pt ∈ ps := List.mem_of_getElem? hpt
      have tk : ps.take (i + 1) = ps.take i ++ [pt] := by
        rw [List.take_add_one, hpt]
        rfl
      have fin : ∀ H2, Same H1 H2 → ∃ acc, H2 D = some (.lst acc) ∧ acc.length < sizeLine ∧ Same H (upd H2 D (.lst (acc ++ [.bl true]))) ∧ upd H2 D (.lst (acc ++ [.bl true])) D = some (.lst (((ps.take (i + 1)).map fun _ => true).map V.bl)) := fun H2 s2 => by
        refine ⟨_, s2 _ _ hD, ?_, fun d o e => ?_, ?_⟩
        · rw [List.length_map, List.length_map, List.length_take]
          exact small1000 (by omega)
        · rw [upd_ne (ne_of_none e nD)]
          exact s2 _ _ (s1 d o e)
        · rw [upd_same, tk, List.map_append, List.map_append]
          rfl
      have pa1 := pa.tups (Same.tups s1).tup
      cases pt with
      | inl z =>
        cases pa
        exact ⟨rfl, .str z, rfl, .inl ⟨z, rfl, V0.nm z (V0.sub z (mem_names mem List.mem_cons_self)), fun H2 s2 => ⟨_, rfl, iteT (fin H2 s2)⟩⟩⟩
      | inr y =>
        obtain ⟨d, ns⟩ := y
        obtain ⟨a, b, rfl, ha, hb⟩ := pa1
        exact ⟨rfl, .ref a, rfl, .inr ⟨a, rfl, .base (.tup ha), _, rfl, iteF ⟨.ref a, rfl, a, b, d, ns, rfl, ha, hb, V0.inn d ns mem, fun H2 s2 => fin H2 s2⟩⟩⟩
    · rintro H1 ⟨s1, hD⟩
      refine ⟨D, _, rfl, SqL.of hD, ?_⟩
      rw [all_true]
      refine ⟨_, rfl, iteF ?_⟩
      have dup : (∃ zs : List Str, NodesAt K H1 p zs ∧ zs.length < 64 ∧ zs.Nodup) ∨ ∃ (ws : List V) (ps : List Part), GTp H1 p ws ∧ Parts H1 ws ps ∧ ps.length < 63 ∧ ps.Nodup := by
        rcases hp1 with ⟨o, g, e⟩ | ⟨e, ns, rfl⟩
        · exact .inr ⟨ws, ps, ⟨o, g, s1 _ _ e⟩, PS.tups (Same.tups s1).tup, by omega, V0.nd⟩
        · have en : ps = ns.map Sum.inl := by
            clear V0 l12 wl q e hD R hr1 s1 nD
            have : ∀ {us : List V} {qs : List Part}, Parts H us qs → ∀ ms : List Str, us = ms.map V.str → qs = ms.map Sum.inl := by
              intro us qs h
              induction h with
              | nil =>
                intro ms e
                cases ms with
                | nil => rfl
                | cons _ _ => cases e
              | @cons v vs p ps a _ ih =>
                intro ms e
                cases ms with
                | nil => cases e
                | cons y ms =>
                  rw [List.map_cons] at e
                  injection e with e1 e2
                  subst e1
                  rw [ih ms e2]
                  cases p with
                  | inl z =>
                    have a : V.str y = .str z := a
                    injection a with a
                    rw [a]
                    rfl
                  | inr z =>
                    obtain ⟨d, l⟩ := z
                    obtain ⟨_, _, e, _⟩ := a
                    cases e
            exact this PS ns rfl
          refine .inl ⟨ns, .inr (SqT.of (s1 _ _ e)), ?_, ?_⟩
          · have := l12
            rw [en, List.length_map] at this
            omega
          · have := V0.nd
            rw [en] at this
            exact List.Pairwise.of_map Sum.inl (fun a b ne e => ne (congrArg Sum.inl e)) this
      refine ⟨.ref p, rfl, p, rfl, dup, fun H2 s2 => ⟨_, rfl, iteF ?_⟩⟩
      have s02 := s1.trans s2
      have n12 := V0.nam
      refine ⟨.ref r, rfl, r, c, ps, rfl, R.tups (Same.tups s02), trivial, by omega, fun l H3 s3 nl hl => ?_⟩
      refine ⟨.ref l, rfl, l, _, rfl, .inl (SqL.of hl), _, _, rfl, rfl, _, rfl, ?_⟩
      rw [List.length_map, decide_eq_true (show (((namesOf ps).length : Nat) : Int) ≤ 12 by omega)]
      refine iteT ⟨.ref l, rfl, l, namesOf ps, rfl, .inl (SqL.of hl), by omega, fun a m na hm => ⟨a, _, m, rfl, upd_same, by omega, fun most => ⟨_, _, rfl, rfl, ?_⟩⟩⟩
      have le := most xs fun k hk => V0.sub k (of_decide_eq_true hk)
      have f8 := V0.few
      show Q (.bl (decide ((m : Int) ≤ 8))) _
      rw [decide_eq_true (show (m : Int) ≤ 8 by omega)]
      exact q _ ((s02.trans s3).trans (same_new na))
end
end Moot
namespace Moot
open PySem PySem.Spec PyProof.Rows L2
/-- more of the builtins -/
structure Bn (mg : Str → Option Value) : Prop where
  any : mg "any" = none
  dict : mg "dict" = none
theorem nd_len {α : Type} [DecidableEq α] : ∀ (l D : List α), l.Nodup → (∀ y ∈ l, y ∈ D) → l.length ≤ D.length
  | [], _, _, _ => Nat.zero_le _
  | y :: l, D, n, s => by
    obtain ⟨n1, n2⟩ := List.nodup_cons.mp n
    have my := s y List.mem_cons_self
    have := nd_len l (D.erase y) n2 fun z mz => (List.mem_erase_of_ne fun (e : z = y) => n1 (e ▸ mz)).mpr (s z (List.mem_cons_of_mem _ mz))
    have e := List.length_erase_of_mem my
    have := List.length_pos_of_mem my
    rw [List.length_cons]
    omega
/-! one sorted list of the same names -/
theorem lt_tr {a b c : List Nat} (h1 : ltCps b a = false) (h2 : ltCps c b = false) : ltCps c a = false := by
  rw [ltCps_eq] at h1 h2 ⊢
  have h1' : ¬ b < a := of_decide_eq_false h1
  have h2' : ¬ c < b := of_decide_eq_false h2
  exact decide_eq_false (List.not_lt.mpr (List.le_trans (List.not_lt.mp h1') (List.not_lt.mp h2')))
theorem rising_all : ∀ {r : List Str} {x : Str}, risingS x r = true → (∀ y ∈ r, ltCps y.cps.toList x.cps.toList = false) ∧ r.Pairwise fun a b => ltCps b.cps.toList a.cps.toList = false
  | [], _, _ => ⟨fun y m => by simp at m, List.Pairwise.nil⟩
  | z :: r, x, h => by
    have h' : (!ltCps z.cps.toList x.cps.toList && risingS z r) = true := h
    rw [Bool.and_eq_true, Bool.not_eq_true'] at h'
    obtain ⟨a, b⟩ := rising_all h'.2
    refine ⟨fun y m => ?_, List.pairwise_cons.mpr ⟨a, b⟩⟩
    rcases List.mem_cons.mp m with e | m
    · rw [e]
      exact h'.1
    · exact lt_tr h'.1 (a y m)
theorem sorted_pairs {l : List Str} (h : sortedS l = true) : l.Pairwise fun a b => ltCps b.cps.toList a.cps.toList = false := by
  cases l with
  | nil => exact List.Pairwise.nil
  | cons x r => exact List.pairwise_cons.mpr (rising_all h)
abbrev Srt (L : List Str) : Prop := L.Pairwise fun a b => ltCps b.cps.toList a.cps.toList = false
theorem srt_one {a b : List Str} (ha : Srt a) (na : a.Nodup) (hb : Srt b) (nb : b.Nodup) (h : ∀ x, x ∈ a ↔ x ∈ b) : a = b := by
  refine List.Perm.eq_of_pairwise (fun x y _ _ h1 h2 => ?_) ha hb ((List.perm_ext_iff_of_nodup na nb).mpr h)
  rw [ltCps_eq] at h1 h2
  have h1' : ¬ y.cps.toList < x.cps.toList := of_decide_eq_false h1
  have h2' : ¬ x.cps.toList < y.cps.toList := of_decide_eq_false h2
  have e := List.le_antisymm (List.not_lt.mp h1') (List.not_lt.mp h2')
  rcases x with ⟨x⟩
  rcases y with ⟨y⟩
  have : x = y := Array.toList_inj.mp e
  rw [this]
section
variable {P : Program} {w : World} {K : PySem.W.Frag} {mg : Str → Option Value} {base : Heap}
/-! of node sets -/
def spNs2 (K : PySem.W.Frag) : Sp := fun vs H Q _ => ∃ (l : Addr) (zs : List Str), vs = [.ref l] ∧ NodesAt K H l zs ∧ zs.length < 64 ∧
  ∀ (p : Addr) (ys : List Str) (H' : Hp), Same H H' → H p = none → H' p = some (.tup (ys.map V.str)) → Srt ys → ys.Nodup → (∀ x, x ∈ ys ↔ x ∈ zs) → Q (.ref p) H'
theorem ok_ns2 {f : Addr} {fd : FuncData} {k : Nat} (F : Fun K "node_set" "node_set" sNs f fd) (T : Bq mg) : FnOk P w K mg base CX0 (k + 1) f fd ["names"] (spNs2 K) := by
  refine F.ok scNs (fun vs H Q E h => ?_) (fun cdv A outer s H vs Q E hr h => ?_)
  · obtain ⟨l, zs, rfl, _⟩ := h
    rfl
  · obtain ⟨l, zs, rfl, hl, few, q⟩ := h
    refine ⟨_, pss_one (ps_ret (pe_callTy call_tuple_of (by rfl) T.T.tup (by decide +kernel) (pa_cons (pe_callB (cr_txtSorted rfl) (by rfl) T.T.srt (by decide +kernel)
      (pa_cons (pe_callTy (cr_txtSetA rfl) (by rfl) T.T.set (by decide +kernel) (pa_cons (pv 0) pa_nil)) pa_nil)) pa_nil))), ?_⟩
    refine ⟨.ref l, rfl, l, zs, rfl, hl, few, fun a m na hm => ?_⟩
    refine ⟨a, _, m, rfl, upd_same, by omega, fun ys p srt nd mem len np => ?_⟩
    refine ⟨p, _, rfl, .inl ⟨SqL.of upd_same, fun t nt => ?_⟩⟩
    have s1 := same_new (o := TxtSet P w a (fun k => decide (k ∈ zs)) m) na
    have s2 := same_new (o := .lst (ys.map V.str)) np
    have s3 := same_new (o := .tup (ys.map V.str)) nt
    exact q t ys _ ((s1.trans s2).trans s3) ((s1.trans s2).free nt) upd_same (sorted_pairs srt) nd fun x => (mem x).trans (by simp)

end
theorem dc_it {J : It} {n : Nat} {G : Hp → Prop} {Y : Nat → Hp → V → Hp → Prop} (wk : Walk J n G Y) {g : TG} {tt : TT} {tk tv : TE} {vs : List Nat} {σ : L2.St} {H1 : Hp} {D : Addr} {Qd : Hp → Prop} (Pv : Nat → Hp → Prop) (h0 : Pv 0 (upd H1 D (.dK []))) (hG : ∀ i H, i ≤ n → Pv i H → G H)
    (hs : ∀ i x H H', i < n → Pv i H → Y i H x H' → g x (wipe σ vs) H' fun σ2 H2 => wipe σ2 vs = wipe σ vs ∧ tt σ2 H2 fun b H3 =>
      if b = true then tk σ2 H3 fun y H4 => tv σ2 H4 fun z H5 => ∃ kvs k, y = kV k ∧ H5 D = some (.dK kvs) ∧ kvs.length < sizeLine ∧ Pv (i + 1) (upd H5 D (.dK (putK kvs k z))) else Pv (i + 1) H3) (hd : ∀ H, Pv n H → Qd H) :
    ∃ W : Nat → Nat → Hp → Prop, (∃ m, W 0 m (upd H1 D (.dK []))) ∧ ∀ i m H, W i m H →
      (J.stop i H ∧ Qd H) ∨ (J.go i H ∧ ∃ Nx : Hp → Prop, (∀ H', Nx H' → ∃ m', m' < m ∧ W (i + 1) m' H') ∧ ∀ x H', J.yld i H x H' → g x (wipe σ vs) H' fun σ2 H2 => wipe σ2 vs = wipe σ vs ∧ tt σ2 H2 fun b H3 =>
        if b = true then tk σ2 H3 fun y H4 => tv σ2 H4 fun z H5 => ∃ kvs k, y = kV k ∧ H5 D = some (.dK kvs) ∧ kvs.length < sizeLine ∧ Nx (upd H5 D (.dK (putK kvs k z))) else Nx H3) := by
  refine ⟨fun i m H => m + i = n ∧ Pv i H, ⟨n, rfl, h0⟩, ?_⟩
  rintro i m H ⟨e, p⟩
  have q := hG i H (by omega) p
  by_cases lt : i < n
  · exact .inr ⟨wk.goes i H lt q, Pv (i + 1), fun H' p' => ⟨n - (i + 1), by omega, by omega, p'⟩, fun x H' y => hs i x H H' lt p (wk.yields i H x H' lt q y)⟩
  · obtain rfl : i = n := by omega
    exact .inl ⟨wk.stops H q, hd H p⟩
end Moot
namespace Moot
open PySem PySem.Spec PyProof.Rows L2
/-- what each name requires -/
abbrev Rq := Str → Int × List Part
/-! a dict from names to requirements -/
abbrev Rws := List (Str × Addr)
def kvs (rs : Rws) : List (L2.Key × V) := rs.map fun p => ((Sum.inr p.1 : L2.Key), V.ref p.2)
theorem kvs_len (rs : Rws) : (kvs rs).length = rs.length := List.length_map _
theorem val_in : ∀ {rs : Rws} {y : Str}, y ∈ rs.map (·.1) → ∃ r, (y, r) ∈ rs ∧ valV (kvs rs) (Sum.inr y : L2.Key) = some (.ref r)
  | [], _, h => by cases h
  | (x, r) :: rs, y, h => by
    by_cases e : x = y
    · subst e
      exact ⟨r, List.mem_cons_self, valV_pos (p := ((Sum.inr x : L2.Key), V.ref r)) rfl⟩
    · have m : y ∈ rs.map (·.1) := by
        rcases List.mem_cons.mp h with h | h
        · exact absurd h.symm e
        · exact h
      obtain ⟨r', m', e'⟩ := val_in m
      refine ⟨r', List.mem_cons_of_mem _ m', ?_⟩
      show valV (((Sum.inr x : L2.Key), V.ref r) :: kvs rs) (Sum.inr y : L2.Key) = _
      rw [← e']
      unfold valV
      rw [List.find?_cons_of_neg (by simpa using e)]
theorem val_out {rs : Rws} {y : Str} (h : y ∉ rs.map (·.1)) : valV (kvs rs) (Sum.inr y : L2.Key) = none := by
  unfold valV kvs
  rw [List.find?_eq_none.mpr]
  · rfl
  · intro p mp
    obtain ⟨q, mq, rfl⟩ := List.mem_map.mp mp
    simp
    intro e
    exact h (List.mem_map.mpr ⟨q, mq, e⟩)
/-- rows as a list of pairs -/
def RowsAt (H : Hp) (ts : List Addr) (rs : Rws) : Prop := ts.length = rs.length ∧ ∀ (i : Nat) (t : Addr), ts[i]? = some t → ∃ x r, rs[i]? = some (x, r) ∧ Rd H t (.tup [.str x, .ref r])
theorem RowsAt.same {H H' : Hp} {ts : List Addr} {rs : Rws} (h : RowsAt H ts rs) (s : Same H H') : RowsAt H' ts rs := ⟨h.1, fun i t e => let ⟨x, r, h1, h2⟩ := h.2 i t e; ⟨x, r, h1, h2.imp (fun e => s _ _ e) fun ⟨o, e⟩ => ⟨o, s _ _ e⟩⟩⟩
section
variable {P : Program} {w : World} {K : PySem.W.Frag} {mg : Str → Option Value} {base : Heap}
/-! requirements_by_name -/
abbrev sRb : Stmt := top 23
abbrev nRb : List Str := ["rows", "requirements", "name", "requirement"]
theorem scRb : FnScope nRb ["rows"] (defScope sRb) := ⟨rfl, rfl, rfl, by decide +kernel, rfl, by decide +kernel, by decide +kernel⟩
/-- what rows of this kind keep -/
structure Fit (H : Hp) (c : Rq) (xs : List Str) (rs : Rws) : Prop where
  nd : xs.Nodup
  few : xs.length ≤ 8
  nm : ∀ x ∈ xs, Nm x
  ok : ∀ x ∈ xs, Valid xs (c x).1 (c x).2
  keys : (rs.map (·.1)).Perm xs
  each : ∀ q ∈ rs, ReqAt H q.2 (c q.1).1 (c q.1).2
theorem Fit.same {H H' : Hp} {c : Rq} {xs : List Str} {rs : Rws} (h : Fit H c xs rs) (s : Same H H') : Fit H' c xs rs := { h with each := fun q m => (h.each q m).tups (Same.tups s) }
theorem Fit.len {H : Hp} {c : Rq} {xs : List Str} {rs : Rws} (h : Fit H c xs rs) : rs.length = xs.length := by
  have := h.keys.length_eq
  rwa [List.length_map] at this
def spRb (K : PySem.W.Frag) : Sp := fun vs H Q _ => ∃ (l : Addr) (ts : List Addr) (rs : Rws) (c : Rq) (xs : List Str), vs = [.ref l] ∧ SqL K H l (ts.map V.ref) ∧ RowsAt H ts rs ∧ Fit H c xs rs ∧ ∀ (D : Addr) (H' : Hp), Same H H' → H D = none → H' D = some (.dK (kvs rs)) → Q (.ref D) H'
theorem ok_byname {f f1 f2 : Addr} {fd fd1 fd2 : FuncData} {k : Nat} (F : Fun K "requirements_by_name" "requirements_by_name" sRb f fd) (T : Bq mg)
    (F1 : Fun K "is_name" "is_name" sIn f1 fd1) (b1 : Binds K fd1 ["value"] []) (g1 : mg "is_name" = some (.ref f1)) (G1 : FnOk P w K mg base CX0 k f1 fd1 ["value"] (spIn K))
    (F2 : Fun K "is_requirement" "is_requirement" sIr f2 fd2) (b2 : Binds K fd2 ["value"] []) (g2 : mg "is_requirement" = some (.ref f2)) (G2 : FnOk P w K mg base CX0 k f2 fd2 ["value"] spIr) :
    FnOk P w K mg base CX0 (k + 1) f fd ["rows"] (spRb K) := by
  refine F.ok scRb (fun vs H Q E h => ?_) (fun cdv A outer s H vs Q E hr h => ?_)
  · obtain ⟨l, ts, rs, c, xs, rfl, _⟩ := h
    rfl
  · obtain ⟨l, ts, rs, c, xs, rfl, hl, ra, fit, q⟩ := h
    have hu := hu_of hr
    refine ⟨_, pss_cons (ps_set (i := 1) scRb.nd rfl (Or.inl rfl) pe_dnewK)
      (pss_cons (ps_for PassesOwn.never rfl (pi_list (pv 0)) (pg_tup (by rfl) (pgs_cons (pg_name (i := 2) scRb.nd rfl (Or.inl rfl)) (pgs_cons (pg_name (i := 3) scRb.nd rfl (Or.inl rfl)) pgs_nil)))
        (pss_cons (ps_if (pt_not (pt_val (pe_call G1 hr (by rfl) g1 F1.kp b1 .nil pass0 (pa_cons (pv 2) pa_nil)))) (pss_one ps_never) pss_nil)
        (pss_cons (ps_if (pt_cmp (pc_din hu (pv 2) (pv 1))) (pss_one ps_never) pss_nil)
        (pss_cons (ps_if (pt_not (pt_val (pe_call G2 hr (by rfl) g2 F2.kp b2 .nil pass0 (pa_cons (pv 3) pa_nil)))) (pss_one ps_never) pss_nil)
        (pss_one (ps_dput hu (pv 1) (pv 2) (pv 3) rfl))))))
      (pss_one (ps_ret (pv 1)))), ?_⟩
    intro D nD
    have flen := fit.len
    have few := fit.few
    have knd : (rs.map (·.1)).Nodup := fit.keys.nodup_iff.mpr fit.nd
    refine ⟨.ref l, rfl, l, rfl, ⟨_, Same.seq (same_new nD) hl⟩, for_list (K := K) (a := l) (xs := ts.map V.ref) (fun i σ H1 => ∃ (y2 y3 : Option V), σ = [some (.ref l), some (.ref D), y2, y3] ∧ Same H H1 ∧ H1 D = some (.dK (kvs (rs.take i)))) ?_ ?_ ?_ ?_⟩
    · exact ⟨none, none, rfl, same_new nD, upd_same⟩
    · rintro i σ H1 _ ⟨_, _, _, s1, _⟩
      exact Same.seq s1 hl
    · rintro i y σ H1 hy ⟨y2, y3, rfl, s1, hD⟩
      rw [List.getElem?_map] at hy
      obtain ⟨t, ht, rfl⟩ := Option.map_eq_some_iff.mp hy
      obtain ⟨x, r, hxr, htt⟩ := ra.2 i t ht
      have mem : (x, r) ∈ rs := List.mem_of_getElem? hxr
      have tk : rs.take (i + 1) = rs.take i ++ [(x, r)] := by
        rw [List.take_add_one, hxr]
        rfl
      have xin : x ∈ xs := fit.keys.mem_iff.mp (List.mem_map.mpr ⟨_, mem, rfl⟩)
      have new : x ∉ (rs.take i).map (·.1) := by
        intro m
        have e : rs.map (·.1) = (rs.take i).map (·.1) ++ (rs.drop i).map (·.1) := by rw [← List.map_append, List.take_append_drop]
        rw [e] at knd
        refine (List.nodup_append.mp knd).2.2 x m x ?_ rfl
        refine List.mem_map.mpr ⟨(x, r), ?_, rfl⟩
        exact List.mem_of_getElem? (i := 0) (by rw [List.getElem?_drop]; exact hxr)
      refine ⟨t, _, rfl, .inl (htt.imp (fun e => s1 _ _ e) fun ⟨o, e⟩ => ⟨o, s1 _ _ e⟩), rfl, _, _, rfl, _, _, rfl, rfl, ?_⟩
      refine ⟨.str x, rfl, .inl ⟨x, rfl, fit.nm x xin, fun H2 s2 => ⟨_, rfl, iteF ?_⟩⟩⟩
      have hD2 := s2 _ _ hD
      refine ⟨.str x, rfl, .ref D, rfl, D, _, rfl, DGet.k (k := Sum.inr x) hD2, _, rfl, ?_⟩
      rw [val_out new]
      refine iteF ?_
      have u2 : ReqAt H2 r (c x).1 (c x).2 := (fit.each _ mem).tups (Same.tups (s1.trans s2))
      refine ⟨.ref r, rfl, r, _, _, xs, rfl, u2, fit.ok x xin, fun H3 s3 => ⟨_, rfl, iteF ?_⟩⟩
      have hD3 := s3 _ _ hD2
      refine ⟨.ref r, rfl, .ref D, rfl, .str x, rfl, D, _, rfl, DPut.k (k := Sum.inr x) hD3 ?_, ?_⟩
      · rw [kvs_len, List.length_take]
        exact small1000 (by omega)
      · refine ⟨_, _, rfl, fun d o e => ?_, ?_⟩
        · rw [upd_ne (ne_of_none e nD)]
          exact s3 _ _ (s2 _ _ (s1 d o e))
        · rw [upd_same, putK_new _ (val_out new), tk]
          show some (HO.dK (kvs (rs.take i) ++ _)) = some (HO.dK ((rs.take i ++ [(x, r)]).map _))
          rw [List.map_append]
          rfl
    · rintro σ H1 ⟨y2, y3, rfl, s1, hD⟩
      rw [List.length_map, ra.1, List.take_length] at hD
      exact ⟨.ref D, rfl, q D H1 s1 nD hD⟩
end
end Moot
namespace Moot
open PySem PySem.Spec PyProof.Rows L2
/-- all but what stands at D stays -/
def But (D : Addr) (H H' : Hp) : Prop := ∀ b o, H b = some o → b ≠ D → H' b = some o
theorem But.refl (D : Addr) (H : Hp) : But D H H := fun _ _ e _ => e
theorem But.same {D : Addr} {H H1 H2 : Hp} (b : But D H H1) (s : Same H1 H2) : But D H H2 := fun c o e n => s c o (b c o e n)
theorem but_upd {D : Addr} {H : Hp} {o : HO} : But D H (upd H D o) := fun b u e n => by rw [upd_ne n]; exact e
theorem But.req {D : Addr} {H H' : Hp} {o : HO} {r : Addr} {c : Int} {ps : List Part} (b : But D H H') (hD : H D = some o) (no : (∀ xs, o ≠ .tup xs) ∧ ∀ u x, o ≠ .frz u x) (h : ReqAt H r c ps) : ReqAt H' r c ps :=
  h.tups ⟨fun a xs e => b _ _ e fun z => by rw [z, hD] at e; cases e; exact no.1 _ rfl, fun a u x e => b _ _ e fun z => by rw [z, hD] at e; cases e; exact no.2 _ _ rfl⟩
section
variable {P : Program} {w : World} {K : PySem.W.Frag} {mg : Str → Option Value} {base : Heap}
/-! check_names_used -/
abbrev sCu : Stmt := top 24
abbrev nCu : List Str := ["requirements", "name", "used"]
theorem scCu : FnScope nCu ["requirements"] (defScope sCu) := ⟨rfl, rfl, rfl, by decide +kernel, rfl, by decide +kernel, by decide +kernel⟩
def spCu : Sp := fun vs H Q _ => ∃ (D : Addr) (rs : Rws) (c : Rq) (xs : List Str), vs = [.ref D] ∧ H D = some (.dK (kvs rs)) ∧ Fit H c xs rs ∧ ∀ H', Same H H' → Q .non H'
theorem ok_used {f f1 : Addr} {fd fd1 : FuncData} {k : Nat} (F : Fun K "check_names_used" "check_names_used" sCu f fd) (T : Bq mg)
    (F1 : Fun K "names_in" "names_in" sNin f1 fd1) (b1 : Binds K fd1 ["requirement"] []) (g1 : mg "names_in" = some (.ref f1)) (G1 : FnOk P w K mg base CX0 k f1 fd1 ["requirement"] spNin) : FnOk P w K mg base CX0 (k + 1) f fd ["requirements"] spCu := by
  refine F.ok scCu (fun vs H Q E h => ?_) (fun cdv A outer s H vs Q E hr h => ?_)
  · obtain ⟨D, rs, c, xs, rfl, _⟩ := h
    rfl
  · obtain ⟨D, rs, c, xs, rfl, hD, fit, q⟩ := h
    have hu := hu_of hr
    refine ⟨_, pss_one (ps_lock (ps_for PassesOwn.never rfl (pi_keys (pv 0)) (pg_name (i := 1) scCu.nd rfl (Or.inl rfl))
      (pss_one (ps_for PassesOwn.never rfl (pi_tup (pe_call G1 hr (by rfl) g1 F1.kp b1 .nil pass0 (pa_cons (pe_dget hu (pv 0) (pv 1) (fun _ _ => rfl)) pa_nil))) (pg_name (i := 2) scCu.nd rfl (Or.inl rfl))
        (pss_one (ps_if (pt_cmp (pc_dnotin hu (pv 2) (pv 0))) (pss_one ps_never) pss_nil)))))), ?_⟩
    refine ⟨D, _, hD, trivial, fun od => ?_⟩
    have bt : But D H (upd H D (.frz od (.dK (kvs rs)))) := but_upd
    have hF : upd H D (.frz od (.dK (kvs rs))) D = some (.frz od (.dK (kvs rs))) := upd_same
    generalize upd H D (.frz od (.dK (kvs rs))) = H1 at bt hF ⊢
    refine ⟨.ref D, rfl, D, od, rfl, .inl ⟨_, hF, ?_⟩⟩
    refine for_it walk_keys (fun i σ H2 => ∃ y1 y2 : Option V, σ = [some (.ref D), y1, y2] ∧ But D H H2 ∧ H2 D = some (.frz od (.dK (kvs rs)))) ⟨none, none, rfl, bt, hF⟩ (fun i σ H2 _ ⟨_, _, _, _, h⟩ => h) ?_ ?_
    · rintro i x σ H2 H2' hi ⟨y1, y2, rfl, bt2, hF2⟩ ⟨rfl, kk, vv, hkv, rfl⟩
      obtain ⟨⟨x, r⟩, hxr, e⟩ : ∃ q, rs[i]? = some q ∧ ((Sum.inr q.1 : L2.Key), V.ref q.2) = (kk, vv) := by
        unfold kvs at hkv
        rw [List.getElem?_map] at hkv
        obtain ⟨q, h1, h2⟩ := Option.map_eq_some_iff.mp hkv
        exact ⟨q, h1, h2⟩
      cases e
      have mem : (x, r) ∈ rs := List.mem_of_getElem? hxr
      obtain ⟨r', mem', hv⟩ := val_in (rs := rs) (y := x) (List.mem_map.mpr ⟨_, mem, rfl⟩)
      have R := bt2.req hD ⟨fun _ z => (by cases z), fun _ _ z => (by cases z)⟩ (fit.each _ mem')
      have ok := fit.ok x (fit.keys.mem_iff.mp (List.mem_map.mpr ⟨_, mem', rfl⟩))
      have few := ok.nam
      refine ⟨.ref D, rfl, .str x, rfl, D, _, rfl, .inl ⟨_, Sum.inr x, .inr ⟨od, hF2⟩, rfl, hv.symm⟩, ?_⟩
      refine ⟨r', (c x).1, (c x).2, rfl, R, by omega, fun p ys H3 s3 np hp srt nd mem3 => ?_⟩
      refine ⟨p, rfl, ⟨_, SqT.of hp⟩, for_tup (K := K) (a := p) (xs := ys.map V.str) (fun j σ H4 => H4 = H3 ∧ ∃ y2 : Option V, σ = [some (.ref D), some (.str x), y2]) ⟨rfl, _, rfl⟩ (fun j σ H4 _ ⟨e, _⟩ => by rw [e]; exact SqT.of hp) ?_ ?_⟩
      · rintro j y σ H4 hy ⟨rfl, y2', rfl⟩
        rw [List.getElem?_map] at hy
        obtain ⟨z, hz, rfl⟩ := Option.map_eq_some_iff.mp hy
        have mz : z ∈ rs.map (·.1) := by
          exact fit.keys.mem_iff.mpr (ok.sub z ((mem3 z).mp (List.mem_of_getElem? hz)))
        obtain ⟨r2, _, hv2⟩ := val_in mz
        refine ⟨.str z, rfl, .ref D, rfl, D, _, rfl, .inl ⟨_, Sum.inr z, .inr ⟨od, s3 _ _ hF2⟩, rfl, hv2.symm⟩, _, rfl, iteF ⟨rfl, _, rfl⟩⟩
      · rintro σ H4 ⟨rfl, y2', rfl⟩
        exact ⟨_, _, rfl, bt2.same s3, s3 _ _ hF2⟩
    · rintro σ H2 ⟨y1, y2, rfl, bt2, hF2⟩
      refine ⟨hF2, q _ fun b o e => ?_⟩
      by_cases eb : b = D
      · subst eb
        rw [hD] at e
        cases e
        exact upd_same
      · rw [upd_ne eb]
        exact bt2 b o e eb
/-! Network -/
structure Txt (K : PySem.W.Frag) (mg : Str → Option Value) (C : Addr) : Prop where
  cl : Cls K C
  nR : NoAttr K C "requirements"
  mgC : mg "Network" = some (.ref C)
abbrev fld (D : Addr) : List (Str × V) := [("requirements", V.ref D)]
theorem fld_get (D : Addr) : (fld D).lookup ("requirements" : Str) = some (.ref D) := by
  have e : fld D = putF "requirements" (V.ref D) [] := rfl
  rw [e, lookup_putF, if_pos rfl]
/-- a network -/
structure NetAt (C : Addr) (H : Hp) (net D : Addr) (c : Rq) (xs : List Str) (rs : Rws) : Prop where
  ob : ∃ dx, H net = some (.ins C dx (fld D))
  dc : H D = some (.dK (kvs rs))
  fit : Fit H c xs rs
  srt : Srt (rs.map (·.1))
theorem NetAt.same {C : Addr} {H H' : Hp} {net D : Addr} {c : Rq} {xs : List Str} {rs : Rws} (h : NetAt C H net D c xs rs) (s : Same H H') : NetAt C H' net D c xs rs :=
  ⟨let ⟨dx, e⟩ := h.ob; ⟨dx, s _ _ e⟩, s _ _ h.dc, h.fit.same s, h.srt⟩
abbrev sNi : Stmt := inClass (top 25) 0
abbrev nNi : List Str := ["self", "rows", "requirements", "name"]
theorem scNi : FnScope nNi ["self", "rows"] (defScope sNi) := ⟨rfl, rfl, rfl, by decide +kernel, rfl, by decide +kernel, by decide +kernel⟩
def spNi (K : PySem.W.Frag) (C : Addr) : Sp := fun vs H Q _ => ∃ (net dx l : Addr) (ts : List Addr) (rs : Rws) (c : Rq) (xs : List Str), vs = [.ref net, .ref l] ∧ H net = some (.ins C dx []) ∧ SqL K H l (ts.map V.ref) ∧ RowsAt H ts rs ∧ Fit H c xs rs ∧
  ∀ (D : Addr) (rs' : Rws) (H' : Hp), NetAt C H' net D c xs rs' → (∀ q ∈ rs', q ∈ rs) → But net H H' → Q .non H'
theorem pairs_of {rs : Rws} : ∀ (ys : List Str), (∀ y ∈ ys, y ∈ rs.map (·.1)) → ∃ rs' : Rws, rs'.map (·.1) = ys ∧ (∀ q ∈ rs', q ∈ rs ∧ valV (kvs rs) (Sum.inr q.1 : L2.Key) = some (.ref q.2))
  | [], _ => ⟨[], rfl, fun q m => by cases m⟩
  | y :: ys, h => by
    obtain ⟨r, m, e⟩ := val_in (h y List.mem_cons_self)
    obtain ⟨rs', e1, e2⟩ := pairs_of (rs := rs) ys fun z mz => h z (List.mem_cons_of_mem _ mz)
    refine ⟨(y, r) :: rs', by rw [List.map_cons, e1], fun q mq => ?_⟩
    rcases List.mem_cons.mp mq with rfl | mq
    · exact ⟨m, e⟩
    · exact e2 q mq
theorem ok_netinit {f C f1 f2 e : Addr} {fd fd1 fd2 : FuncData} {k : Nat} (F : FunD K "__init__" "Network.__init__" (defArgs sNi) (defBody sNi) (defScope sNi) [.ref e] [] f fd) (T : Bq mg) (X : Txt K mg C)
    (F1 : Fun K "requirements_by_name" "requirements_by_name" sRb f1 fd1) (b1 : Binds K fd1 ["rows"] []) (g1 : mg "requirements_by_name" = some (.ref f1)) (G1 : FnOk P w K mg base CX0 k f1 fd1 ["rows"] (spRb K))
    (F2 : Fun K "check_names_used" "check_names_used" sCu f2 fd2) (b2 : Binds K fd2 ["requirements"] []) (g2 : mg "check_names_used" = some (.ref f2)) (G2 : FnOk P w K mg base CX0 k f2 fd2 ["requirements"] spCu) :
    FnOk P w K mg base CX0 (k + 1) f fd ["self", "rows"] (spNi K C) := by
  refine F.ok scNi (fun vs H Q E h => ?_) (fun cdv A outer s H vs Q E hr h => ?_)
  · obtain ⟨net, dx, l, ts, rs, c, xs, rfl, _⟩ := h
    rfl
  · obtain ⟨net, dx, l, ts, rs, c, xs, rfl, hn, hl, ra, fit, q⟩ := h
    have hu := hu_of hr
    refine ⟨_, pss_cons (ps_set (i := 2) scNi.nd rfl (Or.inr rfl) (pe_call G1 hr (by rfl) g1 F1.kp b1 .nil pass0 (pa_cons (pv 1) pa_nil)))
      (pss_cons (ps_expr (pe_call G2 hr (by rfl) g2 F2.kp b2 .nil pass0 (pa_cons (pv 2) pa_nil)))
      (pss_one (ps_fld (pv 0) (pe_dc (own := [("name", 3)]) (g := gName 3) (tt := tYes) (by rfl) scNi.nd (pi_list (pe_callB (call_sortedD rfl) (by rfl) T.T.srt (by decide +kernel) (pa_cons (pv 2) pa_nil))) (blkOk_by (N := nNi) (sc := defScope sNi) (by decide +kernel))
        (fun _ _ _ _ _ => pg_name (i := 3) scNi.nd rfl (Or.inl rfl)) (fun _ _ _ _ _ => pts_nil) (fun _ _ _ _ _ => pv 3) (fun _ _ _ _ _ => pe_dget hu (pv 2) (pv 3) (fun _ _ => rfl))) rfl))), ?_⟩
    refine ⟨.ref l, rfl, l, ts, rs, c, xs, rfl, hl, ra, fit, fun D H1 s1 nD hD => ?_⟩
    refine ⟨.ref D, rfl, D, rs, c, xs, rfl, hD, fit.same s1, fun H2 s2 => ?_⟩
    have hD2 := s2 _ _ hD
    have flen := fit.len
    have few := fit.few
    refine ⟨.ref D, rfl, D, _, rs.map (·.1), rfl, .inl hD2, by unfold kvs; rw [List.map_map, List.map_map]; rfl, by rw [List.length_map]; omega, fun ys p pm srt np => ?_⟩
    have s3 := same_new (o := .lst (ys.map V.str)) np
    have hp : (upd H2 p (.lst (ys.map V.str))) p = some (.lst (ys.map V.str)) := upd_same
    generalize upd H2 p (.lst (ys.map V.str)) = H3 at s3 hp ⊢
    obtain ⟨rs', e1, e2⟩ := pairs_of (rs := rs) ys fun y my => pm.mem_iff.mp my
    have nd1 : (rs.map (·.1)).Nodup := fit.keys.nodup_iff.mpr fit.nd
    have nd2 : ys.Nodup := pm.nodup_iff.mpr nd1
    have l2 : rs'.length = ys.length := by rw [← e1, List.length_map]
    refine ⟨p, rfl, ⟨_, SqL.of hp⟩, fun D2 nD2 => ?_⟩
    refine dc_it (walk_list (K := K) (a := p) (xs := ys.map V.str)) (fun i H4 => Same H3 H4 ∧ H4 D2 = some (.dK (kvs (rs'.take i)))) ⟨same_new nD2, upd_same⟩ (fun i H4 _ h => SqL.of (h.1 _ _ hp)) ?_ ?_
    · rintro i x H4 H4' hi ⟨s4, hD4⟩ ⟨rfl, hx⟩
      rw [List.getElem?_map] at hx
      obtain ⟨y, hy, rfl⟩ := Option.map_eq_some_iff.mp hx
      obtain ⟨r, hr'⟩ : ∃ r, rs'[i]? = some (y, r) := by
        rw [← e1, List.getElem?_map] at hy
        obtain ⟨⟨y', r⟩, h1, h2⟩ := Option.map_eq_some_iff.mp hy
        cases h2
        exact ⟨r, h1⟩
      have val := (e2 _ (List.mem_of_getElem? hr')).2
      have tk : rs'.take (i + 1) = rs'.take i ++ [(y, r)] := by
        rw [List.take_add_one, hr']
        rfl
      have new : y ∉ (rs'.take i).map (·.1) := by
        intro m
        have e : rs'.map (·.1) = (rs'.take i).map (·.1) ++ (rs'.drop i).map (·.1) := by rw [← List.map_append, List.take_append_drop]
        rw [← e1, e] at nd2
        refine (List.nodup_append.mp nd2).2.2 y m y ?_ rfl
        exact List.mem_map.mpr ⟨(y, r), List.mem_of_getElem? (i := 0) (by rw [List.getElem?_drop]; exact hr'), rfl⟩
      have hDD := s4 _ _ (s3 _ _ hD2)
      refine ⟨rfl, .str y, rfl, .ref D, rfl, .str y, rfl, D, _, rfl, .inl ⟨_, Sum.inr y, .inl hDD, rfl, val.symm⟩, _, Sum.inr y, rfl, hD4, ?_, fun b o eb => ?_, ?_⟩
      · rw [kvs_len, List.length_take]
        have := pm.length_eq
        rw [List.length_map] at this
        exact small1000 (by omega)
      · rw [upd_ne (ne_of_none eb nD2)]
        exact s4 b o eb
      · rw [upd_same, putK_new _ (val_out new), tk]
        show some (HO.dK (kvs (rs'.take i) ++ _)) = some (HO.dK ((rs'.take i ++ [(y, r)]).map _))
        rw [List.map_append]
        rfl
    · rintro H4 ⟨s4, hD4⟩
      rw [List.length_map, ← l2, List.take_length] at hD4
      have s04 : Same H H4 := ((s1.trans s2).trans s3).trans s4
      have nD2n : D2 ≠ net := (ne_of_none (s3 _ _ (s2 _ _ (s1 _ _ hn))) nD2).symm
      refine ⟨.ref net, rfl, net, C, dx, [], rfl, s04 _ _ hn, X.cl, X.nR, by show 0 < 1000; decide, ?_⟩
      have bt : But net H (upd H4 net (.ins C dx (putF "requirements" (.ref D2) []))) := fun b o eb nb => by
        rw [upd_ne nb]
        exact s04 b o eb
      have unis : ∀ r c' ps, ReqAt H r c' ps → ReqAt (upd H4 net (.ins C dx (putF "requirements" (.ref D2) []))) r c' ps := fun r c' ps u => bt.req hn ⟨fun _ z => (by cases z), fun _ _ z => (by cases z)⟩ u
      refine q D2 rs' _ ⟨⟨dx, upd_same⟩, ?_, ⟨fit.nd, fit.few, fit.nm, fit.ok, ?_, fun q mq => unis _ _ _ (fit.each _ (e2 q mq).1)⟩, ?_⟩ (fun q mq => (e2 q mq).1) bt
      · rw [upd_ne nD2n]
        exact hD4
      · rw [e1]
        exact pm.trans fit.keys
      · rw [e1]
        exact sorted_pairs srt
end
end Moot
namespace Moot
open PySem PySem.Spec PyProof.Rows L2
theorem cut_from (ys : List Str) {j : Int} (h : 0 ≤ j) : cutV (ys.map V.str) (some j) none = (ys.drop j.toNat).map V.str := by
  obtain ⟨n, rfl⟩ := Int.eq_ofNat_of_zero_le h
  unfold cutV
  rw [HT.sIx_none, HT.sIx_nat, List.length_map]
  show ((ys.map V.str).drop (min n ys.length)).take (ys.length - min n ys.length) = _
  rw [← List.map_drop, ← List.map_take]
  congr 1
  rw [List.take_of_length_le (by rw [List.length_drop]; exact Nat.le_refl _)]
  rw [Nat.min_def]
  split
  · rfl
  · rw [List.drop_eq_nil_of_le (Nat.le_refl _), List.drop_eq_nil_of_le (by show ys.length ≤ n; omega)]
/-- a requirement of names alone -/
theorem names_valid {xs zs : List Str} {c : Int} (few : xs.length ≤ 8) (nm : ∀ x ∈ xs, Nm x) (nd : zs.Nodup) (sub : ∀ z ∈ zs, z ∈ xs) (c1 : 1 ≤ c) (c2 : c ≤ (zs.length : Int)) : Valid xs c (zs.map Sum.inl) := by
  have l : zs.length ≤ xs.length := nd_len zs xs nd sub
  refine ⟨c1, by rw [List.length_map]; exact c2, inl_nodup nd, by rw [namesOf_names]; omega, few, fun x m => ?_, nm, fun d ns m => ?_⟩
  · rw [namesOf_names] at m
    exact sub x m
  · obtain ⟨z, _, e⟩ := List.mem_map.mp m
    cases e
theorem fine_valid {xs : List Str} {c : Int} {ps : List Part} (few : xs.length ≤ 8) (nd : xs.Nodup) (nm : ∀ x ∈ xs, Nm x) (fine : Fine xs 12 12 ps) (c1 : 1 ≤ c) (c2 : c ≤ (ps.length : Int)) : Valid xs c ps := by
  refine ⟨c1, c2, fine.nd nd, fine.nam, few, ?_, nm, fun d ns m => ?_⟩
  · intro x m
    have go : ∀ {qs : List Part}, (∀ p ∈ qs, Good xs p) → ∀ x ∈ namesOf qs, x ∈ xs := by
      intro qs
      induction qs with
      | nil => intro _ x m; cases m
      | cons p qs ih =>
        intro g x m
        cases p with
        | inl y =>
          rcases List.mem_cons.mp (show x ∈ y :: namesOf qs from m) with e | m
          · rw [e]
            exact g _ List.mem_cons_self
          · exact ih (fun p m => g p (List.mem_cons_of_mem _ m)) x m
        | inr y =>
          rcases List.mem_append.mp (show x ∈ y.2 ++ namesOf qs from m) with m | m
          · exact (g _ List.mem_cons_self).2.2.2.2.2 x m
          · exact ih (fun p m => g p (List.mem_cons_of_mem _ m)) x m
    exact go fine.all x m
  · have g := fine.all _ m
    exact ⟨g.2.2.1, g.2.2.2.1, by have := g.2.1; omega, g.2.2.2.2.1 nd, fun x mx => nm x (g.2.2.2.2.2 x mx)⟩
/-- some requirement that is as it must be -/
def Some1 (H : Hp) (xs : List Str) (r : Addr) : Prop := ∃ d ps, ReqAt H r d ps ∧ Valid xs d ps
theorem Some1.tups {H H' : Hp} {xs : List Str} {r : Addr} (h : Some1 H xs r) (t : Tups H H') : Some1 H' xs r := let ⟨d, ps, a, b⟩ := h; ⟨d, ps, a.tups t, b⟩
theorem fit_of {H : Hp} {xs : List Str} {rs : Rws} (nd : xs.Nodup) (few : xs.length ≤ 8) (nm : ∀ x ∈ xs, Nm x) (keys : rs.map (·.1) = xs) (each : ∀ q ∈ rs, Some1 H xs q.2) : ∃ c : Rq, Fit H c xs rs := by
  have one : ∀ y : Str, ∃ dp : Int × List Part, ∀ r, (y, r) ∈ rs → ReqAt H r dp.1 dp.2 ∧ Valid xs dp.1 dp.2 := fun y => by
    by_cases m : y ∈ xs
    · rw [← keys] at m
      obtain ⟨⟨y', r⟩, mr, rfl⟩ := List.mem_map.mp m
      obtain ⟨d, ps, a, b⟩ := each _ mr
      refine ⟨(d, ps), fun r' mr' => ?_⟩
      have e : r' = r := by
        have uniq : ∀ {l : Rws}, (l.map (·.1)).Nodup → (y', r) ∈ l → (y', r') ∈ l → r' = r := by
          intro l
          induction l with
          | nil => intro _ h; cases h
          | cons q l ih =>
            intro n h1 h2
            obtain ⟨n1, n2⟩ := List.nodup_cons.mp n
            rcases List.mem_cons.mp h1 with e1 | h1 <;> rcases List.mem_cons.mp h2 with e2 | h2
            · rw [← e1] at e2
              exact (Prod.mk.inj e2).2
            · exact absurd (List.mem_map.mpr ⟨_, h2, rfl⟩) (by rw [← e1] at n1; exact n1)
            · exact absurd (List.mem_map.mpr ⟨_, h1, rfl⟩) (by rw [← e2] at n1; exact n1)
            · exact ih n2 h1 h2
        exact uniq (by rw [keys]; exact nd) mr mr'
      subst e
      exact ⟨a, b⟩
    · exact ⟨(0, []), fun r mr => absurd (by rw [← keys]; exact List.mem_map.mpr ⟨_, mr, rfl⟩) m⟩
  refine ⟨fun y => Classical.choose (one y), ⟨nd, few, nm, fun x mx => ?_, by rw [keys], fun q mq => ?_⟩⟩
  · rw [← keys] at mx
    obtain ⟨⟨y', r⟩, mr, rfl⟩ := List.mem_map.mp mx
    exact (Classical.choose_spec (one y') r mr).2
  · exact (Classical.choose_spec (one q.1) q.2 mq).1
theorem RowsAt.tups {H H' : Hp} {ts : List Addr} {rs : Rws} (h : RowsAt H ts rs) (t : Tups H H') : RowsAt H' ts rs := ⟨h.1, fun i a e => let ⟨x, r, h1, h2⟩ := h.2 i a e; ⟨x, r, h1, h2.imp (fun e => t.tup _ _ e) fun ⟨o, e⟩ => ⟨o, t.frz _ _ _ e⟩⟩⟩
theorem RowsAt.snoc {H : Hp} {ts : List Addr} {rs : Rws} {p r : Addr} {x : Str} (h : RowsAt H ts rs) (e : H p = some (.tup [.str x, .ref r])) : RowsAt H (ts ++ [p]) (rs ++ [(x, r)]) := by
  refine ⟨by rw [List.length_append, List.length_append, h.1]; rfl, fun j tj hj => ?_⟩
  by_cases lt : j < ts.length
  · rw [List.getElem?_append_left lt] at hj
    obtain ⟨x', r', h1, h2⟩ := h.2 j tj hj
    exact ⟨x', r', by rw [List.getElem?_append_left (by rw [← h.1]; exact lt)]; exact h1, h2⟩
  · rw [List.getElem?_append_right (by omega)] at hj
    have l2 := (List.getElem?_eq_some_iff.mp hj).1
    rw [List.length_singleton] at l2
    have j0 : j - ts.length = 0 := by omega
    rw [j0] at hj
    cases hj
    exact ⟨x, r, by rw [List.getElem?_append_right (by rw [← h.1]; omega), ← h.1, j0]; rfl, .inl e⟩
theorem RowsAt.put {H : Hp} {ts : List Addr} {rs : Rws} {p r : Addr} {x : Str} {j : Nat} (h : RowsAt H ts rs) (hj : j < ts.length) (e : H p = some (.tup [.str x, .ref r])) : RowsAt H (ts.set j p) (rs.set j (x, r)) := by
  refine ⟨by rw [List.length_set, List.length_set, h.1], fun i ti hi => ?_⟩
  by_cases eq : j = i
  · subst eq
    rw [List.getElem?_set_self hj] at hi
    cases hi
    exact ⟨x, r, List.getElem?_set_self (by rw [← h.1]; exact hj), .inl e⟩
  · rw [List.getElem?_set_ne eq] at hi
    obtain ⟨x', r', h1, h2⟩ := h.2 i ti hi
    exact ⟨x', r', by rw [List.getElem?_set_ne eq]; exact h1, h2⟩
section
variable {P : Program} {w : World} {K : PySem.W.Frag} {mg : Str → Option Value} {base : Heap}
/-! _law_rows -/
abbrev sRows : Stmt := top 34
abbrev nRows : List Str := ["_law_box_here", "_law_most", "_law_names_here", "_law_core", "_law_way", "_law_rows_here", "_law_at", "_law_ring", "_law_some_here"]
theorem scRows : FnScope nRows ["_law_box_here", "_law_most"] (defScope sRows) := ⟨rfl, rfl, rfl, by decide +kernel, rfl, by decide +kernel, by decide +kernel⟩
def spRows : Sp := fun vs H Q _ => ∃ (b g m : Addr) (n most : Nat), vs = [.ref b, .int most] ∧ Box H b g m n ∧ n ≤ 700000 ∧ 1 ≤ most ∧ most ≤ 8 ∧
  ∀ (l : Addr) (ts : List Addr) (rs : Rws) (c : Rq) (xs : List Str) (H' : Hp), H l = none → H' l = some (.lst (ts.map V.ref)) → RowsAt H' ts rs → Fit H' c xs rs → 1 ≤ xs.length → xs.length ≤ most → Box H' b g m (n + 3000) → Keep b g H H' → Q (.ref l) H'
theorem ok_rows {f f1 f2 f3 : Addr} {fd fd1 fd2 fd3 : FuncData} {k : Nat} (F : Fun K "_law_rows" "_law_rows" sRows f fd)
    (FT : Fun K "_law_take" "_law_take" sTake f1 fd1) (bT : Binds K fd1 ["_law_box_here", "_law_size"] []) (gT : mg "_law_take" = some (.ref f1)) (GT : FnOk P w K mg base CX0 k f1 fd1 ["_law_box_here", "_law_size"] spTake)
    (FN : Fun K "_law_names" "_law_names" sNames f2 fd2) (bN : Binds K fd2 ["_law_box_here", "_law_many"] []) (gN : mg "_law_names" = some (.ref f2)) (GN : FnOk P w K mg base CX0 k f2 fd2 ["_law_box_here", "_law_many"] spNames)
    (FR : Fun K "_law_requirement" "_law_requirement" sReq f3 fd3) (bR : Binds K fd3 ["_law_box_here", "_law_names_here"] []) (gR : mg "_law_requirement" = some (.ref f3)) (GR : FnOk P w K mg base CX0 k f3 fd3 ["_law_box_here", "_law_names_here"] spReq) (T : Blt mg) :
    FnOk P w K mg base CX0 (k + 1) f fd ["_law_box_here", "_law_most"] spRows := by
  refine F.ok scRows (fun vs H Q E h => ?_) (fun cdv A outer s H vs Q E hr h => ?_)
  · obtain ⟨b, g, m, n, most, rfl, _⟩ := h
    rfl
  · obtain ⟨b, g, m, n, most, rfl, B, hn, m1, m8, q⟩ := h
    refine ⟨_, pss_cons (ps_set (i := 2) scRows.nd rfl (Or.inl rfl) (pe_call GN hr (by rfl) gN FN.kp bN .nil pass0 (pa_cons (pv 0) (pa_cons (pe_op op_add pe_int (pe_call GT hr (by rfl) gT FT.kp bT .nil pass0 (pa_cons (pv 0) (pa_cons (pv 1) pa_nil)))) pa_nil))))
      (pss_cons (ps_set (i := 3) scRows.nd rfl (Or.inl rfl) (pe_callTy call_tuple_of (by rfl) T.tup (by decide +kernel) (pa_cons (pe_slice sl_list (pv 2) po_none (po_some (pe_callB (call_max2 rfl) (by rfl) T.max (by decide +kernel) (pa_cons pe_int (pa_cons (pe_op op_sub (pe_callB call_len_seq (by rfl) T.len PySem.boot_len (pa_cons (pv 2) pa_nil)) (pe_call GT hr (by rfl) gT FT.kp bT .nil pass0 (pa_cons (pv 0) (pa_cons pe_int pa_nil)))) pa_nil))))) pa_nil)))
      (pss_cons (ps_set (i := 4) scRows.nd rfl (Or.inl rfl) (pe_call GT hr (by rfl) gT FT.kp bT .nil pass0 (pa_cons (pv 0) (pa_cons pe_int pa_nil))))
      (pss_cons (ps_set (i := 5) scRows.nd rfl (Or.inl rfl) (pe_lst pa_nil))
      (pss_cons (ps_for PassesOwn.never rfl (pi_range1 rfl T.rng (pa_cons (pe_callB call_len_seq (by rfl) T.len PySem.boot_len (pa_cons (pv 2) pa_nil)) pa_nil)) (pg_name (i := 6) scRows.nd rfl (Or.inl rfl))
        (pss_cons (ps_set (i := 7) scRows.nd rfl (Or.inl rfl) (pe_callTy call_tuple_of (by rfl) T.tup (by decide +kernel) (pa_cons (pe_slice sl_list (pe_op op_cat (pe_slice sl_list (pv 2) (po_some (pv 6)) po_none) (pe_slice sl_list (pv 2) po_none (po_some (pv 6)))) po_none (po_some pe_int)) pa_nil)))
        (pss_cons (ps_set (i := 8) scRows.nd rfl (Or.inl rfl) (pe_lst (pa_cons (pe_tup (pa_cons (pe_op op_add (pe_op op_fdiv (pe_op op_mul pe_int (pe_callB call_len_seq (by rfl) T.len PySem.boot_len (pa_cons (pv 3) pa_nil))) pe_int) pe_int) (pa_cons (pv 3) pa_nil)))
            (pa_cons (pe_tup (pa_cons (pe_op op_add (pe_op op_fdiv (pe_callB call_len_seq (by rfl) T.len PySem.boot_len (pa_cons (pv 3) pa_nil)) pe_int) pe_int) (pa_cons (pv 3) pa_nil)))
            (pa_cons (pe_tup (pa_cons (pe_callB (call_min2 rfl) (by rfl) T.min (by decide +kernel) (pa_cons pe_int (pa_cons (pe_callB call_len_seq (by rfl) T.len PySem.boot_len (pa_cons (pv 7) pa_nil)) pa_nil))) (pa_cons (pv 7) pa_nil))) pa_nil)))))
        (pss_one (ps_expr (pe_bm PySem.F.plainAttrs_list PySem.F.slot_list_append PySem.F.type_list_append mt_append (pv 5) (pa_cons (pe_tup (pa_cons (pe_ix ix_list (pv 2) (pv 6) (fun _ _ => rfl))
            (pa_cons (pe_ix ix_list (pe_op op_cat (pv 8) (pe_lst (pa_cons (pe_call GR hr (by rfl) gR FR.kp bR .nil pass0 (pa_cons (pv 0) (pa_cons (pv 2) pa_nil))) pa_nil))) (pv 4) (fun _ _ => rfl)) pa_nil))) pa_nil)))))))
      (pss_cons (ps_if (pt_cmpR op_eq (pe_call GT hr (by rfl) gT FT.kp bT .nil pass0 (pa_cons (pv 0) (pa_cons pe_int pa_nil))) pe_int (nomark _))
        (pss_cons (ps_set (i := 6) scRows.nd rfl (Or.inl rfl) (pe_call GT hr (by rfl) gT FT.kp bT .nil pass0 (pa_cons (pv 0) (pa_cons (pe_callB call_len_seq (by rfl) T.len PySem.boot_len (pa_cons (pv 2) pa_nil)) pa_nil))))
        (pss_one (ps_asg (pe_tup (pa_cons (pe_ix ix_list (pv 2) (pv 6) (fun _ _ => rfl)) (pa_cons (pe_call GR hr (by rfl) gR FR.kp bR .nil pass0 (pa_cons (pv 0) (pa_cons (pv 2) pa_nil))) pa_nil))) (pg_sub (pv 5) (pv 6) L2.set_list)))) pss_nil)
      (pss_one (ps_ret (pv 5)))))))), ?_⟩
    refine ⟨.ref b, rfl, .ref b, rfl, .int most, rfl, b, g, m, n, most, rfl, B, by omega, by omega, by omega, fun v0 H1 a0 a1 B1 K1 => ⟨_, _, rfl, rfl, ?_⟩⟩
    have ev : (1 : Int) + v0 = (((1 + v0).toNat : Nat) : Int) := by omega
    refine ⟨b, g, m, _, (1 + v0).toNat, by rw [← ev]; rfl, B1, by omega, by omega, fun np xs H2 nnp h2 xl nd nm B2 K2 => ?_⟩
    have x1 : 1 ≤ xs.length := by omega
    have x8 : xs.length ≤ 8 := by omega
    have xm : xs.length ≤ most := by omega
    obtain ⟨npb, npg⟩ := B2.apart h2
    obtain ⟨o2, g2, e2⟩ := h2
    -- core
    refine ⟨.ref np, rfl, .ref np, rfl, np, _, rfl, .inl (.inl (.inr ⟨o2, e2⟩)), .ref b, rfl, b, g, m, _, 2, rfl, B2, by omega, by decide, by decide, fun v1 H3 b0 b1 B3 K3 => ⟨_, _, rfl, rfl, _, _, rfl, _, rfl, np, _, rfl, .inl (.inr ⟨o2, K3 _ _ e2 npb npg⟩), fun l3 nl3 => ?_⟩⟩
    rw [List.length_map]
    have jn : (0 : Int) ≤ (if (xs.length : Int) - v1 > 1 then (xs.length : Int) - v1 else 1) := by split <;> omega
    have jp : 1 ≤ (if (xs.length : Int) - v1 > 1 then (xs.length : Int) - v1 else 1).toNat := by split <;> omega
    rw [cut_to xs jn]
    have cnd : (xs.take (if (xs.length : Int) - v1 > 1 then (xs.length : Int) - v1 else 1).toNat).Nodup := nd.sublist (List.take_sublist _ _)
    have csub : ∀ z ∈ xs.take (if (xs.length : Int) - v1 > 1 then (xs.length : Int) - v1 else 1).toNat, z ∈ xs := fun z mz => List.mem_of_mem_take mz
    have cl : 1 ≤ (xs.take (if (xs.length : Int) - v1 > 1 then (xs.length : Int) - v1 else 1).toNat).length := by rw [List.length_take]; omega
    have c8 : (xs.take (if (xs.length : Int) - v1 > 1 then (xs.length : Int) - v1 else 1).toNat).length ≤ 8 := by rw [List.length_take]; omega
    generalize xs.take (if (xs.length : Int) - v1 > 1 then (xs.length : Int) - v1 else 1).toNat = cs at cnd csub cl c8 ⊢
    refine ⟨l3, _, rfl, .inl ⟨SqL.of upd_same, fun t1 nt1 => ?_⟩⟩
    have s4 := (same_new (o := .lst (cs.map V.str)) nl3).trans (same_new (o := .tup (cs.map V.str)) nt1)
    have ht1 : upd (upd H3 l3 (.lst (cs.map V.str))) t1 (.tup (cs.map V.str)) t1 = some (.tup (cs.map V.str)) := upd_same
    have B4 := B3.same s4
    have K14 : Keep b g H2 (upd (upd H3 l3 (.lst (cs.map V.str))) t1 (.tup (cs.map V.str))) := K3.trans (Same.keep s4)
    obtain ⟨t1b, t1g, _⟩ := (B3.same (same_new nl3)).ne nt1
    generalize upd (upd H3 l3 (.lst (cs.map V.str))) t1 (.tup (cs.map V.str)) = H4 at ht1 B4 K14 ⊢
    -- way, rows
    refine ⟨.ref b, rfl, b, g, m, _, 4, rfl, B4, by omega, by decide, by decide, fun way H5 w0 w1 B5 K5 => ⟨Nat.zero_le _, fun l nl => ?_⟩⟩
    obtain ⟨lb, lg, lm⟩ := B5.ne nl
    have K05 : Keep b g H H5 := ((K1.trans K2).trans K14).trans K5
    have s6 := same_new (o := .lst []) nl
    have nl0 : H l = none := K05.free lb lg nl
    have np5 := K5 _ _ (K14 _ _ e2 npb npg) npb npg
    have t15 := K5 _ _ ht1 t1b t1g
    refine ⟨.ref np, rfl, np, _, rfl, .inl (.inl (.inr ⟨o2, s6 _ _ np5⟩)), xs.length, by rw [List.length_map], by omega, by omega, for_range (lo := 0) (n := xs.length) (fun i σ H7 => ∃ (y6 y7 y8 : Option V) (ts : List Addr) (rs : Rws), σ = [some (.ref b), some (.int most), some (.ref np), some (.ref t1), some (.int way), some (.ref l), y6, y7, y8] ∧
      Box H7 b g m (n + 200 + 101 * i) ∧ Keep b g H H7 ∧ H7 np = some (.frz o2 (.lst (xs.map V.str))) ∧ H7 t1 = some (.tup (cs.map V.str)) ∧ H7 l = some (.lst (ts.map V.ref)) ∧ RowsAt H7 ts rs ∧ rs.map (·.1) = xs.take i ∧ ∀ q ∈ rs, Some1 H7 xs q.2) ?_ ?_ ?_⟩
    · exact ⟨none, none, none, [], [], rfl, (B5.same s6).more (by omega), K05.trans (Same.keep s6), s6 _ _ np5, s6 _ _ t15, upd_same, ⟨rfl, fun i t e => by cases e⟩, rfl, fun q mq => by cases mq⟩
    · rintro i σ H7 hi ⟨y6, y7, y8, ts, rs, rfl, B7, K7, np7, t17, hl7, ra, ek, each⟩
      have i8 : i < 8 := by omega
      obtain ⟨xi, hxi⟩ : ∃ x, xs[i]? = some x := ⟨xs[i], List.getElem?_eq_getElem hi⟩
      have i0 : (0 : Int) ≤ 0 + (i : Int) := by omega
      have it : (0 + (i : Int)).toNat = i := by omega
      -- ring
      refine ⟨.ref np, rfl, .int (0 + i), rfl, 0 + i, rfl, np, _, rfl, .inl (.inr ⟨o2, np7⟩), fun a1 na1 => ?_⟩
      rw [cut_from xs i0, it]
      have s8 := same_new (o := .lst ((xs.drop i).map V.str)) na1
      have ha1 : upd H7 a1 (.lst ((xs.drop i).map V.str)) a1 = some (.lst ((xs.drop i).map V.str)) := upd_same
      generalize upd H7 a1 (.lst ((xs.drop i).map V.str)) = H8 at s8 ha1 ⊢
      refine ⟨.ref np, rfl, .int (0 + i), rfl, 0 + i, rfl, np, _, rfl, .inl (.inr ⟨o2, s8 _ _ np7⟩), fun a2 na2 => ?_⟩
      rw [cut_to xs i0, it]
      have s9 := same_new (o := .lst ((xs.take i).map V.str)) na2
      have ha2 : upd H8 a2 (.lst ((xs.take i).map V.str)) a2 = some (.lst ((xs.take i).map V.str)) := upd_same
      generalize upd H8 a2 (.lst ((xs.take i).map V.str)) = H9 at s9 ha2 ⊢
      refine ⟨a1, a2, _, _, rfl, rfl, s9 _ _ ha1, ha2, ?_, fun a3 na3 => ?_⟩
      · rw [List.length_map, List.length_map, List.length_drop, List.length_take]
        exact Nat.le_of_lt (small1000 (by omega))
      rw [← List.map_append]
      have s10 := same_new (o := .lst ((xs.drop i ++ xs.take i).map V.str)) na3
      have ha3 : upd H9 a3 (.lst ((xs.drop i ++ xs.take i).map V.str)) a3 = some (.lst ((xs.drop i ++ xs.take i).map V.str)) := upd_same
      generalize upd H9 a3 (.lst ((xs.drop i ++ xs.take i).map V.str)) = H10 at s10 ha3 ⊢
      refine ⟨3, rfl, a3, _, rfl, SqL.of ha3, fun a4 na4 => ?_⟩
      rw [cut_to _ (show (0 : Int) ≤ 3 by decide)]
      have rperm : (xs.drop i ++ xs.take i).Perm xs := List.perm_append_comm.trans (by rw [List.take_append_drop])
      have rnd : ((xs.drop i ++ xs.take i).take (3 : Int).toNat).Nodup := (rperm.nodup_iff.mpr nd).sublist (List.take_sublist _ _)
      have rsub : ∀ z ∈ (xs.drop i ++ xs.take i).take (3 : Int).toNat, z ∈ xs := fun z mz => rperm.mem_iff.mp (List.mem_of_mem_take mz)
      have rl : 1 ≤ ((xs.drop i ++ xs.take i).take (3 : Int).toNat).length := by
        rw [List.length_take, rperm.length_eq]
        show 1 ≤ min 3 _
        omega
      generalize (xs.drop i ++ xs.take i).take (3 : Int).toNat = ring at rnd rsub rl ⊢
      refine ⟨a4, _, rfl, .inl ⟨SqL.of upd_same, fun t2 nt2 => ?_⟩⟩
      have s12 := (((s8.trans s9).trans s10).trans (same_new (o := .lst (ring.map V.str)) na4)).trans (same_new (o := .tup (ring.map V.str)) nt2)
      have ht2 : upd (upd H10 a4 (.lst (ring.map V.str))) t2 (.tup (ring.map V.str)) t2 = some (.tup (ring.map V.str)) := upd_same
      generalize upd (upd H10 a4 (.lst (ring.map V.str))) t2 (.tup (ring.map V.str)) = H12 at s12 ht2 ⊢
      clear s8 s9 s10 ha1 ha2 ha3 na1 na2 na3 na4 nt2
      have t112 := s12 _ _ t17
      -- some_here
      refine ⟨.ref t1, rfl, t1, _, rfl, .inr (SqT.of t112), _, _, rfl, rfl, .inl ⟨by decide, by decide⟩, _, _, rfl, rfl, ⟨by decide, by decide⟩, _, _, rfl, rfl, .ref t1, rfl, by show 2 ≤ sizeLine; decide, fun p1 np1 => ?_⟩
      have s13 := same_new (o := .tup [.int (2 * ((cs.map V.str).length : Int) / 3 + 1), .ref t1]) np1
      refine ⟨.ref t1, rfl, t1, _, rfl, .inr (SqT.of (s13 _ _ t112)), _, _, rfl, rfl, ⟨by decide, by decide⟩, _, _, rfl, rfl, .ref t1, rfl, by show 2 ≤ sizeLine; decide, fun p2 np2 => ?_⟩
      have s14 := same_new (o := .tup [.int (((cs.map V.str).length : Int) / 2 + 1), .ref t1]) np2
      refine ⟨.ref t2, rfl, t2, _, rfl, .inr (SqT.of ((s13.trans s14) _ _ ht2)), _, _, rfl, .ref t2, rfl, by show 2 ≤ sizeLine; decide, fun p3 np3 => ⟨by show 3 ≤ sizeLine; decide, fun a5 na5 => ?_⟩⟩
      have s15 := same_new (o := .tup [.int (if ((ring.map V.str).length : Int) < 2 then ((ring.map V.str).length : Int) else 2), .ref t2]) np3
      have s16 := same_new (o := .lst [.ref p1, .ref p2, .ref p3]) na5
      have hp1 := ((s14.trans s15).trans s16) _ _ (upd_same (H := H12) (a := p1) (o := .tup [.int (2 * ((cs.map V.str).length : Int) / 3 + 1), .ref t1]))
      have hp2 := (s15.trans s16) _ _ (upd_same (H := upd H12 p1 (.tup [.int (2 * ((cs.map V.str).length : Int) / 3 + 1), .ref t1])) (a := p2) (o := .tup [.int (((cs.map V.str).length : Int) / 2 + 1), .ref t1]))
      have hp3 := s16 _ _ (upd_same (H := upd (upd H12 p1 (.tup [.int (2 * ((cs.map V.str).length : Int) / 3 + 1), .ref t1])) p2 (.tup [.int (((cs.map V.str).length : Int) / 2 + 1), .ref t1])) (a := p3) (o := .tup [.int (if ((ring.map V.str).length : Int) < 2 then ((ring.map V.str).length : Int) else 2), .ref t2]))
      have s1216 := ((s13.trans s14).trans s15).trans s16
      have ha5 : upd (upd (upd (upd H12 p1 (.tup [.int (2 * ((cs.map V.str).length : Int) / 3 + 1), .ref t1])) p2 (.tup [.int (((cs.map V.str).length : Int) / 2 + 1), .ref t1])) p3 (.tup [.int (if ((ring.map V.str).length : Int) < 2 then ((ring.map V.str).length : Int) else 2), .ref t2])) a5 (.lst [.ref p1, .ref p2, .ref p3]) a5 = some (.lst [.ref p1, .ref p2, .ref p3]) := upd_same
      obtain ⟨a5b, a5g, _⟩ := (B7.same s12).ne (((s13.trans s14).trans s15).free na5)
      have s716 := s12.trans s1216
      have B16 := B7.same s716
      have np16 := s716 _ _ np7
      have l16 := s716 _ _ hl7
      have rl3 : (ring.map V.str).length = ring.length := List.length_map _
      have cl3 : (cs.map V.str).length = cs.length := List.length_map _
      have r1 : Some1 _ xs p1 := ⟨_, cs.map Sum.inl, ⟨t1, _, hp1, .inr ⟨s1216 _ _ t112, cs, rfl⟩, Parts.names cs⟩, names_valid x8 nm cnd csub (by rw [cl3]; omega) (by rw [cl3]; omega)⟩
      have r2 : Some1 _ xs p2 := ⟨_, cs.map Sum.inl, ⟨t1, _, hp2, .inr ⟨s1216 _ _ t112, cs, rfl⟩, Parts.names cs⟩, names_valid x8 nm cnd csub (by rw [cl3]; omega) (by rw [cl3]; omega)⟩
      have r3 : Some1 _ xs p3 := ⟨_, ring.map Sum.inl, ⟨t2, _, hp3, .inr ⟨s1216 _ _ ht2, ring, rfl⟩, Parts.names ring⟩, names_valid x8 nm rnd rsub (by rw [rl3]; split <;> omega) (by rw [rl3]; split <;> omega)⟩
      have atx : atI (xs.map V.str) (0 + (i : Int)) = some (.str xi) := by
        rw [show (0 : Int) + (i : Int) = ((i : Nat) : Int) from by omega]
        exact atI_nat (by rw [List.getElem?_map, hxi]; rfl)
      refine ⟨.ref l, rfl, .inl ⟨rfl, _, SqL.of l16⟩, .ref np, rfl, .int (0 + i), rfl, np, _, _, _, rfl, rfl, .inl (.inr ⟨o2, np16⟩), atx, .ref a5, rfl, .ref b, rfl, .ref np, rfl, b, g, m, np, _, xs, rfl, B16, by omega, ⟨o2, g2, np16⟩, x1, by omega, nm, fun r d ps H17 nr R fine d1 d2 B17 K17 => ⟨by show 1 ≤ sizeLine; decide, fun a6 na6 => ?_⟩⟩
      have a517 := K17 _ _ ha5 a5b a5g
      have s18 := same_new (o := .lst [.ref r]) na6
      refine ⟨a5, a6, _, _, rfl, rfl, s18 _ _ a517, upd_same, by show 3 + 1 ≤ sizeLine; decide, fun a7 na7 => ?_⟩
      have s19 := same_new (o := .lst ([.ref p1, .ref p2, .ref p3] ++ [.ref r])) na7
      have tup17 := K17.tups B16
      have t19 := tup17.trans (Same.tups (s18.trans s19))
      obtain ⟨rr, atr, somer⟩ : ∃ rr, atI [V.ref p1, V.ref p2, V.ref p3, V.ref r] way = some (.ref rr) ∧ Some1 (upd (upd H17 a6 (.lst [.ref r])) a7 (.lst ([.ref p1, .ref p2, .ref p3] ++ [.ref r]))) xs rr := by
        have cw : way = 0 ∨ way = 1 ∨ way = 2 ∨ way = 3 := by omega
        rcases cw with rfl | rfl | rfl | rfl
        · exact ⟨p1, atI_nat (j := 0) rfl, r1.tups t19⟩
        · exact ⟨p2, atI_nat (j := 1) rfl, r2.tups t19⟩
        · exact ⟨p3, atI_nat (j := 2) rfl, r3.tups t19⟩
        · exact ⟨r, atI_nat (j := 3) rfl, d, ps, R.at.tups (Same.tups (s18.trans s19)), fine_valid x8 nd nm fine d1 d2⟩
      refine ⟨.int way, rfl, a7, _, way, .ref rr, rfl, rfl, SqL.of upd_same, atr, by show 2 ≤ sizeLine; decide, fun p4 np4 => ?_⟩
      have s20 := same_new (o := .tup [.str xi, .ref rr]) np4
      have s1720 := (s18.trans s19).trans s20
      have l20 := s1720 _ _ (K17 _ _ l16 lb lg)
      have hp4 : upd (upd (upd H17 a6 (.lst [.ref r])) a7 (.lst ([.ref p1, .ref p2, .ref p3] ++ [.ref r]))) p4 (.tup [.str xi, .ref rr]) p4 = some (.tup [.str xi, .ref rr]) := upd_same
      have K20 : Keep b g H7 (upd (upd (upd H17 a6 (.lst [.ref r])) a7 (.lst ([.ref p1, .ref p2, .ref p3] ++ [.ref r]))) p4 (.tup [.str xi, .ref rr])) := ((Same.keep s716).trans K17).trans (Same.keep s1720)
      have B20 := B17.same s1720
      have np20 := K20 _ _ np7 npb npg
      have t120 := K20 _ _ t17 t1b t1g
      have tup20 := K20.tups B7
      have some20 := somer.tups (Same.tups s20)
      have rlen : rs.length = i := by
        have := congrArg List.length ek
        rw [List.length_map, List.length_take] at this
        omega
      have tlen : ts.length = i := ra.1.trans rlen
      refine ⟨l, _, _, rfl, rfl, l20, ?_, some (.int (0 + i)), some (.ref t2), some (.ref a5), ts ++ [p4], rs ++ [(xi, rr)], rfl, (B20.store lb lg lm).more (by omega), ?_, ?_, ?_, ?_, ?_, ?_, ?_⟩
      · rw [List.length_map]
        exact small1000 (by omega)
      · intro x o e n1 n2
        rw [upd_ne (ne_of_none e nl0)]
        exact K20 _ _ (K7 _ _ e n1 n2) n1 n2
      · rw [upd_ne (fun z => by rw [z, l20] at np20; cases np20)]
        exact np20
      · rw [upd_ne (fun z => by rw [z, l20] at t120; cases t120)]
        exact t120
      · rw [upd_same, List.map_append]
        rfl
      · exact (((ra.tups tup20).snoc hp4)).tups (tups_store (ys := ts.map V.ref ++ [.ref p4]) l20)
      · rw [List.map_append, ek, List.take_add_one, hxi]
        rfl
      · intro q mq
        have tl : Tups (upd (upd (upd H17 a6 (.lst [.ref r])) a7 (.lst ([.ref p1, .ref p2, .ref p3] ++ [.ref r]))) p4 (.tup [.str xi, .ref rr])) _ := tups_store (ys := ts.map V.ref ++ [.ref p4]) l20
        rcases List.mem_append.mp mq with mq | mq
        · exact ((each q mq).tups tup20).tups tl
        · rw [List.mem_singleton.mp mq]
          exact some20.tups tl
    · rintro σ H7 ⟨y6, y7, y8, ts, rs, rfl, B7, K7, np7, t17, hl7, ra, ek, each⟩
      rw [List.take_length] at ek
      have rlen : rs.length = xs.length := by
        have := congrArg List.length ek
        rw [List.length_map] at this
        exact this
      have fin : ∀ (H' : Hp) (ts : List Addr) (rs : Rws), Keep b g H H' → Box H' b g m (n + 3000) → H' l = some (.lst (ts.map V.ref)) → RowsAt H' ts rs → rs.map (·.1) = xs → (∀ q ∈ rs, Some1 H' xs q.2) → Q (.ref l) H' := fun H' ts rs KK BB hl ra ek each => by
        obtain ⟨c, fit⟩ := fit_of nd x8 nm ek each
        exact q l ts rs c xs H' nl0 hl ra fit x1 xm BB KK
      refine ⟨.ref b, rfl, b, g, m, _, 3, rfl, B7, by omega, by decide, by decide, fun v H8 c0 c1 B8 K8 => ⟨rfl, _, rfl, ite2 (fun _ => ?_) fun _ => ?_⟩⟩
      · have np8 := K8 _ _ np7 npb npg
        refine ⟨.ref b, rfl, .ref np, rfl, np, _, rfl, .inl (.inl (.inr ⟨o2, np8⟩)), b, g, m, _, xs.length, by rw [List.length_map]; rfl, B8, by omega, by omega, by omega, fun at' H9 f0 f1 B9 K9 => ?_⟩
        obtain ⟨j, rfl⟩ := Int.eq_ofNat_of_zero_le f0
        have jl : j < xs.length := by omega
        obtain ⟨xj, hxj⟩ : ∃ x, xs[j]? = some x := ⟨xs[j], List.getElem?_eq_getElem jl⟩
        have np9 := K9 _ _ np8 npb npg
        refine ⟨.ref np, rfl, .int j, rfl, np, _, _, _, rfl, rfl, .inl (.inr ⟨o2, np9⟩), atI_nat (by rw [List.getElem?_map, hxj]; rfl), .ref b, rfl, .ref np, rfl, b, g, m, np, _, xs, rfl, B9, by omega, ⟨o2, g2, np9⟩, x1, by omega, nm, fun r d ps H10 nr R fine d1 d2 B10 K10 => ⟨by show 2 ≤ sizeLine; decide, fun p4 np4 => ?_⟩⟩
        have s11 := same_new (o := .tup [.str xj, .ref r]) np4
        have K711 := ((K8.trans K9).trans K10).trans (Same.keep s11)
        have l11 := K711 _ _ hl7 lb lg
        have tup11 := K711.tups B7
        have B11 := B10.same s11
        refine ⟨.ref l, rfl, .int j, rfl, l, _, j, j, rfl, rfl, l11, ?_, .ref l, rfl, ?_⟩
        · rw [List.length_map, ra.1, rlen]
          unfold ixN
          rw [if_pos (by omega), if_pos (by omega)]
          simp
        have ts2 : ((ts.map V.ref).set j (.ref p4)) = (ts.set j p4).map V.ref := by rw [List.map_set]
        have tl := tups_store (ys := (ts.map V.ref).set j (.ref p4)) l11
        refine fin _ (ts.set j p4) (rs.set j (xj, r)) ?_ ((B11.store lb lg lm).more (by omega)) ?_ ?_ ?_ ?_
        · intro x o e n1 n2
          rw [upd_ne (ne_of_none e nl0)]
          exact K711 _ _ (K7 _ _ e n1 n2) n1 n2
        · rw [upd_same, ts2]
        · exact ((ra.tups tup11).put (by rw [ra.1]; omega) upd_same).tups tl
        · rw [List.map_set, ek]
          refine List.ext_getElem? fun i => ?_
          by_cases e : j = i
          · subst e
            rw [List.getElem?_set_self jl, hxj]
          · rw [List.getElem?_set_ne e]
        · intro q mq
          rcases List.mem_or_eq_of_mem_set mq with mq | rfl
          · exact ((each q mq).tups tup11).tups tl
          · exact (Some1.tups ⟨d, ps, R.at, fine_valid x8 nd nm fine d1 d2⟩ (Same.tups s11)).tups tl
      · exact ⟨.ref l, rfl, fin H8 ts rs (K7.trans K8) (B8.more (by omega)) (K8 _ _ hl7 lb lg) (ra.tups (K8.tups B7)) ek fun q mq => (each q mq).tups (K8.tups B7)⟩
end
end Moot
namespace Moot
open PySem PySem.Spec PyProof.Rows L2
/-- x not in t, t a tuple of data -/
def rNotInU (K : PySem.W.Frag) : R2 := fun x y H Q => ∃ d ds, Dp K H x d ∧ Dp K H y (.tuple ds) ∧ SeqAt.shaped d = true ∧ SeqAt.shaped (.tuple ds) = true ∧ Q (.bl (!ds.any fun z => PyData.eqv z d)) H
theorem op_notInU {X : Cx} (hu : X.A.units + 65 < cLine) : OpR X (compareOp .NotIn) (rNotInU X.K) := by
  intro pins s σ H x y v u Q I rx ry h
  obtain ⟨d, ds, hd, he, sd, se, q⟩ := h
  obtain ⟨as, r1⟩ := Dp.reads I d x v hd rx
  obtain ⟨bs, r2⟩ := Dp.reads I (.tuple ds) y u he ry
  have room : X.A.units + 1 + min (PyData.depthAll ds) d.depth < cLine := by
    have h64 : d.depth ≤ 64 := by
      unfold SeqAt.shaped at sd
      rw [Bool.and_eq_true] at sd
      exact of_decide_eq_true sd.2
    have := Nat.min_le_right (PyData.depthAll ds) d.depth
    omega
  exact SeqAt.notIn_tuple_reads r2 r1 (SeqAt.canLay_of_shaped se) (SeqAt.canLay_of_shaped sd) room ⟨.bl _, H, I, rfl, q⟩
end Moot
namespace Moot
open PySem PySem.Spec PyProof.Rows L2
/-! data of any kind, away from the box -/
mutual
def Dv (b g : Addr) (H : Hp) : PyData → V → Prop
  | .none, v => v = .non
  | .bool x, v => v = .bl x
  | .int i, v => v = .int i
  | .str x, v => v = .str x
  | .list ds, v => ∃ a xs, v = .ref a ∧ a ≠ b ∧ a ≠ g ∧ H a = some (.lst xs) ∧ DvAll b g H ds xs
  | .tuple ds, v => ∃ a xs, v = .ref a ∧ a ≠ b ∧ a ≠ g ∧ H a = some (.tup xs) ∧ DvAll b g H ds xs
  | .dict _, _ => False
def DvAll (b g : Addr) (H : Hp) : List PyData → List V → Prop
  | [], xs => xs = []
  | d :: ds, xs => ∃ v vs, xs = v :: vs ∧ Dv b g H d v ∧ DvAll b g H ds vs
end
mutual
theorem Dv.keep {b g : Addr} {H H' : Hp} (k : Keep b g H H') : ∀ (d : PyData) (v : V), Dv b g H d v → Dv b g H' d v
  | .none, _, h => h
  | .bool _, _, h => h
  | .int _, _, h => h
  | .str _, _, h => h
  | .list ds, _, h => let ⟨a, xs, e, n1, n2, h1, h2⟩ := h; ⟨a, xs, e, n1, n2, k _ _ h1 n1 n2, DvAll.keep k ds xs h2⟩
  | .tuple ds, _, h => let ⟨a, xs, e, n1, n2, h1, h2⟩ := h; ⟨a, xs, e, n1, n2, k _ _ h1 n1 n2, DvAll.keep k ds xs h2⟩
  | .dict _, _, h => h.elim
theorem DvAll.keep {b g : Addr} {H H' : Hp} (k : Keep b g H H') : ∀ (ds : List PyData) (xs : List V), DvAll b g H ds xs → DvAll b g H' ds xs
  | [], _, h => h
  | d :: ds, _, h => let ⟨v, vs, e, h1, h2⟩ := h; ⟨v, vs, e, Dv.keep k d v h1, DvAll.keep k ds vs h2⟩
end
theorem Dv.same {b g : Addr} {H H' : Hp} {d : PyData} {v : V} (h : Dv b g H d v) (s : Same H H') : Dv b g H' d v := Dv.keep (Same.keep s) d v h
theorem DvAll.same {b g : Addr} {H H' : Hp} {ds : List PyData} {xs : List V} (h : DvAll b g H ds xs) (s : Same H H') : DvAll b g H' ds xs := DvAll.keep (Same.keep s) ds xs h
mutual
theorem Dv.dp {b g : Addr} {K : PySem.W.Frag} {H : Hp} : ∀ (d : PyData) (v : V), Dv b g H d v → Dp K H v d
  | .none, _, h => by cases h; exact .non
  | .bool _, _, h => by cases h; exact .bl _
  | .int _, _, h => by cases h; exact .int _
  | .str _, _, h => by cases h; exact .str _
  | .list ds, _, h => by
    obtain ⟨a, xs, rfl, n1, n2, h1, h2⟩ := h
    exact .lst (SqL.of h1) (DvAll.dp ds xs h2)
  | .tuple ds, _, h => by
    obtain ⟨a, xs, rfl, n1, n2, h1, h2⟩ := h
    exact .tup (SqT.of h1) (DvAll.dp ds xs h2)
  | .dict _, _, h => h.elim
theorem DvAll.dp {b g : Addr} {K : PySem.W.Frag} {H : Hp} : ∀ (ds : List PyData) (xs : List V), DvAll b g H ds xs → DpAll K H xs ds
  | [], _, h => by cases h; exact .nil
  | d :: ds, _, h => by
    obtain ⟨v, vs, rfl, h1, h2⟩ := h
    exact .cons (Dv.dp d v h1) (DvAll.dp ds vs h2)
end
theorem DvAll.len {b g : Addr} {H : Hp} : ∀ {ds : List PyData} {xs : List V}, DvAll b g H ds xs → xs.length = ds.length
  | [], _, h => by cases h; rfl
  | d :: ds, _, h => by
    obtain ⟨v, vs, rfl, h1, h2⟩ := h
    rw [List.length_cons, List.length_cons, DvAll.len h2]
theorem DvAll.get {b g : Addr} {H : Hp} : ∀ {ds : List PyData} {xs : List V}, DvAll b g H ds xs → ∀ {i : Nat} {v : V}, xs[i]? = some v → ∃ d, ds[i]? = some d ∧ Dv b g H d v
  | [], _, h, i, v, e => by
    cases h
    cases e
  | d :: ds, _, h, i, v, e => by
    obtain ⟨w, vs, rfl, h1, h2⟩ := h
    cases i with
    | zero =>
      cases e
      exact ⟨d, rfl, h1⟩
    | succ i => exact DvAll.get h2 e
theorem DvAll.at {b g : Addr} {H : Hp} : ∀ {ds : List PyData} {xs : List V}, DvAll b g H ds xs → ∀ {i : Nat} {d : PyData}, ds[i]? = some d → ∃ v, xs[i]? = some v ∧ Dv b g H d v
  | [], _, h, i, d, e => by cases e
  | c :: ds, _, h, i, d, e => by
    obtain ⟨w, vs, rfl, h1, h2⟩ := h
    cases i with
    | zero =>
      cases e
      exact ⟨w, rfl, h1⟩
    | succ i => exact DvAll.at h2 e
theorem DvAll.snoc {b g : Addr} {H : Hp} {d : PyData} {v : V} (hd : Dv b g H d v) : ∀ {ds : List PyData} {xs : List V}, DvAll b g H ds xs → DvAll b g H (ds ++ [d]) (xs ++ [v])
  | [], _, h => by
    cases h
    exact ⟨v, [], rfl, hd, rfl⟩
  | _ :: ds, _, h => by
    obtain ⟨w, vs, rfl, h1, h2⟩ := h
    exact ⟨w, vs ++ [v], rfl, h1, DvAll.snoc hd h2⟩
theorem DvAll.app {b g : Addr} {H : Hp} {es : List PyData} {ys : List V} (he : DvAll b g H es ys) : ∀ {ds : List PyData} {xs : List V}, DvAll b g H ds xs → DvAll b g H (ds ++ es) (xs ++ ys)
  | [], _, h => by
    cases h
    exact he
  | _ :: ds, _, h => by
    obtain ⟨w, vs, rfl, h1, h2⟩ := h
    exact ⟨w, vs ++ ys, rfl, h1, DvAll.app he h2⟩
theorem DvAll.strs {b g : Addr} {H : Hp} : ∀ xs : List Str, DvAll b g H (xs.map PyData.str) (xs.map V.str)
  | [] => rfl
  | x :: xs => ⟨.str x, xs.map V.str, rfl, rfl, DvAll.strs xs⟩
/-- the type of data -/
def tyD : PyData → Value
  | .none => .type "NoneType"
  | .bool _ => .type "bool"
  | .int _ => .type "int"
  | .str _ => .type "str"
  | .list _ => .type "list"
  | .tuple _ => .type "tuple"
  | .dict _ => .type "dict"
theorem Dv.ty {b g : Addr} {K : PySem.W.Frag} {H : Hp} : ∀ {d : PyData} {v : V}, Dv b g H d v → TyX K H v (tyD d)
  | .none, _, h => by cases h; exact .base .non
  | .bool _, _, h => by cases h; exact .base (.bl _)
  | .int _, _, h => by cases h; exact .base (.int _)
  | .str _, _, h => by cases h; exact .base (.str _)
  | .list ds, _, h => by
    obtain ⟨a, xs, rfl, n1, n2, h1, h2⟩ := h
    exact .base (.lst h1)
  | .tuple ds, _, h => by
    obtain ⟨a, xs, rfl, n1, n2, h1, h2⟩ := h
    exact .base (.tup h1)
  | .dict _, _, h => h.elim
/-- the items of a list or tuple -/
def seqD : PyData → Option (List PyData)
  | .list ds => some ds
  | .tuple ds => some ds
  | _ => none
/-- whether it is this text -/
def strD (z : Str) : PyData → Bool
  | .str y => decide (y = z)
  | _ => false
/-- whether it is one of these texts -/
def memD (M : List Str) : PyData → Bool
  | .str y => decide (y ∈ M)
  | _ => false
theorem eqv_strR : ∀ (d : PyData) (z : Str), PyData.eqv d (.str z) = strD z d
  | .str y, z => by
    show (y == z) = decide (y = z)
    rw [Bool.eq_iff_iff, beq_iff_eq, decide_eq_true_eq]
  | .none, _ => rfl
  | .bool _, _ => rfl
  | .int _, _ => rfl
  | .list _, _ => rfl
  | .tuple _, _ => rfl
  | .dict _, _ => rfl
theorem eqv_strL : ∀ (d : PyData) (z : Str), PyData.eqv (.str z) d = strD z d
  | .str y, z => by
    show (z == y) = decide (y = z)
    rw [Bool.eq_iff_iff, beq_iff_eq, decide_eq_true_eq]
    exact eq_comm
  | .none, _ => rfl
  | .bool _, _ => rfl
  | .int _, _ => rfl
  | .list _, _ => rfl
  | .tuple _, _ => rfl
  | .dict _, _ => rfl
theorem any_mem (d : PyData) : ∀ M : List Str, ((M.map PyData.str).any fun z => PyData.eqv z d) = memD M d
  | [] => by cases d <;> simp [memD]
  | x :: M => by
    rw [List.map_cons, List.any_cons, any_mem d M, eqv_strL]
    cases d <;> simp [memD, strD]
theorem strD_is {z : Str} : ∀ {d : PyData}, strD z d = true → d = .str z
  | .str y, h => by rw [of_decide_eq_true (p := y = z) h]
  | .none, h => by cases h
  | .bool _, h => by cases h
  | .int _, h => by cases h
  | .list _, h => by cases h
  | .tuple _, h => by cases h
  | .dict _, h => by cases h
theorem memD_is {M : List Str} : ∀ {d : PyData}, memD M d = true → ∃ z, d = .str z ∧ z ∈ M
  | .str y, h => ⟨y, rfl, of_decide_eq_true (p := y ∈ M) h⟩
  | .none, h => by cases h
  | .bool _, h => by cases h
  | .int _, h => by cases h
  | .list _, h => by cases h
  | .tuple _, h => by cases h
  | .dict _, h => by cases h
/-- either of the two kinds of sequence -/
def SqA (K : PySem.W.Frag) (H : Hp) (a : Addr) (xs : List V) : Prop := SqL K H a xs ∨ SqT K H a xs
theorem Dv.seq {b g : Addr} {K : PySem.W.Frag} {H : Hp} : ∀ {d : PyData} {v : V} {ds : List PyData}, Dv b g H d v → seqD d = some ds → ∃ a xs, v = .ref a ∧ SqA K H a xs ∧ DvAll b g H ds xs
  | .list _, _, _, h, e => by
    cases e
    obtain ⟨a, xs, rfl, _, _, h1, h2⟩ := h
    exact ⟨a, xs, rfl, .inl (SqL.of h1), h2⟩
  | .tuple _, _, _, h, e => by
    cases e
    obtain ⟨a, xs, rfl, _, _, h1, h2⟩ := h
    exact ⟨a, xs, rfl, .inr (SqT.of h1), h2⟩
  | .none, _, _, _, e => by cases e
  | .bool _, _, _, _, e => by cases e
  | .int _, _, _, _, e => by cases e
  | .str _, _, _, _, e => by cases e
  | .dict _, _, _, _, e => by cases e
theorem kit_tl {K : PySem.W.Frag} {b g : Addr} {H : Hp} {d : PyData} {v : V} (h : Dv b g H d v) : PySem.W.kitAny K (tyD d) [.type "tuple", .type "list"] = some (seqD d).isSome := by
  have no : ∀ {T : String}, PySem.W.kitOne K (.type T) (.type "tuple") = some false → PySem.W.kitOne K (.type T) (.type "list") = some false → PySem.W.kitAny K (.type T) [.type "tuple", .type "list"] = some false := fun h1 h2 =>
    kitAny_cons (b := false) h1 (fun _ => kitAny_cons (b := false) h2 (fun _ => rfl) fun h => by cases h) fun h => by cases h
  cases d with
  | none => exact no (kit_ty (by decide +kernel)) (kit_ty (by decide +kernel))
  | bool _ => exact no (kit_ty (by decide +kernel)) (kit_ty (by decide +kernel))
  | int _ => exact no (kit_ty (by decide +kernel)) (kit_ty (by decide +kernel))
  | str _ => exact no (kit_ty (by decide +kernel)) (kit_ty (by decide +kernel))
  | list _ => exact kitAny_cons (b := false) (kit_ty (by decide +kernel)) (fun _ => kitAny_cons (b := true) (kit_ty (by decide +kernel)) (fun h => by cases h) fun _ => rfl) fun h => by cases h
  | tuple _ => exact kitAny_cons (b := true) (kit_ty (by decide +kernel)) (fun h => by cases h) fun _ => rfl
  | dict _ => exact h.elim
theorem sh_str {z : Str} (h : PyData.strOk z = true) : SeqAt.shaped (.str z) = true := by
  unfold SeqAt.shaped
  rw [show (PyData.str z).canLay0 = PyData.strOk z from rfl, h]
  rfl
theorem lay_mem : ∀ {ds : List PyData} {d : PyData}, PyData.canLayAll0 ds = true → d ∈ ds → d.canLay0 = true
  | c :: ds, d, h, m => by
    have h' : (c.canLay0 && PyData.canLayAll0 ds) = true := h
    rw [Bool.and_eq_true] at h'
    rcases List.mem_cons.mp m with e | m
    · rw [e]
      exact h'.1
    · exact lay_mem h'.2 m
theorem depth_mem : ∀ {ds : List PyData} {d : PyData}, d ∈ ds → d.depth ≤ PyData.depthAll ds
  | c :: ds, d, m => by
    show d.depth ≤ max c.depth (PyData.depthAll ds)
    rcases List.mem_cons.mp m with e | m
    · rw [e]
      exact Nat.le_max_left _ _
    · exact Nat.le_trans (depth_mem m) (Nat.le_max_right _ _)
theorem seq_depth : ∀ {d : PyData} {ds : List PyData}, seqD d = some ds → d.depth = PyData.depthAll ds + 1 ∧ d.canLay0 = PyData.canLayAll0 ds
  | .list _, _, e => by
    cases e
    exact ⟨rfl, rfl⟩
  | .tuple _, _, e => by
    cases e
    exact ⟨rfl, rfl⟩
  | .none, _, e => by cases e
  | .bool _, _, e => by cases e
  | .int _, _, e => by cases e
  | .str _, _, e => by cases e
  | .dict _, _, e => by cases e
theorem sh_mem {d c : PyData} {ds : List PyData} (e : seqD d = some ds) (h : SeqAt.shaped d = true) (m : c ∈ ds) : SeqAt.shaped c = true := by
  unfold SeqAt.shaped at h ⊢
  rw [Bool.and_eq_true, decide_eq_true_eq] at h ⊢
  obtain ⟨z1, z2⟩ := seq_depth e
  have := depth_mem m
  exact ⟨lay_mem (by rw [← z2]; exact h.1) m, by omega⟩
theorem sh_strs {M : List Str} (h : ∀ x ∈ M, PyData.strOk x = true) : SeqAt.shaped (.tuple (M.map PyData.str)) = true ∧ SeqAt.shaped (.list (M.map PyData.str)) = true := by
  have l : PyData.canLayAll0 (M.map PyData.str) = true := by
    induction M with
    | nil => rfl
    | cons x M ih =>
      show ((PyData.str x).canLay0 && PyData.canLayAll0 (M.map PyData.str)) = true
      rw [ih fun y my => h y (List.mem_cons_of_mem _ my), show (PyData.str x).canLay0 = PyData.strOk x from rfl, h x List.mem_cons_self]
      rfl
  have dz : ∀ M : List Str, PyData.depthAll (M.map PyData.str) = 0 := fun M => by
    induction M with
    | nil => rfl
    | cons x M ih =>
      show max 0 (PyData.depthAll (M.map PyData.str)) = 0
      rw [ih]
      rfl
  constructor
  · unfold SeqAt.shaped
    rw [show (PyData.tuple (M.map PyData.str)).canLay0 = PyData.canLayAll0 (M.map PyData.str) from rfl, l]
    show decide (PyData.depthAll (M.map PyData.str) + 1 ≤ 64) = true
    rw [dz]
    rfl
  · unfold SeqAt.shaped
    rw [show (PyData.list (M.map PyData.str)).canLay0 = PyData.canLayAll0 (M.map PyData.str) from rfl, l]
    show decide (PyData.depthAll (M.map PyData.str) + 1 ≤ 64) = true
    rw [dz]
    rfl
theorem dpa_strs {K : PySem.W.Frag} {H : Hp} (M : List Str) : DpAll K H (M.map V.str) (M.map PyData.str) := DvAll.dp (b := 0) (g := 0) _ _ (DvAll.strs M)
section
variable {X : Cx}
/-- x not in l, l a list of data -/
def rNotInL (K : PySem.W.Frag) : R2 := fun x y H Q => ∃ d ds, Dp K H x d ∧ Dp K H y (.list ds) ∧ SeqAt.shaped d = true ∧ SeqAt.shaped (.list ds) = true ∧ Q (.bl (!ds.any fun z => PyData.eqv z d)) H
theorem op_notInLD (hu : X.A.units + 65 < cLine) : OpR X (compareOp .NotIn) (rNotInL X.K) := by
  intro pins s σ H x y v u Q I rx ry h
  obtain ⟨d, ds, hd, he, sd, se, q⟩ := h
  obtain ⟨as, r1⟩ := Dp.reads I d x v hd rx
  obtain ⟨bs, r2⟩ := Dp.reads I (.list ds) y u he ry
  exact SeqAt.notIn_list_reads r2 r1 (SeqAt.canLay_of_shaped se) (SeqAt.canLay_of_shaped sd) (room_in_shaped sd hu) ⟨.bl _, H, I, rfl, q⟩
/-- either target -/
theorem pg_or {e : Expr} {t1 t2 : TG} (h1 : PG X e t1) (h2 : PG X e t2) : PG X e (fun v σ H Q => t1 v σ H Q ∨ t2 v σ H Q) := by
  refine ⟨fun pins s σ H v u Q I r hw => ?_⟩
  rcases hw with hw | hw
  · exact h1.run pins s σ H v u Q I r hw
  · exact h2.run pins s σ H v u Q I r hw
end
end Moot
/-! Several except clauses, each with a name for the error or without one. -/
namespace Moot
open PySem PySem.Spec PyProof.Rows L2
/-- one clause: the class it asks for, its name's slot, its suite's reading -/
abbrev Clause := Value × Option Nat × (Addr → Value → Option Addr → TS)
/-- where a suite's ends lead, the name's slot empty again -/
def Ends.drop (D : Ends) : Option Nat → Ends
  | none => D
  | some i => { nx := fun σ H => D.nx (σ.set i none) H, rt := D.rt, bk := fun σ H => D.bk (σ.set i none) H, ct := fun σ H => D.ct (σ.set i none) H }
/-- the slots at a suite's beginning -/
def slotOf (σ : L2.St) (a : Addr) : Option Nat → L2.St
  | none => σ
  | some i => σ.set i (some (.ref a))
/-- what is wished of an error: the first clause that takes it, else what is wished outside -/
def wCl (K : PySem.W.Frag) (out : WX) (D : Ends) : List Clause → WX
  | [] => out
  | t :: r => fun cls d σ H => ∃ b, PySem.W.exmOne K cls t.1 = some b ∧ (b = true → ∀ a, H a = none → t.2.2 a cls d (Ends.drop D t.2.1) (slotOf σ a t.2.1) H) ∧ (b = false → wCl K out D r cls d σ H)
/-- the name of a clause: none, or a local one in its slot -/
inductive NameOk (X : Cx) : Option Str → Option Nat → Prop
  | none : NameOk X none none
  | some {n : Str} {i : Nat} (hi : X.N[i]? = some n) (hl : X.env.kindOf n = some .local) : NameOk X (some n) (some i)
/-- the clauses as they are written -/
inductive ClOk (X : Cx) : List ExceptHandler → List Clause → Prop
  | nil : ClOk X [] []
  | cons {x : Str} {n : Option Str} {i : Option Nat} {c : Value} {ts : Addr → Value → Option Addr → TS} {b : Stmt} {bs : List Stmt} {p q : Pos} {hs : List ExceptHandler} {l : List Clause}
      (cl : Names X x c) (nm : NameOk X n i) (su : ∀ a oe cls d pn, Zc cls d oe → (∃ vs, oe.data = .fields vs) → PSs (X.suite a ((a, oe) :: pn)) (b :: bs) (ts a cls d)) (r : ClOk X hs l) :
      ClOk X (.ExceptHandler (some (.Name x p)) n (b :: bs) q :: hs) ((c, i, ts) :: l)
/-- an error in flight over the def's own frame: what is known of the state -/
structure Hit (X : Cx) (pins : List (Addr × Obj)) (σ : L2.St) (H : Hp) (B : Heap) (a : Addr) (cls : Value) (d : Option Addr) (s : Shared) : Prop where
  back : ∃ z : Shared, Inv X pins σ H z ∧ (∀ b o, z.heap.get? b = some o → b ∉ frs X.stack → B.get? b = some o) ∧ z.heap.UpToSlots s.heap ∧ s.os = z.os ∧ AllBare s.gens
  fly : HandSPX.FlyingZ B (X.env :: X.outer) a (Zc cls d) s.heap
  non : H a = none
section
variable {X : Cx} {pins : List (Addr × Obj)} {σ : L2.St} {H : Hp} {B : Heap} {a : Addr} {cls : Value} {d : Option Addr} {s : Shared}
theorem Hit.inv (t : Hit X pins σ H B a cls d s) : Inv X pins σ H s := by
  obtain ⟨z, i, n, u, o, g⟩ := t.back
  exact i.landed n t.fly.1 u o g
theorem Hit.off (t : Hit X pins σ H B a cls d s) (hf : X.env.frame = some X.env.locals) : a ∉ frs (X.env :: X.outer) := by
  obtain ⟨oe, vs, e, _, dt⟩ := t.fly.there
  intro m
  obtain ⟨_, o2, e2, nf⟩ := t.fly.2.2.1.mem m
  exact nf vs (by rw [← Option.some.inj (e.symm.trans e2)]; exact dt)
theorem Hit.held (t : Hit X pins σ H B a cls d s) (hf : X.env.frame = some X.env.locals) : ∃ oe, Zc cls d oe ∧ (∃ vs, oe.data = .fields vs) ∧ s.heap.get? a = some oe ∧ Inv (X.suite a ((a, oe) :: (X.pn ++ pins))) [] σ H s := by
  obtain ⟨oe, vs, e, z, dt⟩ := t.fly.there
  have off := t.off hf
  refine ⟨oe, z, ⟨vs, dt⟩, e, t.inv.suite e dt t.non (fun k => off ?_) fun m => off ?_⟩
  · exact List.mem_filterMap.mpr ⟨_, List.mem_cons_self, by rw [hf, k]⟩
  · obtain ⟨en, me, q⟩ := List.mem_filterMap.mp m
    exact List.mem_filterMap.mpr ⟨en, List.mem_cons_of_mem _ me, q⟩
theorem Hit.at (t : Hit X pins σ H B a cls d s) {h : Heap} (fl : HandSPX.FlyingZ B (X.env :: X.outer) a (Zc cls d) h) (up : s.heap.UpToSlots h) : Hit X pins σ H B a cls d { s with heap := h } := by
  obtain ⟨z, i, n, u, o, g⟩ := t.back
  exact ⟨⟨z, i, n, u.trans up, o, g⟩, fl, t.non⟩
/-- a suite's end, seen from outside of the suite -/
theorem suite_end {oe : Obj} {D : Ends} {i : Option Nat} {n : Option Str} {q : Pos} (ok : X.Ok) (hN : X.N.Nodup) (nm : NameOk X n i) {f : Flow} {s6 : Shared} (h : SP (X.suite a ((a, oe) :: (X.pn ++ pins))) [] (Ends.drop D i) f s6) :
    match n with
    | none => SP X pins D f s6
    | some y => wpAny (model X.prog X.w) X.A (do bindName X.env y .none; unbindBehindTheSuite X.env y q) (fun _ s7 => SP X pins D f s7) X.xe s6 := by
  cases nm with
  | none =>
    cases f with
    | ret u => obtain ⟨v, σ6, H6, S6, r6, q6⟩ := h; exact ⟨v, σ6, H6, S6.unsuite ok, r6, q6⟩
    | next => obtain ⟨σ6, H6, S6, q6⟩ := h; exact ⟨σ6, H6, S6.unsuite ok, q6⟩
    | brk => obtain ⟨σ6, H6, S6, q6⟩ := h; exact ⟨σ6, H6, S6.unsuite ok, q6⟩
    | cont => obtain ⟨σ6, H6, S6, q6⟩ := h; exact ⟨σ6, H6, S6.unsuite ok, q6⟩
  | some hi hl =>
    cases f with
    | ret u => obtain ⟨v, σ6, H6, S6, r6, q6⟩ := h; exact gone_ok (S6.unsuite ok) hN hi hl fun s7 J => ⟨v, _, H6, J, r6, q6⟩
    | next => obtain ⟨σ6, H6, S6, q6⟩ := h; exact gone_ok (S6.unsuite ok) hN hi hl fun s7 J => ⟨_, H6, J, q6⟩
    | brk => obtain ⟨σ6, H6, S6, q6⟩ := h; exact gone_ok (S6.unsuite ok) hN hi hl fun s7 J => ⟨_, H6, J, q6⟩
    | cont => obtain ⟨σ6, H6, S6, q6⟩ := h; exact gone_ok (S6.unsuite ok) hN hi hl fun s7 J => ⟨_, H6, J, q6⟩
/-- the clauses, one after the other -/
theorem Hit.by (ok : X.Ok) (hN : X.N.Nodup) (hs : X.stack = X.env :: X.outer) (hf : X.env.frame = some X.env.locals) {out : WX} (tk : Takes X out) {D : Ends} {hds : List ExceptHandler} {l : List Clause} (c : ClOk X hds l) :
    ∀ {s : Shared}, Hit X pins σ H B a cls d s → wCl X.K out D l cls d σ H → wpAny (model X.prog X.w) X.A (handleBy (.ref a) X.env hds) (SP X pins D) X.xe s := by
  induction c with
  | nil =>
    intro s t w
    refine wpAny_handleBy_nil ?_
    obtain ⟨_, _, _, oe, vs, T, _, _, he, _, dt, v1, _⟩ := id t.fly
    unfold PySem.passOn
    refine wpAny_bind (wpAny_field he dt v1 ?_)
    rw [show (Value.ref T == Value.none) = false from rfl, if_neg Bool.false_ne_true]
    have up : wpAny (model X.prog X.w) X.A (setFlight (.ref a) X.env.frame) (fun _ s4 => wpAny (model X.prog X.w) X.A (throw (.ref a) : Sem Flow) (SP X pins D) X.xe s4) X.xe s := by
      rw [hf]
      obtain ⟨z, i, n, u, o, g⟩ := t.back
      exact HandSPX.setFlight_upZ t.fly fun h4 fl u4 => wpAny_throw (tk _ _ ⟨a, B, z, pins, σ, H, cls, d, rfl, i, n, u.trans u4, .inr (.inr (by rw [hs]; exact fl)), t.non, o, g, w⟩)
    first
      | exact wpAny_bind up
      | exact wpAny_bind (wpAny_pure (wpAny_bind up))
  | @cons x n i c ts b bs p q hs' l cl nm su r ih =>
    intro s t w
    obtain ⟨v, e1, yes, no⟩ := w
    obtain ⟨oe, z, dt, at0, S⟩ := t.held hf
    refine wpAny_handleBy_cons (codeAny_handlers_test ?_) (fun e => nomatch e)
    have kind : PySem.W.Looks (model X.prog X.w) s.heap (typeOf (.ref a)) cls := fun A Q E s2 k q => wpAny_typeOf_ref (k _ _ at0) (z.1 ▸ q)
    have name : ∀ {Q : Value → Shared → Prop} {E : Value → Shared → Prop}, Q c s → wpAny (model X.prog X.w) (X.A.mark (some (.ref a))) (eval (.Name x p) X.env) Q E s := fun {Q E} q => by
      obtain ⟨g, db, m⟩ := cl
      rcases m with m | ⟨m, bt, nn⟩
      · exact ld_glob S g m q db
      · exact ld_blt S g m bt q nn db
    refine name ((PySem.W.exm_one t.inv.kIn kind e1).here ?_)
    cases v with
    | false => exact ih t (no rfl)
    | true =>
      have run : ∀ {h4 : Heap}, HandSPX.FlyingZ B (X.env :: X.outer) a (Zc cls d) h4 → s.heap.UpToSlots h4 → ∃ oe4, Zc cls d oe4 ∧ (∃ vs, oe4.data = .fields vs) ∧ Inv (X.suite a ((a, oe4) :: (X.pn ++ pins))) [] σ H { s with heap := h4 } := fun fl up => by
        obtain ⟨o4, z4, d4, _, S4⟩ := (t.at fl up).held hf
        exact ⟨o4, z4, d4, S4⟩
      have go := yes rfl a t.non
      cases nm with
      | none =>
        refine codeAny_handlers_suite (HandSPX.lands_againZ t.fly fun h4 fl up => ?_)
        obtain ⟨o4, z4, d4, S4⟩ := run fl up
        exact wpAny_mono ((su a o4 cls d _ z4 d4).run [] _ _ H _ S4 go) (fun f s6 h => suite_end (q := q) (n := none) ok hN .none h) fun _ _ k => k.elim
      | @some n i hi hl =>
        refine codeAny_handlers_suite_as (HandSPX.lands_againZ t.fly fun h4 fl up => ?_)
        obtain ⟨o4, z4, d4, S4⟩ := run fl up
        refine store_ok (X := X.suite a ((a, o4) :: (X.pn ++ pins))) (v := .ref a) S4 hN hi (.inl hl) rfl (fun s5 S5 => ?_) (.inr hl)
        exact wpAny_mono ((su a o4 cls d _ z4 d4).run [] s5 _ H _ S5 go) (fun f s6 h => suite_end (q := q) (n := some n) ok hN (.some hi hl) h) fun _ _ k => k.elim
end
theorem ps_tryCl {X : Cx} {body : List Stmt} {hd : ExceptHandler} {hds : List ExceptHandler} {l : List Clause} {pos : Pos} {tb : WX → TS} {out : WX} (hs : X.stack = X.env :: X.outer) (hf : X.env.frame = some X.env.locals) (hN : X.N.Nodup) (tk : Takes X out)
    (hb : ∀ (W : WX) (pn : List (Addr × Obj)) (xe : Value → Shared → Prop), Takes (X.tr pn xe) W → PassesOwn (model X.prog X.w) X.A X.env xe → PSs (X.tr pn xe) body (tb W)) (c : ClOk X (hd :: hds) l) : PS X (.Try body (hd :: hds) [] [] pos) (fun D σ H => tb (wCl X.K out D l) D σ H) := by
  refine ⟨fun pins s σ H D I h => wpAny_Try_except ?_⟩
  have ok := I.ok
  have deep : X.A.frames = some (X.env :: X.outer) := ok.frames.trans (by rw [hs])
  refine wpAny_mono ((hb (wCl X.K out D l) (X.pn ++ pins) _ (fun u s2 k => ?_) PassesOwn.looking).run [] s σ H D (I.toTry _) h) (fun f s2 e => ?_) fun _ _ e => e
  · obtain ⟨a, B, z, pins2, σ2, H2, cls, d, rfl, J, nb, up, sky, na, os, ag, w⟩ := k
    refine Sky.land Zc.steady deep hf (hs ▸ sky) fun h3 fl up3 => ?_
    exact Hit.by ok hN hs hf tk c (s := { s2 with heap := h3 }) ⟨⟨z, J.ofTry ok, nb, up.trans up3, os, ag⟩, fl, na⟩ w
  · cases f with
    | next =>
      obtain ⟨σ2, H2, J, q⟩ := e
      exact wpAny_execs_nil ⟨σ2, H2, J.ofTry ok, q⟩
    | ret u =>
      obtain ⟨v, σ2, H2, J, r, q⟩ := e
      exact ⟨v, σ2, H2, J.ofTry ok, r, q⟩
    | brk => obtain ⟨σ2, H2, J, q⟩ := e; exact ⟨σ2, H2, J.ofTry ok, q⟩
    | cont => obtain ⟨σ2, H2, J, q⟩ := e; exact ⟨σ2, H2, J.ofTry ok, q⟩
end Moot
/-! Own exceptions with an __init__ of one field or two. -/
namespace Moot
open PySem PySem.Spec PyProof.Rows L2
/-- an own exception class: its name at the top, its place, its __init__'s -/
structure ExcT (K : PySem.W.Frag) (mg : Str → Option Value) (x : Str) (C fI : Addr) : Prop where
  oex : OexC K C
  xf : XfC K C
  gC : mg x = some (.ref C)
  iC : PySem.W.findIn K (.ref C) "__init__" = some (some (.ref fI))
  tI : PySem.W.typeIn K (.ref fI) = some (.type "function")
theorem upd_del {H : Hp} {a d : Addr} {o1 o2 o3 u : HO} (ha : H a = none) (hd : H d = none) (ne : d ≠ a) : upd (L2.del (upd (upd (upd H a o1) d o2) a o3) a) d u = upd H d u := by
  funext b
  by_cases hb : b = d
  · rw [hb, upd_same, upd_same]
  · rw [upd_ne hb, upd_ne hb]
    by_cases h2 : b = a
    · rw [h2, L2.del_same, ha]
    · rw [L2.del_ne h2, upd_ne h2, upd_ne hb, upd_ne h2]
/-- C's __init__ keeps one field -/
def spEx1 (f : Str) (C : Addr) : Sp := fun vs H Q _ => ∃ (a : Addr) (v : V), vs = [.ref a, v] ∧ H a = some (exo a C none) ∧ ∀ dx, H dx = none → dx ≠ a → Q .non (upd (upd H dx (exd dx [(f, v)])) a (exo a C (some dx)))
/-- two -/
def spEx2 (f f2 : Str) (C : Addr) : Sp := fun vs H Q _ => ∃ (a : Addr) (v v2 : V), vs = [.ref a, v, v2] ∧ H a = some (exo a C none) ∧ ∀ dx, H dx = none → dx ≠ a → Q .non (upd (upd (upd H dx (exd dx [(f, v)])) a (exo a C (some dx))) dx (exd dx [(f2, v2), (f, v)]))
abbrev MkQ (C a : Addr) (H1 : Hp) (Q : XK) : VK := fun v H2 => v = .non ∧ ∃ (d : Addr) (fs : List (Str × V)), H2 a = some (exo a C (some d)) ∧ H2 d = some (exd d fs) ∧ H1 d = none ∧ Q (.ref C) (some d) (upd (L2.del H2 a) d (.xd fs))
theorem mk1 {f : Str} {C : Addr} {v : V} {H1 : Hp} {Q : XK} {E : XK} (h : ∀ d, H1 d = none → Q (.ref C) (some d) (upd H1 d (.xd [(f, v)]))) : [v].length ≤ 1000 ∧ ∀ a, H1 a = none → spEx1 f C (.ref a :: ([v] ++ [])) (upd H1 a (exo a C none)) (MkQ C a H1 Q) E := by
  refine ⟨by show 1 ≤ 1000; decide, fun a na => ⟨a, v, rfl, upd_same, fun dx ndx nx => ⟨rfl, dx, [(f, v)], upd_same, ?_, ?_, ?_⟩⟩⟩
  · rw [upd_ne nx, upd_same]
  · rwa [upd_ne nx] at ndx
  · rw [upd_ne nx] at ndx
    rw [upd_del na ndx nx]
    exact h dx ndx
theorem mk2 {f f2 : Str} {C : Addr} {v v2 : V} {H1 : Hp} {Q : XK} {E : XK} (h : ∀ d, H1 d = none → Q (.ref C) (some d) (upd H1 d (.xd [(f2, v2), (f, v)]))) : [v, v2].length ≤ 1000 ∧ ∀ a, H1 a = none → spEx2 f f2 C (.ref a :: ([v, v2] ++ [])) (upd H1 a (exo a C none)) (MkQ C a H1 Q) E := by
  refine ⟨by show 2 ≤ 1000; decide, fun a na => ⟨a, v, v2, rfl, upd_same, fun dx ndx nx => ⟨rfl, dx, [(f2, v2), (f, v)], ?_, upd_same, ?_, ?_⟩⟩⟩
  · rw [upd_ne nx.symm, upd_same]
  · rwa [upd_ne nx] at ndx
  · rw [upd_ne nx] at ndx
    have e : upd (L2.del (upd (upd (upd (upd H1 a (exo a C none)) dx (exd dx [(f, v)])) a (exo a C (some dx))) dx (exd dx [(f2, v2), (f, v)])) a) dx (.xd [(f2, v2), (f, v)]) = upd H1 dx (.xd [(f2, v2), (f, v)]) := by
      funext b
      by_cases hb : b = dx
      · rw [hb, upd_same, upd_same]
      · rw [upd_ne hb, upd_ne hb]
        by_cases h2 : b = a
        · rw [h2, L2.del_same, na]
        · rw [L2.del_ne h2, upd_ne hb, upd_ne h2, upd_ne hb, upd_ne h2]
    rw [e]
    exact h dx ndx
/-- any block behind what raises -/
theorem pss_any {X : Cx} : ∀ {l : List Stmt}, PSs X l (fun _ _ _ => False) := fun {l} => ⟨fun pins s σ H D I h => h.elim⟩
end Moot
/-! A def held twice over; a class and its kin. -/
namespace Moot
open PySem PySem.Spec PyProof.Rows L2
section
variable {P : Program} {w : World} {K : PySem.W.Frag} {mg : Str → Option Value} {base : Heap} {f : Addr} {fd : FuncData} {ps : List Str} {k : Nat} {sp sp1 sp2 : Sp} {CXx : CXT}
theorem FnOk.lift (G : FnOk P w K mg base CX0 k f fd ps sp) : FnOk P w K mg base CXx k f fd ps sp :=
  ⟨G.len, fun A outer s H args us vs Q E hr e0 hb r h => codeAny_mono (G.run A outer s H args us vs Q E hr e0 hb r h) fun r s' q => by
    cases r with
    | error e => exact q.elim
    | ok f => cases f <;> exact q⟩
theorem FnOk.or (G1 : FnOk P w K mg base CXx k f fd ps sp1) (G2 : FnOk P w K mg base CXx k f fd ps sp2) : FnOk P w K mg base CXx k f fd ps (fun vs H Q E => sp1 vs H Q E ∨ sp2 vs H Q E) :=
  ⟨fun vs H Q E h => h.elim (G1.len vs H Q E) (G2.len vs H Q E), fun A outer s H args us vs Q E hr e0 hb r h => h.elim (G1.run A outer s H args us vs Q E hr e0 hb r) (G2.run A outer s H args us vs Q E hr e0 hb r)⟩
end
/-- what an except clause of class c does with an error of class d -/
theorem exm_by {K : PySem.W.Frag} {d c : Addr} {b : Bool} (h1 : PySem.W.subIn K (.ref c) (.type "BaseException") = some true) (h2 : PySem.W.isClsIn K c = true) (h3 : PySem.W.typeIn K (.ref c) = some (.type "type")) (h4 : PySem.W.subIn K (.ref d) (.ref c) = some b) :
    PySem.W.exmOne K (.ref d) (.ref c) = some b := by
  have h2 : (PySem.W.clsIn K c).isSome = true := h2
  simp [PySem.W.exmOne, PySem.W.kitCls, h1, h2, h3, h4]
theorem kit_no {K : PySem.W.Frag} {d c : Addr} (h0 : PySem.W.subIn K (.ref d) (.ref d) = some true) (h2 : PySem.W.isClsIn K c = true) (h3 : PySem.W.typeIn K (.ref c) = some (.type "type")) (h4 : PySem.W.subIn K (.ref d) (.ref c) = some false) :
    PySem.W.kitOne K (.ref d) (.ref c) = some false := by
  have ne : d ≠ c := fun e => by
    rw [← e, h0] at h4
    cases h4
  have h2 : (PySem.W.clsIn K c).isSome = true := h2
  unfold PySem.W.kitOne
  rw [if_neg (fun e => ne (Value.ref.inj (beq_iff_eq.mp e)))]
  simp [PySem.W.kitCls, h2, h3, h4]
theorem kit_yes {K : PySem.W.Frag} {d c : Addr} (h2 : PySem.W.isClsIn K c = true) (h3 : PySem.W.typeIn K (.ref c) = some (.type "type")) (h4 : PySem.W.subIn K (.ref d) (.ref c) = some true) :
    PySem.W.kitOne K (.ref d) (.ref c) = some true := by
  have h2 : (PySem.W.clsIn K c).isSome = true := h2
  unfold PySem.W.kitOne
  by_cases e : (Value.ref d == Value.ref c) = true
  · exact if_pos e
  rw [if_neg e]
  simp [PySem.W.kitCls, h2, h3, h4]
theorem kit_ve {K : PySem.W.Frag} {d : Addr} (h4 : PySem.W.subIn K (.ref d) (.type "ValueError") = some true) : PySem.W.kitOne K (.ref d) (.type "ValueError") = some true := by
  unfold PySem.W.kitOne
  rw [if_neg (fun e => by cases (beq_iff_eq.mp e))]
  exact (if_pos (by decide +kernel) : (if PySem.W.kitMeta "ValueError" = true then PySem.W.subIn K (.ref d) (.type "ValueError") else none) = _).trans h4
end Moot
/-! is_name, is_counted_tuple, is_requirement on values that are none. -/
namespace Moot
open PySem PySem.Spec PyProof.Rows L2
/-- len(S), S a set of texts: as many as there are -/
def rTxtLenX (P : Program) (w : World) : List V → Hp → VK → Prop := fun vs H Q =>
  ∃ (a : Addr) (S : Str → Bool) (n : Nat), vs = [V.ref a] ∧ H a = some (TxtSet P w a S n) ∧ n < 1000 ∧ ∀ ys : List Str, ys.Nodup → (∀ k, k ∈ ys ↔ S k = true) → ys.length = n → Q (.int (n : Int)) H
theorem cr_txtLenX {X : Cx} : CallR X (.builtin "len") (rTxtLenX X.prog X.w) := by
  intro pins s σ H vs us Q I r h
  obtain ⟨a, S, n, rfl, ha, few, q⟩ := h
  have R : Stands (PySem.strKind X.prog X.w) s.heap a S n := (I.hok a _ ha).1
  rw [Vals.ref1 r]
  obtain ⟨o, es, ep, t, ho, hex, hd, rfl, L⟩ := R
  obtain ⟨_, x2, x3⟩ := L.txts
  exact call_len_set ho hex hd L.fit (by omega) ⟨.int _, H, I.tok _, ⟨_, rfl⟩, q _ x2 x3 (by simp)⟩
/-- one to eight letters -/
def nameZ (z : Str) : Bool := decide (1 ≤ z.length) && decide (z.length ≤ 8) && z.cps.toList.all fun c => decide (c ∈ abc.cps.toList)
def nameD : PyData → Bool
  | .str z => nameZ z
  | _ => false
theorem Nm.z {z : Str} (h : Nm z) : nameZ z = true := by
  have h1 : 1 ≤ z.length := h.lo
  have h2 : z.length ≤ 8 := h.hi
  unfold nameZ
  rw [decide_eq_true h1, decide_eq_true h2, Bool.true_and, Bool.true_and]
  exact List.all_eq_true.mpr fun c m => decide_eq_true (abc_mem (h.low c m))
def wholeD : PyData → Bool
  | .int _ => true
  | _ => false
/-- a count with at least so many parts -/
def cntD : PyData → Bool
  | .tuple [.int c, .tuple ps] => decide (1 ≤ c) && decide (c ≤ (ps.length : Int))
  | _ => false
section
variable {P : Program} {w : World} {K : PySem.W.Frag} {mg : Str → Option Value} {base : Heap}
/-- is_name of any value -/
def spInD : Sp := fun vs H Q _ => ∃ (b g : Addr) (d : PyData) (v : V), vs = [v] ∧ Dv b g H d v ∧ (∀ z, d = .str z → z.length ≤ 500) ∧ ∀ H', Same H H' → Q (.bl (nameD d)) H'
theorem ok_isnameD {f : Addr} {fd : FuncData} {k : Nat} (F : Fun K "is_name" "is_name" sIn f fd) (T : Bq mg) : FnOk P w K mg base CX0 (k + 1) f fd ["value"] spInD := by
  obtain ⟨uL, mL, rL⟩ := T.letters
  obtain ⟨uG, mG, rG⟩ := T.longest
  refine F.ok scIn (fun vs H Q E h => ?_) (fun cdv A outer s H vs Q E hr h => ?_)
  · obtain ⟨b, g, d, v, rfl, _⟩ := h
    rfl
  · obtain ⟨b, g, d, v, rfl, hd, sh, q⟩ := h
    refine ⟨_, pss_cons (ps_if (pt_not (pt_val (pe_callB call_isi (by rfl) T.T.isi (by decide +kernel) (pa_cons (pv 0) (pa_cons (pe_bltn (v := .ty "str") (by rfl) T.T.str (by decide +kernel) rfl) pa_nil))))) (pss_one (ps_ret pe_bl)) pss_nil)
      (pss_cons (ps_if (pt_not (pt_chain op_le op_le pe_int (pe_callB call_len_str (by rfl) T.T.len PySem.boot_len (pa_cons (pv 0) pa_nil)) (pe_glob (by rfl) mG rG))) (pss_one (ps_ret pe_bl)) pss_nil)
      (pss_one (ps_ret (pe_callB (cr_all rfl) (by rfl) T.all (by decide +kernel) (pa_cons (pe_lc (own := [("letter", 1)]) (g := gName 1) (tt := tYes) (by rfl) scIn.nd (pi_str (pv 0)) (blkOk_by (N := nIn) (sc := defScope sIn) (by decide +kernel))
          (fun _ _ _ _ _ => pg_name (i := 1) scIn.nd rfl (Or.inl rfl)) (fun _ _ _ _ _ => pts_nil) (fun _ _ _ _ _ => pe_cmpR op_in_sign (pv 1) (pe_glob (by rfl) mL rL) (by rfl))) pa_nil))))), ?_⟩
    have ty := Dv.ty (K := K) hd
    have no : ∀ {t : Value}, tyD d = t → PySem.W.kitAny K t [.type "str"] = some false → nameD d = false → (Q (.bl false) H) := fun _ _ e => by
      have := q H fun _ _ z => z
      rwa [e] at this
    cases d with
    | none => exact ⟨v, rfl, _, _, .type "NoneType", .type "str", false, rfl, .ty _, ty, kit_ty (r := false) (by decide +kernel), _, rfl, iteT (q H fun _ _ z => z)⟩
    | bool x => exact ⟨v, rfl, _, _, .type "bool", .type "str", false, rfl, .ty _, ty, kit_ty (r := false) (by decide +kernel), _, rfl, iteT (q H fun _ _ z => z)⟩
    | int x => exact ⟨v, rfl, _, _, .type "int", .type "str", false, rfl, .ty _, ty, kit_ty (r := false) (by decide +kernel), _, rfl, iteT (q H fun _ _ z => z)⟩
    | list x => exact ⟨v, rfl, _, _, .type "list", .type "str", false, rfl, .ty _, ty, kit_ty (r := false) (by decide +kernel), _, rfl, iteT (q H fun _ _ z => z)⟩
    | tuple x => exact ⟨v, rfl, _, _, .type "tuple", .type "str", false, rfl, .ty _, ty, kit_ty (r := false) (by decide +kernel), _, rfl, iteT (q H fun _ _ z => z)⟩
    | dict x => exact hd.elim
    | str z =>
      cases hd
      have l5 := sh z rfl
      refine ⟨.str z, rfl, _, _, .type "str", .type "str", true, rfl, .ty _, .base (.str z), kit_ty (r := true) (by decide +kernel), _, rfl, iteF ?_⟩
      refine ⟨.str z, rfl, z, rfl, Nat.le_of_lt (small1000 (by omega)), _, _, rfl, rfl, _, rfl, ?_⟩
      by_cases l1 : 1 ≤ z.length
      case neg =>
        rw [decide_eq_false (show ¬ (1 : Int) ≤ (z.length : Int) by omega)]
        have e : nameZ z = false := by unfold nameZ; rw [decide_eq_false l1]; rfl
        have qq := q H fun _ _ z => z
        rw [show nameD (.str z) = nameZ z from rfl, e] at qq
        exact iteF ⟨_, rfl, iteT qq⟩
      rw [decide_eq_true (show (1 : Int) ≤ (z.length : Int) by omega)]
      refine iteT ⟨_, _, rfl, rfl, _, rfl, ?_⟩
      by_cases l8 : z.length ≤ 8
      case neg =>
        rw [decide_eq_false (show ¬ (z.length : Int) ≤ 8 by omega)]
        have e : nameZ z = false := by unfold nameZ; rw [decide_eq_false l8, Bool.and_false]; rfl
        have qq := q H fun _ _ z => z
        rw [show nameD (.str z) = nameZ z from rfl, e] at qq
        exact iteT qq
      rw [decide_eq_true (show (z.length : Int) ≤ 8 by omega)]
      refine iteF ?_
      refine ⟨.str z, rfl, z, rfl, fun D nD => ?_⟩
      refine lc_it walk_str (fun j H1 => Same H H1 ∧ H1 D = some (.lst (((z.cps.toList.take j).map fun c => decide (c ∈ abc.cps.toList)).map V.bl))) ⟨same_new nD, upd_same⟩ (fun _ _ _ _ => trivial) ?_ ?_
      · rintro j x H1 H2 hj ⟨s1, hD⟩ ⟨rfl, c, hc, rfl⟩
        have tk : z.cps.toList.take (j + 1) = z.cps.toList.take j ++ [c] := by
          rw [List.take_add_one, Array.getElem?_toList, hc]
          rfl
        refine ⟨rfl, .str (sg c), rfl, c, abc, rfl, rfl, ?_⟩
        refine ⟨_, hD, ?_, fun a o e => ?_, ?_⟩
        · rw [List.length_map, List.length_map, List.length_take]
          have : z.cps.toList.length = z.length := by simp [Str.length]
          exact small1000 (by omega)
        · rw [upd_ne (ne_of_none e nD)]
          exact s1 a o e
        · rw [upd_same, tk, List.map_append, List.map_append]
          rfl
      · rintro H1 ⟨s1, hD⟩
        have e26 : z.cps.toList.take z.cps.size = z.cps.toList := List.take_of_length_le (by simp)
        rw [e26] at hD
        refine ⟨D, z.cps.toList.map fun c => decide (c ∈ abc.cps.toList), rfl, SqL.of hD, ?_⟩
        have e : nameZ z = (z.cps.toList.map fun c => decide (c ∈ abc.cps.toList)).all id := by
          unfold nameZ
          rw [decide_eq_true l1, decide_eq_true l8, List.all_map]
          rfl
        have qq := q H1 s1
        rwa [show nameD (.str z) = nameZ z from rfl, e] at qq
end
end Moot
namespace Moot
open PySem PySem.Spec PyProof.Rows L2
theorem cnt_len {ds : List PyData} (h : ds.length ≠ 2) : cntD (.tuple ds) = false := by
  unfold cntD
  split
  · rename_i e
    cases PyData.tuple.inj e
    exact absurd rfl h
  · rfl
theorem dup_part : ∀ {zs : List Str}, ¬ zs.Nodup → ∃ a x b, zs = a ++ x :: b ∧ x ∈ a ++ b
  | [], h => absurd List.nodup_nil h
  | z :: zs, h => by
    by_cases m : z ∈ zs
    · exact ⟨[], z, zs, rfl, m⟩
    · obtain ⟨a, x, b, e, mx⟩ := dup_part (zs := zs) fun n => h (List.nodup_cons.mpr ⟨m, n⟩)
      exact ⟨z :: a, x, b, by rw [e]; rfl, List.mem_cons_of_mem _ mx⟩
theorem short_of {zs ys : List Str} (nd : ys.Nodup) (mem : ∀ k, k ∈ ys ↔ k ∈ zs) (dup : ¬ zs.Nodup) : ys.length < zs.length := by
  obtain ⟨a, x, b, rfl, mx⟩ := dup_part dup
  have le : ys.length ≤ (a ++ b).length := nodup_le nd fun y m => by
    rcases List.mem_append.mp ((mem y).mp m) with h | h
    · exact List.mem_append_left _ h
    · rcases List.mem_cons.mp h with rfl | h
      · exact mx
      · exact List.mem_append_right _ h
  rw [List.length_append] at le ⊢
  rw [List.length_cons]
  omega
section
variable {P : Program} {w : World} {K : PySem.W.Frag} {mg : Str → Option Value} {base : Heap}
/-! is_whole_number of any value -/
def spWhD : Sp := fun vs H Q _ => ∃ (b g : Addr) (d : PyData) (v : V), vs = [v] ∧ Dv b g H d v ∧ Q (.bl (wholeD d)) H
theorem ok_wholeD {f : Addr} {fd : FuncData} {k : Nat} (F : Fun K "is_whole_number" "is_whole_number" sWh f fd) (T : Bq mg) : FnOk P w K mg base CX0 (k + 1) f fd ["value"] spWhD := by
  refine F.ok scWh (fun vs H Q E h => ?_) (fun cdv A outer s H vs Q E hr h => ?_)
  · obtain ⟨b, g, d, v, rfl, _⟩ := h
    rfl
  · obtain ⟨b, g, d, v, rfl, hd, q⟩ := h
    refine ⟨_, pss_one (ps_ret (pe_and (pe_callB call_isi (by rfl) T.T.isi (by decide +kernel) (pa_cons (pv 0) (pa_cons (pe_bltn (v := .ty "int") (by rfl) T.T.int (by decide +kernel) rfl) pa_nil)))
      (pe_one (pe_not (pe_callB call_isi (by rfl) T.T.isi (by decide +kernel) (pa_cons (pv 0) (pa_cons (pe_bltn (v := .ty "bool") (by rfl) T.T.bool (by decide +kernel) rfl) pa_nil))))))), ?_⟩
    have ty := Dv.ty (K := K) hd
    cases d with
    | none => exact ⟨v, rfl, _, _, .type "NoneType", .type "int", false, rfl, .ty _, ty, kit_ty (r := false) (by decide +kernel), _, rfl, iteF q⟩
    | str x => exact ⟨v, rfl, _, _, .type "str", .type "int", false, rfl, .ty _, ty, kit_ty (r := false) (by decide +kernel), _, rfl, iteF q⟩
    | list x => exact ⟨v, rfl, _, _, .type "list", .type "int", false, rfl, .ty _, ty, kit_ty (r := false) (by decide +kernel), _, rfl, iteF q⟩
    | tuple x => exact ⟨v, rfl, _, _, .type "tuple", .type "int", false, rfl, .ty _, ty, kit_ty (r := false) (by decide +kernel), _, rfl, iteF q⟩
    | dict x => exact hd.elim
    | int x => exact ⟨v, rfl, _, _, .type "int", .type "int", true, rfl, .ty _, ty, kit_ty (r := true) (by decide +kernel), _, rfl, iteT ⟨v, rfl, _, _, .type "int", .type "bool", false, rfl, .ty _, ty, kit_ty (r := false) (by decide +kernel), _, rfl, q⟩⟩
    | bool x => exact ⟨v, rfl, _, _, .type "bool", .type "int", true, rfl, .ty _, ty, kit_ty (r := true) (by decide +kernel), _, rfl, iteT ⟨v, rfl, _, _, .type "bool", .type "bool", true, rfl, .ty _, ty, kit_ty (r := true) (by decide +kernel), _, rfl, q⟩⟩
/-! is_counted_tuple of any value -/
def spCtD : Sp := fun vs H Q _ => ∃ (b g : Addr) (d : PyData) (v : V), vs = [v] ∧ Dv b g H d v ∧ Q (.bl (cntD d)) H
theorem ok_countedD {f fW : Addr} {fd fdW : FuncData} {k : Nat} (F : Fun K "is_counted_tuple" "is_counted_tuple" sCt f fd) (T : Bq mg) (FW : Fun K "is_whole_number" "is_whole_number" sWh fW fdW) (bW : Binds K fdW ["value"] []) (gW : mg "is_whole_number" = some (.ref fW)) :
    FnOk P w K mg base CX0 (k + 2) f fd ["value"] spCtD := by
  have GW : FnOk P w K mg base CX0 (k + 1) fW fdW ["value"] spWhD := ok_wholeD FW T
  refine F.ok scCt (fun vs H Q E h => ?_) (fun cdv A outer s H vs Q E hr h => ?_)
  · obtain ⟨b, g, d, v, rfl, _⟩ := h
    rfl
  · obtain ⟨b, g, d, v, rfl, hd, q⟩ := h
    refine ⟨_, pss_cons (ps_if (PW.pt (pw_or (pt_not (pt_val (pe_callB call_isi (by rfl) T.T.isi (by decide +kernel) (pa_cons (pv 0) (pa_cons (pe_bltn (v := .ty "tuple") (by rfl) T.T.tup (by decide +kernel) rfl) pa_nil)))))
          (pw_or1 (pt_cmpR op_ne (pe_callB call_len_seq (by rfl) T.T.len PySem.boot_len (pa_cons (pv 0) pa_nil)) pe_int (nomark _))))) (pss_one (ps_ret pe_bl)) pss_nil)
      (pss_cons (ps_asg (pv 0) (pg_tup (by rfl) (pgs_cons (pg_name (i := 1) scCt.nd rfl (Or.inl rfl)) (pgs_cons (pg_name (i := 2) scCt.nd rfl (Or.inl rfl)) pgs_nil))))
      (pss_cons (ps_if (PW.pt (pw_or (pt_not (pt_val (pe_call GW hr (by rfl) gW FW.kp bW .nil pass0 (pa_cons (pv 1) pa_nil)))) (pw_or1 (pt_not (pt_val (pe_callB call_isi (by rfl) T.T.isi (by decide +kernel) (pa_cons (pv 2) (pa_cons (pe_bltn (v := .ty "tuple") (by rfl) T.T.tup (by decide +kernel) rfl) pa_nil)))))))) (pss_one (ps_ret pe_bl)) pss_nil)
      (pss_one (ps_ret (pe_chain op_le op_le pe_int (pv 1) (pe_callB call_len_seq (by rfl) T.T.len PySem.boot_len (pa_cons (pv 2) pa_nil))))))), ?_⟩
    have ty := Dv.ty (K := K) hd
    cases d with
    | none => exact ⟨v, rfl, _, _, .type "NoneType", .type "tuple", false, rfl, .ty _, ty, kit_ty (r := false) (by decide +kernel), _, rfl, iteT q⟩
    | str x => exact ⟨v, rfl, _, _, .type "str", .type "tuple", false, rfl, .ty _, ty, kit_ty (r := false) (by decide +kernel), _, rfl, iteT q⟩
    | list x => exact ⟨v, rfl, _, _, .type "list", .type "tuple", false, rfl, .ty _, ty, kit_ty (r := false) (by decide +kernel), _, rfl, iteT q⟩
    | int x => exact ⟨v, rfl, _, _, .type "int", .type "tuple", false, rfl, .ty _, ty, kit_ty (r := false) (by decide +kernel), _, rfl, iteT q⟩
    | bool x => exact ⟨v, rfl, _, _, .type "bool", .type "tuple", false, rfl, .ty _, ty, kit_ty (r := false) (by decide +kernel), _, rfl, iteT q⟩
    | dict x => exact hd.elim
    | tuple ds =>
      obtain ⟨r, xs, rfl, rb, rg, hr1, all⟩ := hd
      have xl := all.len
      refine ⟨.ref r, rfl, _, _, .type "tuple", .type "tuple", true, rfl, .ty _, ty, kit_ty (r := true) (by decide +kernel), _, rfl, iteF ⟨.ref r, rfl, r, _, rfl, .inr (SqT.of hr1), rfl, _, rfl, ?_⟩⟩
      by_cases two : ds.length = 2
      case neg =>
        rw [cnt_len two] at q
        rw [decide_eq_false (show ¬ V.int ((xs.length : Nat) : Int) = V.int 2 from fun z => two (by have := V.int.inj z; omega))]
        exact iteT q
      rw [decide_eq_true (show V.int ((xs.length : Nat) : Int) = V.int 2 from by rw [xl, two]; rfl)]
      refine iteF ?_
      obtain ⟨d1, d2, rfl⟩ : ∃ d1 d2, ds = [d1, d2] := by
        match ds, two with
        | [d1, d2], _ => exact ⟨d1, d2, rfl⟩
      obtain ⟨v1, ys, rfl, h1, v2, zs, rfl, h2, rfl⟩ := all
      refine ⟨.ref r, rfl, r, _, rfl, SqT.of hr1, rfl, _, _, rfl, _, _, rfl, rfl, ?_⟩
      refine ⟨v1, rfl, b, g, d1, v1, rfl, h1, ?_⟩
      have ty2 := Dv.ty (K := K) h2
      cases d1 with
      | none => exact ⟨_, rfl, iteT q⟩
      | bool x => exact ⟨_, rfl, iteT q⟩
      | str x => exact ⟨_, rfl, iteT q⟩
      | list x => exact ⟨_, rfl, iteT q⟩
      | tuple x => exact ⟨_, rfl, iteT q⟩
      | dict x => exact h1.elim
      | int c =>
        cases h1
        refine ⟨_, rfl, iteF ?_⟩
        cases d2 with
        | none => exact ⟨v2, rfl, _, _, .type "NoneType", .type "tuple", false, rfl, .ty _, ty2, kit_ty (r := false) (by decide +kernel), _, rfl, iteT q⟩
        | bool x => exact ⟨v2, rfl, _, _, .type "bool", .type "tuple", false, rfl, .ty _, ty2, kit_ty (r := false) (by decide +kernel), _, rfl, iteT q⟩
        | int x => exact ⟨v2, rfl, _, _, .type "int", .type "tuple", false, rfl, .ty _, ty2, kit_ty (r := false) (by decide +kernel), _, rfl, iteT q⟩
        | str x => exact ⟨v2, rfl, _, _, .type "str", .type "tuple", false, rfl, .ty _, ty2, kit_ty (r := false) (by decide +kernel), _, rfl, iteT q⟩
        | list x => exact ⟨v2, rfl, _, _, .type "list", .type "tuple", false, rfl, .ty _, ty2, kit_ty (r := false) (by decide +kernel), _, rfl, iteT q⟩
        | dict x => exact h2.elim
        | tuple ps =>
          obtain ⟨p, ws, rfl, pb, pg, hp, allp⟩ := h2
          have wl := allp.len
          refine ⟨.ref p, rfl, _, _, .type "tuple", .type "tuple", true, rfl, .ty _, ty2, kit_ty (r := true) (by decide +kernel), _, rfl, iteF ?_⟩
          refine ⟨.int c, rfl, _, _, rfl, rfl, _, rfl, ?_⟩
          have e : cntD (.tuple [.int c, .tuple ps]) = (decide (1 ≤ c) && decide (c ≤ (ps.length : Int))) := rfl
          rw [e] at q
          by_cases c1 : 1 ≤ c
          · rw [decide_eq_true c1] at q ⊢
            refine iteT ⟨.ref p, rfl, p, _, rfl, .inr (SqT.of hp), _, _, rfl, rfl, ?_⟩
            show Q (.bl (decide (c ≤ (ws.length : Int)))) H
            rw [wl]
            exact q
          · rw [decide_eq_false c1] at q ⊢
            exact iteF q
/-! has_duplicates: a text twice -/
def spHdS (K : PySem.W.Frag) : Sp := fun vs H Q _ => ∃ (p : Addr) (zs : List Str), vs = [.ref p] ∧ NodesAt K H p zs ∧ zs.length < 64 ∧ ¬ zs.Nodup ∧ ∀ H', Same H H' → Q (.bl true) H'
theorem ok_dupS {f : Addr} {fd : FuncData} {k : Nat} (F : Fun K "has_duplicates" "has_duplicates" sHd f fd) (T : Bq mg) : FnOk P w K mg base CX0 (k + 1) f fd ["parts"] (spHdS K) := by
  refine F.ok scHd (fun vs H Q E h => ?_) (fun cdv A outer s H vs Q E hr h => ?_)
  · obtain ⟨p, zs, rfl, _⟩ := h
    rfl
  · obtain ⟨p, zs, rfl, hp, few, dup, q⟩ := h
    refine ⟨_, pss_one (ps_ret (pe_cmpR op_lt (pe_callB cr_txtLenX (by rfl) T.T.len PySem.boot_len (pa_cons (pe_callTy (cr_txtSetA rfl) (by rfl) T.T.set (by decide +kernel) (pa_cons (pv 0) pa_nil)) pa_nil)) (pe_callB call_len_seq (by rfl) T.T.len PySem.boot_len (pa_cons (pv 0) pa_nil)) (nomark _))), ?_⟩
    refine ⟨.ref p, rfl, p, zs, rfl, hp, few, fun a m na hm => ⟨a, _, m, rfl, upd_same, by omega, fun ys nd mem len => ?_⟩⟩
    have s1 := same_new (o := TxtSet P w a (fun k => decide (k ∈ zs)) m) na
    refine ⟨.ref p, rfl, p, _, rfl, hp.same s1, _, _, rfl, rfl, ?_⟩
    have lt := short_of nd (fun k => (mem k).trans (by simp)) dup
    show Q (.bl (decide ((m : Int) < ((zs.map V.str).length : Int)))) _
    rw [List.length_map, decide_eq_true (show (m : Int) < (zs.length : Int) by omega)]
    exact q _ s1
end
end Moot
namespace Moot
open PySem PySem.Spec PyProof.Rows L2
theorem DvAll.to_strs {b g : Addr} {H : Hp} : ∀ {zs : List Str} {xs : List V}, DvAll b g H (zs.map PyData.str) xs → xs = zs.map V.str
  | [], _, h => h
  | z :: zs, _, h => by
    obtain ⟨v, vs, rfl, h1, h2⟩ := h
    rw [DvAll.to_strs h2, show v = .str z from h1]
    rfl
/-- no requirement: no count of parts at all, or a name twice -/
def BadR (d : PyData) : Prop := cntD d = false ∨ ∃ (c : Int) (zs : List Str), d = .tuple [.int c, .tuple (zs.map PyData.str)] ∧ 1 ≤ c ∧ c ≤ (zs.length : Int) ∧ (∀ z ∈ zs, nameZ z = true) ∧ ¬ zs.Nodup ∧ zs.length < 64
theorem name_len {z : Str} (h : nameZ z = true) : z.length ≤ 8 := by
  unfold nameZ at h
  rw [Bool.and_eq_true, Bool.and_eq_true] at h
  exact of_decide_eq_true h.1.2
section
variable {P : Program} {w : World} {K : PySem.W.Frag} {mg : Str → Option Value} {base : Heap}
/-! is_requirement of what is none -/
def spIrB : Sp := fun vs H Q _ => ∃ (b g : Addr) (d : PyData) (v : V), vs = [v] ∧ Dv b g H d v ∧ BadR d ∧ ∀ H', Same H H' → Q (.bl false) H'
theorem ok_isreqB {f f1 f2 f3 f4 : Addr} {fd fd1 fd2 fd3 fd4 : FuncData} {k : Nat} (F : Fun K "is_requirement" "is_requirement" sIr f fd) (T : Bq mg)
    (F1 : Fun K "is_counted_tuple" "is_counted_tuple" sCt f1 fd1) (b1 : Binds K fd1 ["value"] []) (g1 : mg "is_counted_tuple" = some (.ref f1)) (G1 : FnOk P w K mg base CX0 k f1 fd1 ["value"] spCtD)
    (F2 : Fun K "is_name" "is_name" sIn f2 fd2) (b2 : Binds K fd2 ["value"] []) (g2 : mg "is_name" = some (.ref f2)) (G2 : FnOk P w K mg base CX0 k f2 fd2 ["value"] spInD)
    (F3 : Fun K "is_simple_requirement" "is_simple_requirement" sSr f3 fd3) (b3 : Binds K fd3 ["value"] []) (g3 : mg "is_simple_requirement" = some (.ref f3)) (G3 : FnOk P w K mg base CX0 k f3 fd3 ["value"] spSr)
    (F4 : Fun K "has_duplicates" "has_duplicates" sHd f4 fd4) (b4 : Binds K fd4 ["parts"] []) (g4 : mg "has_duplicates" = some (.ref f4)) (G4 : FnOk P w K mg base CX0 k f4 fd4 ["parts"] (spHdS K)) :
    FnOk P w K mg base CX0 (k + 1) f fd ["value"] spIrB := by
  refine F.ok scIr (fun vs H Q E h => ?_) (fun cdv A outer s H vs Q E hr h => ?_)
  · obtain ⟨b, g, d, v, rfl, _⟩ := h
    rfl
  · obtain ⟨b, g, d, v, rfl, hd, bad, q⟩ := h
    refine ⟨_, pss_cons (ps_if (pt_not (pt_val (pe_call G1 hr (by rfl) g1 F1.kp b1 .nil pass0 (pa_cons (pv 0) pa_nil)))) (pss_one (ps_ret pe_bl)) pss_nil)
      (pss_cons (ps_set (i := 1) scIr.nd rfl (Or.inl rfl) (pe_ix ix_tup (pv 0) pe_int (fun _ _ => rfl)))
      (pss_cons (ps_if (pt_not (pt_val (pe_callB (cr_all rfl) (by rfl) T.all (by decide +kernel) (pa_cons (pe_lc (own := [("part", 3)]) (g := gName 3) (tt := tYes) (by rfl) scIr.nd (pi_tup (pv 1)) (blkOk_by (N := nIr) (sc := defScope sIr) (by decide +kernel))
          (fun _ _ _ _ _ => pg_name (i := 3) scIr.nd rfl (Or.inl rfl)) (fun _ _ _ _ _ => pts_nil)
          (fun _ _ _ _ _ => pe_or (pe_call G2 hr (by rfl) g2 F2.kp b2 .nil pass0 (pa_cons (pv 3) pa_nil)) (pe_one (pe_call G3 hr (by rfl) g3 F3.kp b3 .nil pass0 (pa_cons (pv 3) pa_nil))))) pa_nil)))) (pss_one (ps_ret pe_bl)) pss_nil)
      (pss_cons (ps_if (pt_val (pe_call G4 hr (by rfl) g4 F4.kp b4 .nil pass0 (pa_cons (pv 1) pa_nil))) (pss_one (ps_ret pe_bl)) pss_nil)
      (pss_cons ps_never (pss_one ps_never))))), ?_⟩
    rcases bad with e | ⟨c, zs, rfl, c1, c2, nm, dup, few⟩
    · refine ⟨v, rfl, b, g, d, v, rfl, hd, ?_⟩
      rw [e]
      exact ⟨_, rfl, iteT (q H fun _ _ z => z)⟩
    have e : cntD (.tuple [.int c, .tuple (zs.map PyData.str)]) = true := by
      show (decide (1 ≤ c) && decide (c ≤ ((zs.map PyData.str).length : Int))) = true
      rw [List.length_map, decide_eq_true c1, decide_eq_true c2]
      rfl
    refine ⟨v, rfl, b, g, _, v, rfl, hd, ?_⟩
    rw [e]
    refine ⟨_, rfl, iteF ?_⟩
    obtain ⟨r, xs, rfl, rb, rg, hr1, v1, ys, rfl, h1, v2, us, rfl, h2, rfl⟩ := hd
    obtain ⟨p, ws, rfl, pb, pg, hp, allp⟩ := h2
    have ew := DvAll.to_strs allp
    subst ew
    refine ⟨.ref r, rfl, r, _, 1, .ref p, rfl, rfl, SqT.of hr1, atI_nat (j := 1) rfl, ?_⟩
    refine ⟨.ref p, rfl, p, rfl, ⟨_, SqT.of hp⟩, fun D nD => lc_tup (K := K) (a := p) (xs := zs.map V.str) (fun i H1 => Same H H1 ∧ H1 D = some (.lst (((zs.take i).map fun _ => true).map V.bl))) ⟨same_new nD, upd_same⟩ (fun i H1 _ h => SqT.of (h.1 _ _ hp)) ?_ ?_⟩
    · rintro i x H1 hx ⟨s1, hD⟩
      rw [List.getElem?_map] at hx
      obtain ⟨z, hz, rfl⟩ := Option.map_eq_some_iff.mp hx
      have tk : zs.take (i + 1) = zs.take i ++ [z] := by
        rw [List.take_add_one, hz]
        rfl
      have nz := nm z (List.mem_of_getElem? hz)
      refine ⟨rfl, .str z, rfl, b, g, .str z, .str z, rfl, rfl, fun y e => ?_, fun H2 s2 => ?_⟩
      · cases e
        have := name_len nz
        omega
      rw [show nameD (.str z) = nameZ z from rfl, nz]
      refine ⟨_, rfl, iteT ⟨_, s2 _ _ hD, ?_, fun d o e => ?_, ?_⟩⟩
      · rw [List.length_map, List.length_map, List.length_take]
        exact small1000 (by omega)
      · rw [upd_ne (ne_of_none e nD)]
        exact s2 _ _ (s1 d o e)
      · rw [upd_same, tk, List.map_append, List.map_append]
        rfl
    · rintro H1 ⟨s1, hD⟩
      refine ⟨D, _, rfl, SqL.of hD, ?_⟩
      rw [all_true]
      refine ⟨_, rfl, iteF ?_⟩
      exact ⟨.ref p, rfl, p, zs, rfl, .inr (SqT.of (s1 _ _ hp)), few, dup, fun H2 s2 => ⟨_, rfl, iteT (q H2 (s1.trans s2))⟩⟩
end
end Moot
/-! Rows of any kind: requirements_by_name. -/
namespace Moot
open PySem PySem.Spec PyProof.Rows L2
/-- one walk or another -/
theorem pi_or {X : Cx} {tg e : Expr} {w1 w2 : TI} (h1 : PI X tg e w1) (h2 : PI X tg e w2) : PI X tg e (fun σ H R => w1 σ H R ∨ w2 σ H R) :=
  ⟨fun pins s σ H R I h => h.elim (h1.run pins s σ H R I) (h2.run pins s σ H R I)⟩
theorem SqT.go {K : PySem.W.Frag} {H H' : Hp} {a : Addr} {xs : List V} (h : SqT K H a xs) (s : Same H H') : SqT K H' a xs := h.imp (fun r => r.imp (fun e => s _ _ e) fun ⟨o, e⟩ => ⟨o, s _ _ e⟩) id
/-- a row: a name and a requirement, or what is none of them -/
inductive Rk where
  | ok (x : Str) (r : Addr) (c : Int) (ps : List Part)
  | badr (x : Str) (d : PyData) (rv : V)
  | badn (d : PyData) (nv rv : V)
/-- the value in the place of the name, and the other -/
def Rk.nv : Rk → V
  | .ok x _ _ _ => .str x
  | .badr x _ _ => .str x
  | .badn _ nv _ => nv
def Rk.rv : Rk → V
  | .ok _ r _ _ => .ref r
  | .badr _ _ rv => rv
  | .badn _ _ rv => rv
def RkOk (b g : Addr) (H : Hp) : Rk → Prop
  | .ok x r c ps => Nm x ∧ ReqAt H r c ps ∧ ∃ xs, Valid xs c ps
  | .badr x d rv => Nm x ∧ Dv b g H d rv ∧ BadR d
  | .badn d nv rv => Dv b g H d nv ∧ nameD d = false ∧ SeqAt.shaped d = true ∧ ∀ z, d = .str z → z.length ≤ 500
theorem RkOk.same {b g : Addr} {H H' : Hp} (s : Same H H') : ∀ {q : Rk}, RkOk b g H q → RkOk b g H' q
  | .ok x r c ps, ⟨h1, h2, h3⟩ => ⟨h1, h2.tups (Same.tups s), h3⟩
  | .badr x d rv, ⟨h1, h2, h3⟩ => ⟨h1, h2.same s, h3⟩
  | .badn d nv rv, ⟨h1, h2, h3⟩ => ⟨h1.same s, h2, h3⟩
/-- the rows' tuples -/
def RowsK (b g : Addr) (H : Hp) (ts : List Addr) (ks : List Rk) : Prop := ts.length = ks.length ∧ ∀ (i : Nat) (t : Addr), ts[i]? = some t → ∃ q, ks[i]? = some q ∧ Rd H t (.tup [q.nv, q.rv]) ∧ RkOk b g H q
theorem RowsK.same {b g : Addr} {H H' : Hp} {ts : List Addr} {ks : List Rk} (h : RowsK b g H ts ks) (s : Same H H') : RowsK b g H' ts ks := ⟨h.1, fun i t e => let ⟨q, h1, h2, h3⟩ := h.2 i t e; ⟨q, h1, h2.imp (fun e => s _ _ e) fun ⟨o, e⟩ => ⟨o, s _ _ e⟩, h3.same s⟩⟩
/-- the exception that is due -/
inductive Du where
  | name (v : V)
  | twice (x : Str)
  | req (x : Str)
  | unk (x : Str)
/-- by the first row that is not in order -/
def due1 (seen : List Str) : List Rk → Option Du
  | [] => none
  | .badn _ nv _ :: _ => some (.name nv)
  | .badr x _ _ :: _ => some (if x ∈ seen then .twice x else .req x)
  | .ok x _ _ _ :: rest => if x ∈ seen then some (.twice x) else due1 (seen ++ [x]) rest
/-- the rows as a dict takes them -/
def rsOf : List Rk → Rws
  | [] => []
  | .ok x r _ _ :: rest => (x, r) :: rsOf rest
  | _ :: rest => rsOf rest
theorem rsOf_app : ∀ (a b : List Rk), rsOf (a ++ b) = rsOf a ++ rsOf b
  | [], _ => rfl
  | .ok x r c ps :: a, b => by
    show (x, r) :: rsOf (a ++ b) = _
    rw [rsOf_app a b]
    rfl
  | .badr _ _ _ :: a, b => rsOf_app a b
  | .badn _ _ _ :: a, b => rsOf_app a b
theorem rsOf_len : ∀ a : List Rk, (rsOf a).length ≤ a.length
  | [] => Nat.le_refl _
  | .ok x r c ps :: a => Nat.succ_le_succ (rsOf_len a)
  | .badr _ _ _ :: a => Nat.le_succ_of_le (rsOf_len a)
  | .badn _ _ _ :: a => Nat.le_succ_of_le (rsOf_len a)
/-- this exception with this field leaves, all else stays -/
def ExV (C : Addr) (f : Str) (v : V) (H : Hp) (E : XK) : Prop := ∀ (d : Addr) (H' : Hp), Same H H' → H d = none → H' d = some (.xd [(f, v)]) → E (.ref C) (some d) H'
theorem ExV.same {C : Addr} {f : Str} {v : V} {H H' : Hp} {E : XK} (h : ExV C f v H E) (s : Same H H') : ExV C f v H' E := fun d H2 s2 n e => h d H2 (s.trans s2) (s.free n) e
/-- the classes of the four -/
structure Fo where
  N : Addr
  D : Addr
  R : Addr
  U : Addr
def DuE (F : Fo) (H : Hp) (E : XK) : Du → Prop
  | .name v => ExV F.N "value" v H E
  | .twice x => ExV F.D "name" (.str x) H E
  | .req x => ExV F.R "name" (.str x) H E
  | .unk x => ExV F.U "name" (.str x) H E
theorem DuE.same {F : Fo} {H H' : Hp} {E : XK} (s : Same H H') : ∀ {u : Du}, DuE F H E u → DuE F H' E u
  | .name _, h => ExV.same h s
  | .twice _, h => ExV.same h s
  | .req _, h => ExV.same h s
  | .unk _, h => ExV.same h s
section
variable {P : Program} {w : World} {K : PySem.W.Frag} {mg : Str → Option Value} {base : Heap}
/-! requirements_by_name -/
def spRbX (K : PySem.W.Frag) (F : Fo) : Sp := fun vs H Q E => ∃ (b g l : Addr) (ts : List Addr) (ks : List Rk), vs = [.ref l] ∧ (SqL K H l (ts.map V.ref) ∨ SqT K H l (ts.map V.ref)) ∧ RowsK b g H ts ks ∧ ks.length ≤ 100 ∧
  ((∃ u, due1 [] ks = some u ∧ DuE F H E u) ∨ (due1 [] ks = none ∧ ∀ (D : Addr) (H' : Hp), Same H H' → H D = none → H' D = some (.dK (kvs (rsOf ks))) → Q (.ref D) H'))
theorem ok_bynameX {Fc : Fo} {f f1 f2 fN fD fR : Addr} {fd fd1 fd2 fdN fdD fdR : FuncData} {k : Nat} (F : Fun K "requirements_by_name" "requirements_by_name" sRb f fd) (T : Bq mg)
    (F1 : Fun K "is_name" "is_name" sIn f1 fd1) (b1 : Binds K fd1 ["value"] []) (g1 : mg "is_name" = some (.ref f1)) (G1 : FnOk P w K mg base CX0 (k + 1) f1 fd1 ["value"] spInD)
    (F2 : Fun K "is_requirement" "is_requirement" sIr f2 fd2) (b2 : Binds K fd2 ["value"] []) (g2 : mg "is_requirement" = some (.ref f2)) (G2 : FnOk P w K mg base CX0 (k + 1) f2 fd2 ["value"] (fun vs H Q E => spIr vs H Q E ∨ spIrB vs H Q E))
    (UN : ExcT K mg "InvalidName" Fc.N fN) (bN : Binds K fdN ["self", "value"] []) (GN : FnOk P w K mg base CX0 k fN fdN ["self", "value"] (spEx1 "value" Fc.N))
    (UD : ExcT K mg "DuplicateNode" Fc.D fD) (bD : Binds K fdD ["self", "name"] []) (GD : FnOk P w K mg base CX0 k fD fdD ["self", "name"] (spEx1 "name" Fc.D))
    (UR : ExcT K mg "InvalidRequirement" Fc.R fR) (bR : Binds K fdR ["self", "name"] []) (GR : FnOk P w K mg base CX0 k fR fdR ["self", "name"] (spEx1 "name" Fc.R)) :
    FnOk P w K mg base (L2.CX P w) (k + 1 + 1) f fd ["rows"] (spRbX K Fc) := by
  refine F.okX scRb (fun vs H Q E h => ?_) (fun cdv A outer s H vs Q E hr h => ?_)
  · obtain ⟨b, g, l, ts, ks, rfl, _⟩ := h
    rfl
  · obtain ⟨b, g, l, ts, ks, rfl, hl, ra, few, q⟩ := h
    have hu := hu_of hr
    refine ⟨_, pss_cons (ps_set (i := 1) scRb.nd rfl (Or.inl rfl) pe_dnewK)
      (pss_cons (ps_for (passes_of rfl) rfl (pi_or (pi_list (pv 0)) (pi_tup (pv 0))) (pg_tup (by rfl) (pgs_cons (pg_name (i := 2) scRb.nd rfl (Or.inl rfl)) (pgs_cons (pg_name (i := 3) scRb.nd rfl (Or.inl rfl)) pgs_nil)))
        (pss_cons (ps_if (pt_not (pt_val (pe_call G1 hr (by rfl) g1 F1.kp b1 .nil pass0 (pa_cons (pv 2) pa_nil)))) (pss_one (ps_raise rfl (takes_of rfl rfl rfl rfl) (pmk_oex UN.oex UN.iC UN.tI GN hr bN .nil pass0 (by rfl) UN.gC (pa_cons (pv 2) pa_nil)))) pss_nil)
        (pss_cons (ps_if (pt_cmp (pc_din hu (pv 2) (pv 1))) (pss_one (ps_raise rfl (takes_of rfl rfl rfl rfl) (pmk_oex UD.oex UD.iC UD.tI GD hr bD .nil pass0 (by rfl) UD.gC (pa_cons (pv 2) pa_nil)))) pss_nil)
        (pss_cons (ps_if (pt_not (pt_val (pe_call G2 hr (by rfl) g2 F2.kp b2 .nil pass0 (pa_cons (pv 3) pa_nil)))) (pss_one (ps_raise rfl (takes_of rfl rfl rfl rfl) (pmk_oex UR.oex UR.iC UR.tI GR hr bR .nil pass0 (by rfl) UR.gC (pa_cons (pv 2) pa_nil)))) pss_nil)
        (pss_one (ps_dput hu (pv 1) (pv 2) (pv 3) rfl))))))
      (pss_one (ps_ret (pv 1)))), ?_⟩
    intro D nD
    have s0 := same_new (o := .dK []) nD
    rcases hl with hl | hl
    · refine .inl ⟨.ref l, rfl, l, rfl, ⟨_, Same.seq s0 hl⟩, for_it (walk_list (K := K) (a := l) (xs := ts.map V.ref)) (fun i σ H1 => ∃ (y2 y3 : Option V), σ = [some (.ref l), some (.ref D), y2, y3] ∧ Same H H1 ∧ H1 D = some (.dK (kvs (rsOf (ks.take i)))) ∧ due1 ((rsOf (ks.take i)).map (·.1)) (ks.drop i) = due1 [] ks) ⟨none, none, rfl, s0, upd_same, rfl⟩ (fun i σ H1 _ ⟨_, _, _, s1, _⟩ => Same.seq s1 hl) ?_ ?_⟩
      · rintro i y σ H1 H1' hi ⟨y2, y3, rfl, s1, hD, du⟩ ⟨rfl, hy⟩
        rw [List.getElem?_map] at hy
        obtain ⟨t, ht, rfl⟩ := Option.map_eq_some_iff.mp hy
        obtain ⟨qk, hqk, rd, rk⟩ := (ra.same s1).2 i t ht
        have lti := (List.getElem?_eq_some_iff.mp hqk).1
        have tk : ks.take (i + 1) = ks.take i ++ [qk] := by
          rw [List.take_add_one, hqk]
          rfl
        have dk : ks.drop i = qk :: ks.drop (i + 1) := by
          rw [List.drop_eq_getElem_cons lti, (List.getElem?_eq_some_iff.mp hqk).2]
        rw [dk] at du
        have rl := rsOf_len (ks.take i)
        rw [List.length_take] at rl
        refine ⟨t, _, rfl, .inl rd, rfl, _, _, rfl, _, _, rfl, rfl, ?_⟩
        cases qk with
        | badn d nv rv =>
          obtain ⟨h1, h2, h3, h4⟩ := rk
          refine ⟨nv, rfl, b, g, d, nv, rfl, h1, h4, fun H2 s2 => ?_⟩
          rw [h2]
          refine ⟨_, rfl, iteT ⟨nv, rfl, mk1 fun dx nd => ?_⟩⟩
          rcases q with ⟨u, e, en⟩ | ⟨e, _⟩
          · rw [← du] at e
            cases e
            exact en dx _ ((s1.trans s2).trans (same_new nd)) ((s1.trans s2).free nd) upd_same
          · rw [← du] at e
            cases e
        | badr x d rv =>
          obtain ⟨h1, h2, h3⟩ := rk
          refine ⟨.str x, rfl, b, g, .str x, .str x, rfl, rfl, (fun z e => by cases e; have : x.length ≤ 8 := h1.hi; omega), fun H2 s2 => ?_⟩
          rw [show nameD (.str x) = nameZ x from rfl, h1.z]
          refine ⟨_, rfl, iteF ?_⟩
          have hD2 := s2 _ _ hD
          refine ⟨.str x, rfl, .ref D, rfl, D, _, rfl, DGet.k (k := Sum.inr x) hD2, _, rfl, ?_⟩
          have du : some (if x ∈ (rsOf (ks.take i)).map (·.1) then Du.twice x else Du.req x) = due1 [] ks := du
          by_cases m : x ∈ (rsOf (ks.take i)).map (·.1)
          · rw [if_pos m] at du
            obtain ⟨r0, _, hv⟩ := val_in m
            rw [hv]
            refine iteT ⟨.str x, rfl, mk1 fun dx nd => ?_⟩
            rcases q with ⟨u, e, en⟩ | ⟨e, _⟩
            · rw [← du] at e
              cases e
              exact en dx _ ((s1.trans s2).trans (same_new nd)) ((s1.trans s2).free nd) upd_same
            · rw [← du] at e
              cases e
          · rw [if_neg m] at du
            rw [val_out m]
            refine iteF ⟨rv, rfl, .inr ⟨b, g, d, rv, rfl, h2.same s2, h3, fun H3 s3 => ⟨_, rfl, iteT ⟨.str x, rfl, mk1 fun dx nd => ?_⟩⟩⟩⟩
            have s13 := (s1.trans s2).trans s3
            rcases q with ⟨u, e, en⟩ | ⟨e, _⟩
            · rw [← du] at e
              cases e
              exact en dx _ (s13.trans (same_new nd)) (s13.free nd) upd_same
            · rw [← du] at e
              cases e
        | ok x r c ps =>
          obtain ⟨h1, h2, xs, h3⟩ := rk
          refine ⟨.str x, rfl, b, g, .str x, .str x, rfl, rfl, (fun z e => by cases e; have : x.length ≤ 8 := h1.hi; omega), fun H2 s2 => ?_⟩
          rw [show nameD (.str x) = nameZ x from rfl, h1.z]
          refine ⟨_, rfl, iteF ?_⟩
          have hD2 := s2 _ _ hD
          refine ⟨.str x, rfl, .ref D, rfl, D, _, rfl, DGet.k (k := Sum.inr x) hD2, _, rfl, ?_⟩
          have du : (if x ∈ (rsOf (ks.take i)).map (·.1) then some (Du.twice x) else due1 ((rsOf (ks.take i)).map (·.1) ++ [x]) (ks.drop (i + 1))) = due1 [] ks := du
          by_cases m : x ∈ (rsOf (ks.take i)).map (·.1)
          · rw [if_pos m] at du
            obtain ⟨r0, _, hv⟩ := val_in m
            rw [hv]
            refine iteT ⟨.str x, rfl, mk1 fun dx nd => ?_⟩
            rcases q with ⟨u, e, en⟩ | ⟨e, _⟩
            · rw [← du] at e
              cases e
              exact en dx _ ((s1.trans s2).trans (same_new nd)) ((s1.trans s2).free nd) upd_same
            · rw [← du] at e
              cases e
          · rw [if_neg m] at du
            rw [val_out m]
            refine iteF ⟨.ref r, rfl, .inl ⟨r, c, ps, xs, rfl, h2.tups (Same.tups s2), h3, fun H3 s3 => ⟨_, rfl, iteF ?_⟩⟩⟩
            have hD3 := s3 _ _ hD2
            have s13 := (s1.trans s2).trans s3
            have er : rsOf (ks.take (i + 1)) = rsOf (ks.take i) ++ [(x, r)] := by
              rw [tk, rsOf_app]
              rfl
            refine ⟨.ref r, rfl, .ref D, rfl, .str x, rfl, D, _, rfl, DPut.k (k := Sum.inr x) hD3 ?_, ?_⟩
            · rw [kvs_len]
              exact small1000 (by omega)
            · refine ⟨_, _, rfl, fun d o e => ?_, ?_, ?_⟩
              · rw [upd_ne (ne_of_none e nD)]
                exact s13 d o e
              · rw [upd_same, putK_new _ (val_out m), er]
                show some (HO.dK (kvs (rsOf (ks.take i)) ++ _)) = some (HO.dK ((rsOf (ks.take i) ++ [(x, r)]).map _))
                rw [List.map_append]
                rfl
              · rw [er, List.map_append]
                exact du
      · rintro σ H1 ⟨y2, y3, rfl, s1, hD, du⟩
        rw [List.length_map, ra.1, List.take_length] at hD
        rw [List.length_map, ra.1, List.drop_length] at du
        have du : none = due1 [] ks := du
        rcases q with ⟨u, e, en⟩ | ⟨e, fin⟩
        · rw [← du] at e
          cases e
        · exact ⟨.ref D, rfl, fin D H1 s1 nD hD⟩
    · refine .inr ⟨.ref l, rfl, l, rfl, ⟨_, SqT.go hl s0⟩, for_it (walk_tup (K := K) (a := l) (xs := ts.map V.ref)) (fun i σ H1 => ∃ (y2 y3 : Option V), σ = [some (.ref l), some (.ref D), y2, y3] ∧ Same H H1 ∧ H1 D = some (.dK (kvs (rsOf (ks.take i)))) ∧ due1 ((rsOf (ks.take i)).map (·.1)) (ks.drop i) = due1 [] ks) ⟨none, none, rfl, s0, upd_same, rfl⟩ (fun i σ H1 _ ⟨_, _, _, s1, _⟩ => SqT.go hl s1) ?_ ?_⟩
      · rintro i y σ H1 H1' hi ⟨y2, y3, rfl, s1, hD, du⟩ ⟨rfl, hy⟩
        rw [List.getElem?_map] at hy
        obtain ⟨t, ht, rfl⟩ := Option.map_eq_some_iff.mp hy
        obtain ⟨qk, hqk, rd, rk⟩ := (ra.same s1).2 i t ht
        have lti := (List.getElem?_eq_some_iff.mp hqk).1
        have tk : ks.take (i + 1) = ks.take i ++ [qk] := by
          rw [List.take_add_one, hqk]
          rfl
        have dk : ks.drop i = qk :: ks.drop (i + 1) := by
          rw [List.drop_eq_getElem_cons lti, (List.getElem?_eq_some_iff.mp hqk).2]
        rw [dk] at du
        have rl := rsOf_len (ks.take i)
        rw [List.length_take] at rl
        refine ⟨t, _, rfl, .inl rd, rfl, _, _, rfl, _, _, rfl, rfl, ?_⟩
        cases qk with
        | badn d nv rv =>
          obtain ⟨h1, h2, h3, h4⟩ := rk
          refine ⟨nv, rfl, b, g, d, nv, rfl, h1, h4, fun H2 s2 => ?_⟩
          rw [h2]
          refine ⟨_, rfl, iteT ⟨nv, rfl, mk1 fun dx nd => ?_⟩⟩
          rcases q with ⟨u, e, en⟩ | ⟨e, _⟩
          · rw [← du] at e
            cases e
            exact en dx _ ((s1.trans s2).trans (same_new nd)) ((s1.trans s2).free nd) upd_same
          · rw [← du] at e
            cases e
        | badr x d rv =>
          obtain ⟨h1, h2, h3⟩ := rk
          refine ⟨.str x, rfl, b, g, .str x, .str x, rfl, rfl, (fun z e => by cases e; have : x.length ≤ 8 := h1.hi; omega), fun H2 s2 => ?_⟩
          rw [show nameD (.str x) = nameZ x from rfl, h1.z]
          refine ⟨_, rfl, iteF ?_⟩
          have hD2 := s2 _ _ hD
          refine ⟨.str x, rfl, .ref D, rfl, D, _, rfl, DGet.k (k := Sum.inr x) hD2, _, rfl, ?_⟩
          have du : some (if x ∈ (rsOf (ks.take i)).map (·.1) then Du.twice x else Du.req x) = due1 [] ks := du
          by_cases m : x ∈ (rsOf (ks.take i)).map (·.1)
          · rw [if_pos m] at du
            obtain ⟨r0, _, hv⟩ := val_in m
            rw [hv]
            refine iteT ⟨.str x, rfl, mk1 fun dx nd => ?_⟩
            rcases q with ⟨u, e, en⟩ | ⟨e, _⟩
            · rw [← du] at e
              cases e
              exact en dx _ ((s1.trans s2).trans (same_new nd)) ((s1.trans s2).free nd) upd_same
            · rw [← du] at e
              cases e
          · rw [if_neg m] at du
            rw [val_out m]
            refine iteF ⟨rv, rfl, .inr ⟨b, g, d, rv, rfl, h2.same s2, h3, fun H3 s3 => ⟨_, rfl, iteT ⟨.str x, rfl, mk1 fun dx nd => ?_⟩⟩⟩⟩
            have s13 := (s1.trans s2).trans s3
            rcases q with ⟨u, e, en⟩ | ⟨e, _⟩
            · rw [← du] at e
              cases e
              exact en dx _ (s13.trans (same_new nd)) (s13.free nd) upd_same
            · rw [← du] at e
              cases e
        | ok x r c ps =>
          obtain ⟨h1, h2, xs, h3⟩ := rk
          refine ⟨.str x, rfl, b, g, .str x, .str x, rfl, rfl, (fun z e => by cases e; have : x.length ≤ 8 := h1.hi; omega), fun H2 s2 => ?_⟩
          rw [show nameD (.str x) = nameZ x from rfl, h1.z]
          refine ⟨_, rfl, iteF ?_⟩
          have hD2 := s2 _ _ hD
          refine ⟨.str x, rfl, .ref D, rfl, D, _, rfl, DGet.k (k := Sum.inr x) hD2, _, rfl, ?_⟩
          have du : (if x ∈ (rsOf (ks.take i)).map (·.1) then some (Du.twice x) else due1 ((rsOf (ks.take i)).map (·.1) ++ [x]) (ks.drop (i + 1))) = due1 [] ks := du
          by_cases m : x ∈ (rsOf (ks.take i)).map (·.1)
          · rw [if_pos m] at du
            obtain ⟨r0, _, hv⟩ := val_in m
            rw [hv]
            refine iteT ⟨.str x, rfl, mk1 fun dx nd => ?_⟩
            rcases q with ⟨u, e, en⟩ | ⟨e, _⟩
            · rw [← du] at e
              cases e
              exact en dx _ ((s1.trans s2).trans (same_new nd)) ((s1.trans s2).free nd) upd_same
            · rw [← du] at e
              cases e
          · rw [if_neg m] at du
            rw [val_out m]
            refine iteF ⟨.ref r, rfl, .inl ⟨r, c, ps, xs, rfl, h2.tups (Same.tups s2), h3, fun H3 s3 => ⟨_, rfl, iteF ?_⟩⟩⟩
            have hD3 := s3 _ _ hD2
            have s13 := (s1.trans s2).trans s3
            have er : rsOf (ks.take (i + 1)) = rsOf (ks.take i) ++ [(x, r)] := by
              rw [tk, rsOf_app]
              rfl
            refine ⟨.ref r, rfl, .ref D, rfl, .str x, rfl, D, _, rfl, DPut.k (k := Sum.inr x) hD3 ?_, ?_⟩
            · rw [kvs_len]
              exact small1000 (by omega)
            · refine ⟨_, _, rfl, fun d o e => ?_, ?_, ?_⟩
              · rw [upd_ne (ne_of_none e nD)]
                exact s13 d o e
              · rw [upd_same, putK_new _ (val_out m), er]
                show some (HO.dK (kvs (rsOf (ks.take i)) ++ _)) = some (HO.dK ((rsOf (ks.take i) ++ [(x, r)]).map _))
                rw [List.map_append]
                rfl
              · rw [er, List.map_append]
                exact du
      · rintro σ H1 ⟨y2, y3, rfl, s1, hD, du⟩
        rw [List.length_map, ra.1, List.take_length] at hD
        rw [List.length_map, ra.1, List.drop_length] at du
        have du : none = due1 [] ks := du
        rcases q with ⟨u, e, en⟩ | ⟨e, fin⟩
        · rw [← du] at e
          cases e
        · exact ⟨.ref D, rfl, fin D H1 s1 nD hD⟩
end
end Moot
/-! check_names_used: the least name without a row. -/
namespace Moot
open PySem PySem.Spec PyProof.Rows L2
/-- the least name in use that is none of these -/
def Least (ns : List Str) (ps : List Part) (u : Str) : Prop := u ∈ namesOf ps ∧ u ∉ ns ∧ ∀ v ∈ namesOf ps, v ∉ ns → ltCps v.cps.toList u.cps.toList = false
theorem lt_anti {x y : Str} (h1 : ltCps y.cps.toList x.cps.toList = false) (h2 : ltCps x.cps.toList y.cps.toList = false) : x = y := by
  rw [ltCps_eq] at h1 h2
  have h1' : ¬ y.cps.toList < x.cps.toList := of_decide_eq_false h1
  have h2' : ¬ x.cps.toList < y.cps.toList := of_decide_eq_false h2
  have e := List.le_antisymm (List.not_lt.mp h1') (List.not_lt.mp h2')
  rcases x with ⟨x⟩
  rcases y with ⟨y⟩
  have : x = y := Array.toList_inj.mp e
  rw [this]
theorem lt_irr (x : Str) : ltCps x.cps.toList x.cps.toList = false := by
  rw [ltCps_eq]
  exact decide_eq_false (List.lt_irrefl _)
/-- in the first row that has one -/
inductive Unk (ns : List Str) : List Rk → Option Str → Prop
  | nil : Unk ns [] none
  | here {x r c ps rest u} : Least ns ps u → Unk ns (.ok x r c ps :: rest) (some u)
  | skip {x r c ps rest o} : (∀ v ∈ namesOf ps, v ∈ ns) → Unk ns rest o → Unk ns (.ok x r c ps :: rest) o
theorem Unk.cons {ns : List Str} {x : Str} {r : Addr} {c : Int} {ps : List Part} {rest : List Rk} {o : Option Str} (h : Unk ns (.ok x r c ps :: rest) o) : (∃ u, o = some u ∧ Least ns ps u) ∨ ((∀ v ∈ namesOf ps, v ∈ ns) ∧ Unk ns rest o) := by
  cases h with
  | here h => exact .inl ⟨_, rfl, h⟩
  | skip h1 h2 => exact .inr ⟨h1, h2⟩
/-- rows all in order -/
def AllR (H : Hp) (ks : List Rk) : Prop := ∀ q ∈ ks, ∃ x r c ps, q = .ok x r c ps ∧ Nm x ∧ ReqAt H r c ps ∧ ∃ xs, Valid xs c ps
theorem AllR.tail {H : Hp} {q : Rk} {ks : List Rk} (h : AllR H (q :: ks)) : AllR H ks := fun q m => h q (List.mem_cons_of_mem _ m)
theorem rsOf_get {H : Hp} : ∀ {ks : List Rk}, AllR H ks → ∀ (i : Nat) (x : Str) (r : Addr), (rsOf ks)[i]? = some (x, r) → ∃ c ps, ks[i]? = some (.ok x r c ps) ∧ Nm x ∧ ReqAt H r c ps ∧ ∃ xs, Valid xs c ps
  | [], _, i, x, r, e => by
    have e : ([] : Rws)[i]? = _ := e
    cases i <;> cases e
  | q :: ks, a, i, x, r, e => by
    obtain ⟨x', r', c, ps, rfl, h⟩ := a q List.mem_cons_self
    have e : ((x', r') :: rsOf ks)[i]? = some (x, r) := e
    cases i with
    | zero =>
      cases e
      exact ⟨c, ps, rfl, h⟩
    | succ i => exact rsOf_get a.tail i x r e
theorem rsOf_lenE {H : Hp} : ∀ {ks : List Rk}, AllR H ks → (rsOf ks).length = ks.length
  | [], _ => rfl
  | q :: ks, a => by
    obtain ⟨x', r', c, ps, rfl, h⟩ := a q List.mem_cons_self
    show (rsOf ks).length + 1 = _
    rw [rsOf_lenE a.tail]
    rfl
theorem val_at {rs : Rws} (nd : (rs.map (·.1)).Nodup) {i : Nat} {x : Str} {r : Addr} (h : rs[i]? = some (x, r)) : valV (kvs rs) (Sum.inr x : L2.Key) = some (.ref r) := by
  obtain ⟨r', m, e⟩ := val_in (rs := rs) (y := x) (List.mem_map.mpr ⟨_, List.mem_of_getElem? h, rfl⟩)
  obtain ⟨j, hj⟩ := List.getElem?_of_mem m
  have e1 : (rs.map (·.1))[i]? = some x := by rw [List.getElem?_map, h]; rfl
  have e2 : (rs.map (·.1))[j]? = some x := by rw [List.getElem?_map, hj]; rfl
  have lt := (List.getElem?_eq_some_iff.mp e1).1
  have : i = j := (List.getElem?_inj lt nd).mp (e1.trans e2.symm)
  subst this
  rw [h] at hj
  cases hj
  exact e
/-- this exception leaves, all but D stays -/
def ExB (C : Addr) (f : Str) (v : V) (D : Addr) (H : Hp) (E : XK) : Prop := ∀ (d : Addr) (H' : Hp), But D H H' → H d = none → H' d = some (.xd [(f, v)]) → E (.ref C) (some d) H'
section
variable {P : Program} {w : World} {K : PySem.W.Frag} {mg : Str → Option Value} {base : Heap}
def spCuX (F : Fo) : Sp := fun vs H Q E => ∃ (D : Addr) (ks : List Rk) (o : Option Str), vs = [.ref D] ∧ H D = some (.dK (kvs (rsOf ks))) ∧ AllR H ks ∧ ((rsOf ks).map (·.1)).Nodup ∧ Unk ((rsOf ks).map (·.1)) ks o ∧
  (∀ u, o = some u → ExB F.U "name" (.str u) D H E) ∧ (o = none → ∀ H', Same H H' → Q .non H')
theorem ok_usedX {Fc : Fo} {f f1 fU : Addr} {fd fd1 fdU : FuncData} {k : Nat} (F : Fun K "check_names_used" "check_names_used" sCu f fd) (T : Bq mg)
    (F1 : Fun K "names_in" "names_in" sNin f1 fd1) (b1 : Binds K fd1 ["requirement"] []) (g1 : mg "names_in" = some (.ref f1)) (G1 : FnOk P w K mg base CX0 (k + 1) f1 fd1 ["requirement"] spNin)
    (UU : ExcT K mg "UnknownNode" Fc.U fU) (bU : Binds K fdU ["self", "name"] []) (GU : FnOk P w K mg base CX0 k fU fdU ["self", "name"] (spEx1 "name" Fc.U)) : FnOk P w K mg base (L2.CX P w) (k + 1 + 1) f fd ["requirements"] (spCuX Fc) := by
  refine F.okX scCu (fun vs H Q E h => ?_) (fun cdv A outer s H vs Q E hr h => ?_)
  · obtain ⟨D, ks, o, rfl, _⟩ := h
    rfl
  · obtain ⟨D, ks, o, rfl, hD, al, ndk, un, qx, qn⟩ := h
    have hu := hu_of hr
    refine ⟨_, pss_one (ps_lock (ps_for (passes_of rfl) rfl (pi_keys (pv 0)) (pg_name (i := 1) scCu.nd rfl (Or.inl rfl))
      (pss_one (ps_for (passes_of rfl) rfl (pi_tup (pe_call G1 hr (by rfl) g1 F1.kp b1 .nil pass0 (pa_cons (pe_dget hu (pv 0) (pv 1) (fun _ _ => rfl)) pa_nil))) (pg_name (i := 2) scCu.nd rfl (Or.inl rfl))
        (pss_one (ps_if (pt_cmp (pc_dnotin hu (pv 2) (pv 0))) (pss_one (ps_raise rfl (takes_of rfl rfl rfl rfl) (pmk_oex UU.oex UU.iC UU.tI GU hr bU .nil pass0 (by rfl) UU.gC (pa_cons (pv 2) pa_nil)))) pss_nil)))))), ?_⟩
    refine ⟨D, _, hD, trivial, fun od => ?_⟩
    have bt : But D H (upd H D (.frz od (.dK (kvs (rsOf ks))))) := but_upd
    have hF : upd H D (.frz od (.dK (kvs (rsOf ks)))) D = some (.frz od (.dK (kvs (rsOf ks)))) := upd_same
    generalize upd H D (.frz od (.dK (kvs (rsOf ks)))) = H1 at bt hF ⊢
    refine ⟨.ref D, rfl, D, od, rfl, .inl ⟨_, hF, ?_⟩⟩
    refine for_it walk_keys (fun i σ H2 => ∃ y1 y2 : Option V, σ = [some (.ref D), y1, y2] ∧ But D H H2 ∧ H2 D = some (.frz od (.dK (kvs (rsOf ks)))) ∧ Unk ((rsOf ks).map (·.1)) (ks.drop i) o) ⟨none, none, rfl, bt, hF, un⟩ (fun i σ H2 _ ⟨_, _, _, _, h, _⟩ => h) ?_ ?_
    · rintro i x σ H2 H2' hi ⟨y1, y2, rfl, bt2, hF2, un2⟩ ⟨rfl, kk, vv, hkv, rfl⟩
      obtain ⟨⟨x, r⟩, hxr, e⟩ : ∃ q, (rsOf ks)[i]? = some q ∧ ((Sum.inr q.1 : L2.Key), V.ref q.2) = (kk, vv) := by
        unfold kvs at hkv
        rw [List.getElem?_map] at hkv
        obtain ⟨q, h1, h2⟩ := Option.map_eq_some_iff.mp hkv
        exact ⟨q, h1, h2⟩
      cases e
      obtain ⟨c, ps, hk, nmx, R0, xs, va⟩ := rsOf_get al i x r hxr
      have R := bt2.req hD ⟨fun _ z => (by cases z), fun _ _ z => (by cases z)⟩ R0
      have hv := val_at ndk hxr
      have few := va.nam
      have lti := (List.getElem?_eq_some_iff.mp hk).1
      have dk : ks.drop i = .ok x r c ps :: ks.drop (i + 1) := by
        rw [List.drop_eq_getElem_cons lti, (List.getElem?_eq_some_iff.mp hk).2]
      rw [dk] at un2
      have un2 := un2.cons
      refine ⟨.ref D, rfl, .str x, rfl, D, _, rfl, .inl ⟨_, Sum.inr x, .inr ⟨od, hF2⟩, rfl, hv.symm⟩, ?_⟩
      refine ⟨r, c, ps, rfl, R, by omega, fun p ys H3 s3 np hp srt nd mem3 => ?_⟩
      have hF3 := s3 _ _ hF2
      refine ⟨p, rfl, ⟨_, SqT.of hp⟩, for_tup (K := K) (a := p) (xs := ys.map V.str) (fun j σ H4 => H4 = H3 ∧ (∀ z ∈ ys.take j, z ∈ (rsOf ks).map (·.1)) ∧ ∃ y2 : Option V, σ = [some (.ref D), some (.str x), y2]) ⟨rfl, (fun z m => by rw [List.take_zero] at m; cases m), _, rfl⟩ (fun j σ H4 _ ⟨e, _⟩ => by rw [e]; exact SqT.of hp) ?_ ?_⟩
      · rintro j y σ H4 hy ⟨rfl, old, y2', rfl⟩
        rw [List.getElem?_map] at hy
        obtain ⟨z, hz, rfl⟩ := Option.map_eq_some_iff.mp hy
        have mz : z ∈ namesOf ps := (mem3 z).mp (List.mem_of_getElem? hz)
        refine ⟨.str z, rfl, .ref D, rfl, D, _, rfl, .inl ⟨_, Sum.inr z, .inr ⟨od, hF3⟩, rfl, rfl⟩, ?_⟩
        by_cases mem : z ∈ (rsOf ks).map (·.1)
        · obtain ⟨r2, _, hv2⟩ := val_in mem
          rw [hv2]
          refine ⟨_, rfl, iteF ⟨rfl, fun y my => ?_, _, rfl⟩⟩
          rw [List.take_add_one, hz] at my
          rcases List.mem_append.mp my with my | my
          · exact old y my
          · cases List.mem_singleton.mp my
            exact mem
        · rw [val_out mem]
          refine ⟨_, rfl, iteT ⟨.str z, rfl, mk1 fun dx nd2 => ?_⟩⟩
          rcases un2 with ⟨u, rfl, l1, l2, l3⟩ | ⟨h, _⟩
          · have eu : u = z := by
              have mu := (mem3 u).mpr l1
              have e0 : ys = ys.take j ++ ys.drop j := (List.take_append_drop j ys).symm
              have ltj := (List.getElem?_eq_some_iff.mp hz).1
              have dj : ys.drop j = z :: ys.drop (j + 1) := by rw [List.drop_eq_getElem_cons ltj, (List.getElem?_eq_some_iff.mp hz).2]
              have mu2 : u ∈ ys.drop j := by
                rw [e0] at mu
                rcases List.mem_append.mp mu with m | m
                · exact absurd (old u m) l2
                · exact m
              have pw : Srt (ys.drop j) := (sorted_pairs srt).sublist (List.drop_sublist _ _)
              rw [dj] at mu2 pw
              rcases List.mem_cons.mp mu2 with e | m
              · exact e
              · exact lt_anti (l3 z mz mem) ((List.pairwise_cons.mp pw).1 u m)
            subst eu
            exact qx _ rfl dx _ ((bt2.same s3).same (same_new nd2)) (by
              cases e : H dx with
              | none => rfl
              | some ob =>
                by_cases ed : dx = D
                · subst ed
                  rw [hF3] at nd2
                  cases nd2
                · rw [(bt2.same s3) _ _ e ed] at nd2
                  cases nd2) upd_same
          · exact absurd (h z mz) mem
      · rintro σ H4 ⟨rfl, old, y2', rfl⟩
        rw [List.length_map, List.take_length] at old
        refine ⟨_, _, rfl, bt2.same s3, hF3, ?_⟩
        rcases un2 with ⟨u, rfl, l1, l2, l3⟩ | ⟨_, h⟩
        · exact absurd (old u ((mem3 u).mpr l1)) l2
        · exact h
    · rintro σ H2 ⟨y1, y2, rfl, bt2, hF2, un2⟩
      have lk : (kvs (rsOf ks)).length = ks.length := by rw [kvs_len, rsOf_lenE al]
      rw [lk, List.drop_length] at un2
      cases un2
      refine ⟨hF2, qn rfl _ fun b o e => ?_⟩
      by_cases eb : b = D
      · subst eb
        rw [hD] at e
        cases e
        exact upd_same
      · rw [upd_ne eb]
        exact bt2 b o e eb
end
end Moot
/-! sorted(xs, key=f), f an own def that gives (len(x), x) of a tuple of texts. -/
namespace Moot
open PySem PySem.Spec PyProof.Rows L2 PySem.W
/-- a set of names: where it stands, and its names -/
abbrev Nset := Addr × List Str
def ordD (p : Nset) : PyData := .tuple [.int p.2.length, .tuple (p.2.map PyData.str)]
/-- by size, then as tuples -/
def ordLe : Nset → Nset → Bool := dataLe false ordD
def spOrd : Sp := fun vs H Q _ => ∃ (t : Addr) (ns : List Str), vs = [.ref t] ∧ H t = some (.tup (ns.map V.str)) ∧ ∀ p H', Same H H' → H p = none → H' p = some (.tup [.int ns.length, .ref t]) → Q (.ref p) H'
theorem ord_alike (p q : Nset) : alike (ordD p) (ordD q) = true := by
  have key : ∀ a b : List Str, alikeAll (a.map PyData.str) (b.map PyData.str) = true := by
    intro a
    induction a with
    | nil => intro b; rfl
    | cons x a ih =>
      intro b
      cases b with
      | nil => rfl
      | cons y b =>
        show (true && alikeAll (a.map PyData.str) (b.map PyData.str)) = true
        rw [ih b]
        rfl
  show (true && (alikeAll (p.2.map PyData.str) (q.2.map PyData.str) && true)) = true
  rw [key]
  rfl
theorem depth_str0 : ∀ ns : List Str, PyData.depthAll (ns.map PyData.str) = 0
  | [] => rfl
  | x :: ns => by
    show max 0 (PyData.depthAll (ns.map PyData.str)) = 0
    rw [depth_str0 ns]
    rfl
theorem ord_depth (p : Nset) : (ordD p).depth = 2 := by
  show max 0 (max (PyData.depthAll (p.2.map PyData.str) + 1) 0) + 1 = 2
  rw [depth_str0]
  rfl
theorem dp_txts {K : PySem.W.Frag} {H : Hp} : ∀ ns : List Str, DpAll K H (ns.map V.str) (ns.map PyData.str)
  | [] => .nil
  | x :: ns => .cons (.str x) (dp_txts ns)
theorem vals_refs : ∀ {ps : List Nset} {us : List Value}, Vals (ps.map fun p => V.ref p.1) us → us = ps.map fun p => Value.ref p.1
  | [], _, .nil => rfl
  | p :: ps, _ :: us, .cons r t => by
    cases r
    rw [vals_refs t]
    rfl
theorem refs_vals : ∀ ps : List Nset, Vals (ps.map fun p => V.ref p.1) (ps.map fun p => Value.ref p.1)
  | [] => .nil
  | p :: ps => .cons rfl (refs_vals ps)
/-- the result is the items by the order of their keys -/
def rSortBy (K : PySem.W.Frag) (f : Addr) : List V → List V → Hp → VK → Prop := fun vs zs H Q =>
  ∃ (l : Addr) (ps : List Nset), vs = [.ref l] ∧ zs = [.ref f] ∧ SqL K H l (ps.map fun p => V.ref p.1) ∧ (∀ p ∈ ps, H p.1 = some (.tup (p.2.map V.str))) ∧ ps.length ≤ 1000 ∧
    ∀ q H', Same H H' → H q = none → H' q = some (.lst ((ps.mergeSort ordLe).map fun p => V.ref p.1)) → Q (.ref q) H'
/-- the same, the key a function of the kind F in a state of the kind st -/
def rSortV (K : PySem.W.Frag) (F : Addr → Prop) (st : Addr → Hp → Prop) : List V → List V → Hp → VK → Prop := fun vs zs H Q =>
  ∃ (f l : Addr) (ps : List Nset), F f ∧ st f H ∧ vs = [.ref l] ∧ zs = [.ref f] ∧ SqL K H l (ps.map fun p => V.ref p.1) ∧ (∀ p ∈ ps, H p.1 = some (.tup (p.2.map V.str))) ∧ ps.length ≤ 1000 ∧
    ∀ q H', Same H H' → H q = none → H' q = some (.lst ((ps.mergeSort ordLe).map fun p => V.ref p.1)) → Q (.ref q) H'
/-- a heap without one of its objects -/
def without (h : Heap) (a : Addr) : Heap := h.update a fun o => { o with data := .freed }
theorem without_at (h : Heap) (a : Addr) : (without h a).get? a = none := by
  unfold without
  rcases h with ⟨objs, l⟩
  show (match (objs.modify a fun o => { o with data := .freed })[a]? with | some ⟨_, _, .freed, _⟩ => none | o => o) = none
  rw [Array.getElem?_modify, if_pos rfl]
  cases objs[a]? <;> rfl
theorem without_ne {h : Heap} {a b : Addr} {o : Obj} (ne : b ≠ a) (e : (without h a).get? b = some o) : h.get? b = some o := by
  rw [← e]
  exact (Heap.get?_update_other _ _ ne.symm).symm
/-- a call of f gives the key, wherever st holds -/
structure KeyOk (P : Program) (w : World) (K : PySem.W.Frag) (mg : Str → Option Value) (base : Heap) (k : Nat) (f : Addr) (st : Hp → Prop) : Prop where
  run : ∀ (A : Around) (outer : List Env) (s : Shared) (H : Hp) (t : Addr) (ns : List Str) (Q : VK), Room k A → Env0 P w K mg base A outer s H → st H → H t = some (.tup (ns.map V.str)) → (∀ p H', Same H H' → H p = none → H' p = some (.tup [.int ns.length, .ref t]) → Q (.ref p) H') →
    codeAny (model P w) A (.call (.ref f) ⟨[.ref t], []⟩) (CR CX0 outer P w H s Q E0) s
  stay : ∀ H H' : Hp, st H → Same H H' → st H'
theorem KeyOk.of {P : Program} {w : World} {K : PySem.W.Frag} {mg : Str → Option Value} {base : Heap} {k : Nat} {f : Addr} {fd : FuncData} (G : FnOk P w K mg base CX0 k f fd ["nodes"] spOrd) (bd : Binds K fd ["nodes"] []) : KeyOk P w K mg base k f fun _ => True :=
  ⟨fun A outer s H t ns Q hr e0 _ ht q => G.run A outer s H ⟨[.ref t], []⟩ [.ref t] [.ref t] Q E0 hr e0 (bd s [.ref t] (e0.mod.kin.keeps fun b o e => (e0.bs b o e).1) rfl) (.cons rfl .nil) ⟨t, ns, rfl, ht, q⟩, fun _ _ _ _ => trivial⟩
section
variable {X : Cx}
theorem fp_on {pins : List (Addr × Obj)} {H H' : Hp} {b : Addr} (f : FpOk X pins H b) (h : H' b = none) : FpOk X pins H' b := ⟨h, f.2⟩
/-- the keys are asked, one by one, and the items laid by them -/
theorem sort_rest {f : Addr} {st : Hp → Prop} {k : Nat} (G : KeyOk X.prog X.w X.K X.mg X.base k f st) (hr : Room (k + 2) X.A)
    {pins : List (Addr × Obj)} {σ : L2.St} {H : Hp} {s : Shared} {a kS : Addr} {e1 : Nat} {ps : List Nset} {R : PySem.Fin → Shared → Prop} {E : Value → Shared → Prop} (J : Inv X pins σ H s) (fa : FpOk X pins H a) (fk : FpOk X pins H kS) (ne : kS ≠ a)
    (nk : s.heap.get? kS = some (seqObj "list" #[] 0)) (na : s.heap.get? a = some (seqObj "list" #[] e1)) (tups : ∀ p ∈ ps, H p.1 = some (.tup (p.2.map V.str))) (few : ps.length ≤ 1000) (hst : st H)
    (fin : ∀ s' H', Inv X pins σ H' s' → Same H H' → H' a = some (.lst ((ps.mergeSort ordLe).map fun p => V.ref p.1)) → R (.done (.ret .none)) s') :
    wpAny (model X.prog X.w) X.A.in1.in1 (ksk_rest a (.ref f) false (ps.map fun p => Value.ref p.1).toArray e1 (.ref kS)) R E s := by
  have plen : (ps.map fun p => Value.ref p.1).length = ps.length := List.length_map _
  have small : ps.length ≤ sizeLine := Nat.le_of_lt (small1000 few)
  have room : Room k X.A.in1.in1 := hr.in1.in1
  unfold ksk_rest
  apply wpAny_bind
  apply wpAny_rule
  rw [List.forIn_toArray]
  apply wpAny_bind
  refine ksk_fold (fun i s' => ∃ (H' : Hp) (kA : Array Value) (e : Nat) (ts : List Addr), Inv X pins σ H' s' ∧ Same H H' ∧ H' a = none ∧ H' kS = none ∧ s'.heap.get? kS = some (seqObj "list" kA e) ∧ s'.heap.get? a = some (seqObj "list" #[] e1) ∧
    kA.toList = ts.map Value.ref ∧ ts.length = i ∧ ∀ (j : Nat) t p, ts[j]? = some t → ps[j]? = some p → H' t = some (.tup [.int p.2.length, .ref p.1])) _ 0 s ⟨H, #[], 0, [], J, Same.refl H, fa.1, fk.1, nk, na, rfl, rfl, fun j t p e => by simp at e⟩ ?_ ?_
  · rintro j x s' hx ⟨H', kA, e, ts, J', same, Ha, Hk, nk', na', ek, el, keys⟩
    rw [Nat.zero_add] at el ⊢
    rw [List.getElem?_map] at hx
    obtain ⟨p, hp, rfl⟩ := Option.map_eq_some_iff.mp hx
    have jlt : j < ps.length := (List.getElem?_eq_some_iff.mp hp).1
    have tp := same _ _ (tups p (List.mem_of_getElem? hp))
    have PJ := J'.pinned (fp := [kS, a]) (fun b hb => by
      rcases List.mem_cons.mp hb with c | c
      · rw [c]; exact fp_on fk Hk
      · rw [List.mem_singleton.mp c]; exact fp_on fa Ha) (fun b hb => by
      rcases List.mem_cons.mp hb with c | c
      · rw [c]; exact ⟨_, nk', fun v z => by cases z⟩
      · rw [List.mem_singleton.mp c]; exact ⟨_, na', fun v z => by cases z⟩)
    have ksz : kA.size = j := by
      have := congrArg List.length ek
      rw [Array.length_toList, List.length_map] at this
      omega
    apply wpAny_bind
    apply wpAny_attempt
    generalize hKQ : (fun (v : V) (H'' : Hp) => ∃ t, v = .ref t ∧ Same H' H'' ∧ H'' t = some (.tup [.int p.2.length, .ref p.1])) = KQ
    refine wpAny_mono (Q := fun u s'' => EP X (pins ++ pinsAt [kS, a] s'.heap) σ KQ u s'') (E := fun _ _ => False) ?_ (fun u s'' hE => ?_) fun _ _ z => z.elim
    · refine wpAny_call (codeAny_mono (G.run X.A.in1.in1 X.stack s' H' p.1 p.2 KQ room PJ.env0.in1.in1 (G.stay _ _ hst same) tp fun t H'' s2 nt ht => by rw [← hKQ]; exact ⟨t, rfl, s2, ht⟩) fun r s2 hq => ?_)
      cases r with
      | error e => exact hq.elim
      | ok fl =>
        cases fl with
        | ret u => exact PJ.after hq
        | next => exact hq.elim
        | brk => exact hq.elim
        | cont => exact hq.elim
    · obtain ⟨v, H'', J'', rv, hv⟩ := hE
      rw [← hKQ] at hv
      obtain ⟨t, rfl, s2, ht⟩ := hv
      cases rv
      have pk := J''.pin (kS, seqObj "list" kA e) (List.mem_append_right _ (List.mem_append_right _ (mem_pinsAt List.mem_cons_self nk')))
      have pa := J''.pin (a, seqObj "list" #[] e1) (List.mem_append_right _ (List.mem_append_right _ (mem_pinsAt (List.mem_cons_of_mem _ List.mem_cons_self) na')))
      have up := Heap.SameBut.update s''.heap kS (Obj.mapSeq (·.push (Value.ref t)))
      apply wpAny_bind
      refine listUpdate_at pk.1 rfl ?_ (by rw [ksz]; omega) (by rw [Array.size_push, ksz]; omega)
      refine wpAny_pure ⟨rfl, H'', kA.push (.ref t), _, ts ++ [t], Inv.turnedL (s := s'') (t' := s''.toks) (ch := [kS]) J''.unpinned (fun b o nb eb => (up.2 b fun c => nb (by rw [c]; exact List.mem_cons_self)).trans eb) (fun b hb => ?_), same.trans s2, pa.2.1, pk.2.1, get?_update_seq pk.1 _, (up.2 a ne.symm).trans pa.1, ?_, ?_, ?_⟩
      · rw [List.mem_singleton.mp hb]
        exact fp_on fk pk.2.1
      · rw [Array.toList_push, ek, List.map_append]
        rfl
      · rw [List.length_append, el]
        rfl
      · intro i t' p' h1 h2
        by_cases c : i < ts.length
        · rw [List.getElem?_append_left c] at h1
          exact s2 _ _ (keys i t' p' h1 h2)
        · have il : i = j := by
            have := (List.getElem?_eq_some_iff.mp h1).1
            rw [List.length_append, List.length_singleton] at this
            omega
          rw [il] at h1 h2
          rw [List.getElem?_append_right (by omega), el, Nat.sub_self] at h1
          cases Option.some.inj h1
          cases Option.some.inj (hp.symm.trans h2)
          exact ht
  · rintro s' ⟨H', kA, e, ts, J', same, Ha, Hk, nk', na', ek, el, keys⟩
    rw [Nat.zero_add, plen] at el
    have ksz : kA.size = ps.length := by
      have := congrArg List.length ek
      rw [Array.length_toList, List.length_map] at this
      omega
    have each : EachIs (fun v d => ∃ as, Reads s'.heap v d as) kA.toList (ps.map ordD) := by
      rw [ek]
      have go : ∀ (ts : List Addr) (ps : List Nset), ts.length = ps.length → (∀ (j : Nat) t p, ts[j]? = some t → ps[j]? = some p → H' t = some (.tup [.int p.2.length, .ref p.1])) → (∀ p ∈ ps, H p.1 = some (.tup (p.2.map V.str))) →
          EachIs (fun v d => ∃ as, Reads s'.heap v d as) (ts.map Value.ref) (ps.map ordD) := by
        intro ts
        induction ts with
        | nil =>
          intro ps hl _ _
          cases ps with
          | nil => exact .nil
          | cons _ _ => simp at hl
        | cons t ts ih =>
          intro ps hl hk ht
          cases ps with
          | nil => simp at hl
          | cons p ps =>
            refine .cons ?_ (ih ps (by simpa using hl) (fun j t' p' h1 h2 => hk (j + 1) t' p' h1 h2) fun p' m => ht p' (List.mem_cons_of_mem _ m))
            refine Dp.reads J' (ordD p) (.ref t) (.ref t) (.tup (SqT.of (hk 0 t p rfl rfl)) (.cons (.int _) (.cons (.tup (SqT.of (same _ _ (ht p List.mem_cons_self))) (dp_txts p.2)) .nil))) rfl
      exact go ts ps el keys tups
    have all : AllAlike (ps.map ordD) := AllAlike.of ord_alike
    have can : Sortable (ps.map ordD) := Sortable.tuples fun p => ⟨_, _, rfl⟩
    have units : ∀ d, d ∈ ps.map ordD → X.A.in1.in1.units + d.depth < cLine := fun d md => by
      obtain ⟨p, _, rfl⟩ := List.mem_map.mp md
      rw [ord_depth]
      have := room.un
      omega
    apply wpAny_bind
    apply listItems_at nk' rfl
    refine keyH_end (κ := dataKind s'.heap (ps.map ordD)) (h₁ := without s'.heap kS) (fun b o nb eb => ?_) (without_at _ _) nk' na' ne (SortsAt.data each all can units) (by rw [plen]; exact ksz) (by rw [plen]; exact small) fun h' tk c kp at' => ?_
    · by_cases c : b = kS
      · rw [c, without_at] at eb
        cases eb
      · exact without_ne c eb
    · have out := keyedOut_each (rev := false) (R := fun v p => v = Value.ref p.1) (bs := ps) (vs := ps.map fun p => Value.ref p.1) ordD ⟨s'.heap, kA.toList, all, rfl, each⟩ (by
        have go : ∀ ps : List Nset, EachIs (fun v p => v = Value.ref p.1) (ps.map fun p => Value.ref p.1) ps := by
          intro ps
          induction ps with
          | nil => exact .nil
          | cons p ps ih => exact .cons rfl ih
        exact go ps)
      have eo : ∀ {vs : List Value} {qs : List Nset}, EachIs (fun v p => v = Value.ref p.1) vs qs → vs = qs.map fun p => Value.ref p.1 := by
        intro vs qs h
        induction h with
        | nil => rfl
        | cons a _ ih => rw [a, ih]; rfl
      rw [eo out] at at'
      have klen : (ps.mergeSort ordLe).length = ps.length := (List.mergeSort_perm ps _).length_eq
      have kept : ∀ b o, b ≠ a → b ≠ kS → s'.heap.get? b = some o → h'.get? b = some o := fun b o n1 n2 eb => kp b o n1 ((Heap.get?_update_other _ _ n2.symm).trans eb)
      have nn : ∀ {b o}, H' b = some o → b ≠ a ∧ b ≠ kS := fun {b o} eb => ⟨fun c => (by rw [c, Ha] at eb; cases eb), fun c => (by rw [c, Hk] at eb; cases eb)⟩
      have upn : ∀ {b o}, H' b = some o → (upd H' a (.lst ((ps.mergeSort ordLe).map fun p => V.ref p.1))) b = some o := fun {b o} eb => by
        rw [upd_ne (nn eb).1]
        exact eb
      have out2 : ∀ {b}, b ∉ [a, kS] → b ≠ a ∧ b ≠ kS := fun {b} nb => ⟨fun c => nb (by rw [c]; exact List.mem_cons_self), fun c => nb (by rw [c]; exact List.mem_cons_of_mem _ List.mem_cons_self)⟩
      have un : Un (frs X.stack) [a, kS] H' (upd H' a (.lst ((ps.mergeSort ordLe).map fun p => V.ref p.1))) s'.heap h' :=
        ⟨fun b o eb _ _ nx => kept b o (out2 nx).1 (out2 nx).2 eb, fun b o eb _ _ nx => ⟨o.slots, kept b o (out2 nx).1 (out2 nx).2 eb⟩, fun b o _ n nx => by rw [upd_ne (out2 nx).1]; exact n, fun b o eb nx => ⟨o, kept b o (out2 nx).1 (out2 nx).2 eb⟩,
          fun b xs eb => upn eb, fun b o u eb => upn eb, fun b qs eb => ⟨#[], by rw [upn eb]; simp⟩⟩
      have hok : HOk X.prog X.w (upd H' a (.lst ((ps.mergeSort ordLe).map fun p => V.ref p.1))) h' := fun b u eb => by
        by_cases c : b = a
        · rw [c, upd_same] at eb
          cases Option.some.inj eb
          rw [c]
          exact ⟨by rw [List.length_map, klen]; exact small, _, _, refs_vals _, at'⟩
        · rw [upd_ne c] at eb
          refine (J'.hok b u eb).stay (fun d v hd q => ?_) (fun d q => upn q) fun d xs q => upn q
          rcases hd with rfl | hd
          · exact kept _ v (nn eb).1 (nn eb).2 q
          · exact kept d v (nn hd).1 (nn hd).2 q
      have JJ := J'.call (g' := s'.gens) (t' := tk) (d' := s'.drawn) un hok J'.bare fun b hb => by
        rcases List.mem_cons.mp hb with c | c
        · rw [c]
          exact ⟨fa.2.2.2.1, fa.2.1, fa.2.2.2.2.1, fa.2.2.2.2.2⟩
        · rw [List.mem_singleton.mp c]
          exact ⟨fk.2.2.2.1, fk.2.1, fk.2.2.2.2.1, fk.2.2.2.2.2⟩
      exact fin _ _ JJ (fun b o eb => upn (same b o eb)) upd_same
theorem cr_sortV {k : Nat} {F : Addr → Prop} {st : Addr → Hp → Prop} (G : ∀ f, F f → KeyOk X.prog X.w X.K X.mg X.base k f (st f)) (hr : Room (k + 2) X.A) : CallRK X (.builtin "sorted") [Str.ofString "key"] (rSortV X.K F st) := by
  intro pins s σ H xs zs us ws Q I r rz h
  obtain ⟨f, l, ps, hF, hst, rfl, rfl, hs, tups, few, q⟩ := h
  obtain ⟨its, rv, hl, hz⟩ := I.list hs
  have eits := vals_refs rv
  subst eits
  rw [Vals.ref1 r, Vals.ref1 rz]
  show wpAny _ _ (call (.builtin "sorted") [.ref l] [(Str.ofString "key", .ref f)]) _ _ _
  have plen : (ps.map fun p => Value.ref p.1).length = ps.length := List.length_map _
  have small : ps.length ≤ sizeLine := Nat.le_of_lt (small1000 few)
  refine sorted_of_sort hl.isList (by rw [plen]; exact small) (ksk_s1 _ _) (fun _ => ksk_l1 _ _) fun E' => ?_
  rw [ksk_t1]
  generalize ea : s.heap.objs.size + 1 = a
  have na : s.heap.objs.size ≤ a := by rw [← ea]; exact Nat.le_succ _
  have Ha : H a = none := I.hok.fresh na
  have fa : FpOk X pins H a := I.fpOk na Ha
  have ha : (copyHeap s.heap (ps.map fun p => Value.ref p.1)).get? a = some (seqObj "list" (ps.map fun p => Value.ref p.1).toArray 0) := by rw [← ea]; exact copyHeap_at _ _
  have I0 : Inv X pins σ H { s with heap := copyHeap s.heap (ps.map fun p => Value.ref p.1) } := I.kept (t' := s.toks) fun b u e => copyHeap_old e
  generalize copyHeap s.heap (ps.map fun p => Value.ref p.1) = h0 at ha I0 ⊢
  unfold ksk_tree
  apply wpAny_bind
  apply listItems_at ha rfl
  apply wpAny_bind
  refine listUpdate_at ha rfl ?_ (by rw [List.size_toArray, plen]; exact small) (Nat.zero_le _)
  obtain ⟨e1, ha1⟩ : ∃ e1, (h0.update a (Obj.mapSeq fun _ => (#[] : Array Value))).get? a = some (seqObj "list" #[] e1) := ⟨_, get?_update_seq ha fun _ => #[]⟩
  have I1 : Inv X pins σ H { s with heap := h0.update a (Obj.mapSeq fun _ => (#[] : Array Value)) } := Inv.turnedL (s := { s with heap := h0 }) (t' := s.toks) (ch := [a]) I0 (fun b o nb e => (Heap.get?_update_other _ _ fun c => nb (by rw [c]; exact List.mem_cons_self)).trans e) fun b hb => by
    rw [List.mem_singleton.mp hb]
    exact fa
  generalize h0.update a (Obj.mapSeq fun _ => (#[] : Array Value)) = h1 at ha1 I1 ⊢
  apply wpAny_bind
  apply seqEpoch_at ha1 rfl
  apply wpAny_bind
  refine wpAny_newTuple ?_ (by rw [List.toList_toArray, plen]; exact small)
  apply wpAny_bind
  refine wpAny_newList ?_ (Nat.zero_le _)
  apply wpAny_holding
  rw [List.toList_toArray]
  have I2 : Inv X pins σ H { s with heap := (h1.push (seqObj "tuple" (ps.map fun p => Value.ref p.1).toArray 0)).push (seqObj "list" #[] 0) } := Inv.kept (s := { s with heap := h1 }) (t' := s.toks) I1 fun b u e => Heap.get?_push_of_some _ (Heap.get?_push_of_some _ e)
  have big : h1.objs.size ≤ (h1.push (seqObj "tuple" (ps.map fun p => Value.ref p.1).toArray 0)).objs.size := by
    rw [size_push']
    exact Nat.le_succ _
  have fk : FpOk X pins H (h1.push (seqObj "tuple" (ps.map fun p => Value.ref p.1).toArray 0)).objs.size := I1.fpOk big (I1.hok.fresh big)
  refine sort_rest (G f hF) hr (s := { s with heap := (h1.push (seqObj "tuple" (ps.map fun p => Value.ref p.1).toArray 0)).push (seqObj "list" #[] 0) }) I2 fa fk (Nat.ne_of_gt (Nat.lt_of_lt_of_le (Heap.lt_size ha1) big)) (Heap.get?_push_size _ rfl) (Heap.get?_push_of_some _ (Heap.get?_push_of_some _ ha1)) tups few hst fun s' H' J' same at' => ⟨rfl, .ref a, H', J', rfl, q a H' same Ha at'⟩
theorem cr_sortBy {f : Addr} {fd : FuncData} {k : Nat} (G : FnOk X.prog X.w X.K X.mg X.base CX0 k f fd ["nodes"] spOrd) (hr : Room (k + 2) X.A) (bd : Binds X.K fd ["nodes"] []) : CallRK X (.builtin "sorted") [Str.ofString "key"] (rSortBy X.K f) := by
  intro pins s σ H xs zs us ws Q I r rz h
  obtain ⟨l, ps, e1, e2, hs, tups, few, q⟩ := h
  exact cr_sortV (F := fun g => g = f) (st := fun _ _ => True) (fun g e => by rw [e]; exact .of G bd) hr pins s σ H xs zs us ws Q I r rz ⟨f, l, ps, rfl, trivial, e1, e2, hs, tups, few, q⟩
end
end Moot
namespace Moot
open PySem PySem.Spec PyProof.Rows L2 LamX NdefX
/-! lambdas as values -/
/-- the object at f is this lambda -/
def LamO (f : Addr) (q : Str) (params : Arguments) (body : Expr) (scope : Scope) (cl : List (Str × Addr)) (c : Addr) : HO :=
  .ext fun h => ∃ pm ctv : Value, h.get? f = some (PySem.W.kla_obj "<lambda>" q params body scope cl pm c ctv)
theorem lamO_ne {f c : Addr} {q : Str} {params : Arguments} {body : Expr} {scope : Scope} {cl : List (Str × Addr)} (ps : Array Value) : LamO f q params body scope cl c ≠ .tbl ps := fun z => by
  unfold LamO at z
  cases z
section
variable {X : Cx} {pins : List (Addr × Obj)} {σ : L2.St} {H : Hp} {s : Shared}
theorem lam_put {q : Str} {params : Arguments} {body : Expr} {scope : Scope} {cl : List (Str × Addr)} {pm ctv : Value} {c' : Addr} {t' : Nat} (I : Inv X pins σ H s) :
    Inv X pins σ (upd H s.heap.objs.size (LamO s.heap.objs.size q params body scope cl c')) { s with heap := s.heap.push (PySem.W.kla_obj "<lambda>" q params body scope cl pm c' ctv), toks := t' } := by
  have e : (s.heap.push (PySem.W.kla_obj "<lambda>" q params body scope cl pm c' ctv)).get? s.heap.objs.size = some (PySem.W.kla_obj "<lambda>" q params body scope cl pm c' ctv) := Heap.get?_push_size _ rfl
  refine I.laid (a := s.heap.objs.size) (fun b u h => Heap.get?_push_of_some _ h) (Nat.le_refl _) ?_
  exact ⟨⟨pm, ctv, e⟩, ⟨_, e⟩, fun h1 h2 ⟨p, t, z⟩ st => ⟨p, t, st _ z⟩⟩
/-- a lambda is made -/
theorem lam_new {T : List (Addr × Str)} {c P : Addr} {q : Str} {params : Arguments} {body : Expr} {scope : Scope} {pos : Pos} {E : Value → Shared → Prop} {Q : Value → Shared → Prop} (I : Inv X pins σ H s) (TB : TabB X.base X.mg c P) (hcode : X.env.code = .ref c)
    (hq : X.env.qual ++ "<lambda>" = q) (hm : (P, q) ∈ T) (hu : ∀ p ∈ T, p.1 = P → p.2 = q) (hT : Tabs T H) (hdef : defaultsOf params X.env = ([], [])) (hfree : ∀ y ∈ scope.names, y.2 = .free → ∃ c, X.env.cells.lookup y.1 = some c)
    (h : ∀ (f c' : Addr) (H1 : Hp) (s' : Shared), Inv X pins σ H1 s' → ExtN H H1 → Tabs T H1 → H f = none → H1 f = some (LamO f q params body scope (cloFrom X.env.cells scope.names []) c') → H1 c' = some (CodeO c' q) → Q (.ref f) s') :
    wpAny (model X.prog X.w) X.A (eval (.Lambda params body scope pos) X.env) Q E s := by
  subst hq
  obtain ⟨ps, hP, ht, ha⟩ := hT _ hm
  have at_P : s.heap.get? P = some { cls := .none, data := .fields ps } := I.hok P _ hP
  refine PySem.W.kla_eval hdef ?_
  cases known : codeAmong pos ps.toList with
  | some cv =>
    obtain ⟨c', rfl, hco⟩ := ha pos cv known
    refine PySem.W.kla_makeFunctionHit (mg := X.mg) (c := c) (P := P) (ps := ps) (closure_ok hfree) I.ok.glob (I.mod.glob.keeps I.bk) hcode (TB.code.keeps I.bk) at_P ht known (TB.bm.keeps I.bk) fun ctv h' tk hx hsz => ?_
    have J : Inv X pins σ H { s with heap := h', toks := tk } := I.kept hx
    have new : H h'.objs.size = none := J.hok.fresh (Nat.le_refl _)
    refine h h'.objs.size c' _ _ (lam_put (t' := tk) J) (fun b o e _ => (upd_ne (ne_of_none e new)).trans e) (hT.ext fun b o e => (upd_ne (ne_of_none e new)).trans e) new upd_same ((upd_ne (ne_of_none hco new)).trans hco)
  | none =>
    refine PySem.W.kla_makeFunction (mg := X.mg) (c := c) (P := P) (ps := ps) (closure_ok hfree) I.ok.glob (I.mod.glob.keeps I.bk) hcode (TB.code.keeps I.bk) at_P ht known TB.gP (TB.bm.keeps I.bk) fun c' ctv h' tk hx hge hlt hrec htb => ?_
    obtain ⟨c2, oc, vs, t, e2, hoc, hd, hv⟩ := hrec
    cases e2
    have newC : H c' = none := I.hok.fresh hge
    have J := inv_table (t' := tk) (more := #[rawInt pos.line, rawInt pos.col, .ref c']) (h' := h') I hP (fun b o hb e => hx b o hb e) htb hge ⟨oc, vs, t, hoc, hd, hv⟩
    generalize hH1 : upd (upd H P (.tbl (ps ++ #[rawInt pos.line, rawInt pos.col, .ref c']))) c' (CodeO c' (X.env.qual ++ "<lambda>")) = H1 at J
    have atC : H1 c' = some (CodeO c' (X.env.qual ++ "<lambda>")) := by rw [← hH1, upd_same]
    have atP : H1 P = some (.tbl (ps ++ #[rawInt pos.line, rawInt pos.col, .ref c'])) := by rw [← hH1, upd_ne (ne_of_none hP newC), upd_same]
    have other : ∀ b o, H b = some o → b ≠ P → H1 b = some o := fun b o e n => by rw [← hH1, upd_ne (ne_of_none e newC), upd_ne n]; exact e
    have ext : ExtN H H1 := fun b o e n => other b o e fun z => n ps (Option.some.inj (e.symm.trans (by rw [z]; exact hP)))
    have tabs : Tabs T H1 := fun p hp => by
      by_cases hb : p.1 = P
      · rw [hu p hp hb, hb]
        have eL : (ps ++ #[rawInt pos.line, rawInt pos.col, .ref c']).toList = ps.toList ++ [rawInt pos.line, rawInt pos.col, .ref c'] := by simp
        refine ⟨_, atP, by rw [eL]; exact PySem.TriplesOk_snoc _ _ _ _ ht, fun p' cv hcv => ?_⟩
        rw [eL] at hcv
        rcases among_app _ ht hcv with z | z
        · obtain ⟨c0, e1, e2⟩ := ha p' cv z
          exact ⟨c0, e1, ext _ _ e2 codeO_ne⟩
        · exact ⟨c', z, atC⟩
      · obtain ⟨ps', a1, a2, a3⟩ := hT p hp
        refine ⟨ps', other _ _ a1 hb, a2, fun p' cv hcv => ?_⟩
        obtain ⟨c0, e1, e2⟩ := a3 p' cv hcv
        exact ⟨c0, e1, ext _ _ e2 codeO_ne⟩
    have new : H1 h'.objs.size = none := J.hok.fresh (Nat.le_refl _)
    have newF : H h'.objs.size = none := I.hok.fresh (Nat.le_trans hge (Nat.le_of_lt hlt))
    exact h h'.objs.size c' _ _ (lam_put (t' := tk) J) (fun b o e n => (upd_ne (ne_of_none e newF)).trans (ext b o e n)) (tabs.ext fun b o e => (upd_ne (ne_of_none e new)).trans e) newF upd_same ((upd_ne (ne_of_none atC new)).trans atC)
/-- lambda ..: .. -/
def tLamV (T : List (Addr × Str)) (q : Str) (params : Arguments) (body : Expr) (scope : Scope) (cl : List (Str × Addr)) : TE := fun _ H Q =>
  Tabs T H ∧ ∀ (f c' : Addr) (H1 : Hp), ExtN H H1 → Tabs T H1 → H f = none → H1 f = some (LamO f q params body scope cl c') → H1 c' = some (CodeO c' q) → Q (.ref f) H1
theorem pe_lam {T : List (Addr × Str)} {c P : Addr} {q : Str} {params : Arguments} {body : Expr} {scope : Scope} {pos : Pos} (TB : TabB X.base X.mg c P) (hcode : X.env.code = .ref c) (hq : X.env.qual ++ "<lambda>" = q) (hm : (P, q) ∈ T) (hu : ∀ p ∈ T, p.1 = P → p.2 = q)
    (hdef : defaultsOf params X.env = ([], [])) (hfree : ∀ y ∈ scope.names, y.2 = .free → X.env.scope.names.lookup y.1 = some .cell ∨ X.env.scope.names.lookup y.1 = some .free) :
    PE X (.Lambda params body scope pos) (tLamV T q params body scope (cloFrom X.env.cells scope.names [])) := by
  refine ⟨fun pins s σ H Q I h => ?_⟩
  obtain ⟨hT, h⟩ := h
  exact lam_new I TB hcode hq hm hu hT hdef (fun y hy e => (hfree y hy e).elim (fun z => I.ok.has _ (.inl z)) fun z => I.ok.has _ (.inr z)) fun f c' H1 s' I1 eN T1 f0 f1 c1 => ⟨.ref f, H1, I1, rfl, h f c' H1 eN T1 f0 f1 c1⟩
end
end Moot
namespace Moot
open PySem PySem.Spec PyProof.Rows L2 LamX NdefX
/-- a lambda stands at f -/
def VAt (H : Hp) (f : Addr) : Prop := ∃ (q : Str) (params : Arguments) (body : Expr) (scope : Scope) (cl : List (Str × Addr)) (c : Addr), H f = some (LamO f q params body scope cl c)
theorem VAt.fn {P : Program} {w : World} {H : Hp} {h : Heap} {f : Addr} (hok : HOk P w H h) (v : VAt H f) : PySem.W.FnAt f h := by
  obtain ⟨q, params, body, scope, cl, c, e⟩ := v
  obtain ⟨⟨pm, ctv, ho⟩, _⟩ := hok f _ e
  exact ⟨_, _, _, _, ho⟩
/-- what a call of the value f gives -/
structure VOk (P : Program) (w : World) (K : PySem.W.Frag) (mg : Str → Option Value) (base : Heap) (k : Nat) (f : Addr) (sp : List V → Hp → VK → Prop) : Prop where
  run : ∀ (A : Around) (outer : List Env) (s : Shared) (H : Hp) (us : List Value) (vs : List V) (Q : VK), Room k A → Env0 P w K mg base A outer s H → Vals vs us → sp vs H Q → codeAny (model P w) A (.call (.ref f) ⟨us, []⟩) (CR CX0 outer P w H s Q E0) s
def tCallV (f : Addr) (i : Nat) (sp : List V → Hp → VK → Prop) (t : TA) : TE := fun σ H Q => σ[i]? = some (some (.ref f)) ∧ VAt H f ∧ t σ H fun vs H1 => VAt H1 f ∧ sp vs H1 Q
theorem pe_callV {X : Cx} {k i : Nat} {f : Addr} {x : Str} {sp : List V → Hp → VK → Prop} {t : TA} {e : Expr} {es : List Expr} {p pos : Pos} (V : VOk X.prog X.w X.K X.mg X.base k f sp) (hr : Room k X.A) (hN : X.N[i]? = some x) (hv : Vis X.env.scope x) (ha : PA X (e :: es) t)
    (hd : (x == ("__debug__" : Str)) = false := by decide) (hcd : (x == ("__classdict__" : Str)) = false := by decide)
    (he : starEach (e :: es) X.env = (false, eval e X.env) :: starEach es X.env := by rfl) (hpl : (backTo pos (starEach es X.env)).any (·.1) = false := by rfl) :
    PE X (.Call (.Name x p) (e :: es) [] pos) (tCallV f i sp t) := by
  refine ⟨fun pins s σ H Q I h => ?_⟩
  obtain ⟨hs, hf, ht⟩ := h
  refine wpAny_Call_Name_kw (thn ((pe_var (pos := p) hN hv hd hcd).run pins s σ H (fun v H1 => v = .ref f ∧ H1 = H) I ⟨.ref f, hs, rfl, rfl⟩) fun u s1 ⟨v, H1, I1, r1, q1⟩ => ?_)
  obtain ⟨ev, eH⟩ := q1
  subst ev
  rw [eH] at I1
  obtain rfl : u = Value.ref f := r1
  refine PySem.W.callWith_F (first := []) (hf.fn I1.hok) (thn (ha.run pos pins s1 σ H _ I1 ht) fun us s2 ⟨vs, H2, I2, r, h1, q⟩ => ⟨h1.fn I2.hok, ?_⟩) he hpl
  show wpAny _ _ (call (.ref f) us) _ _ _
  refine wpAny_call (codeAny_mono (V.run X.A X.stack s2 H2 us vs Q hr I2.env0 r q) fun r s' hq => ?_)
  cases r with
  | error e => exact hq.elim
  | ok fl =>
    cases fl with
    | ret u => exact I2.after hq
    | next => exact hq.elim
    | brk => exact hq.elim
    | cont => exact hq.elim
section
variable {P : Program} {w : World} {K : PySem.W.Frag} {mg : Str → Option Value} {base : Heap}
/-- a lambda's call, by its body -/
theorem lam_run {N ps fr : List Str} {q : Str} {params : Arguments} {body : Expr} {scope : Scope} {cl : List (Str × Addr)} {f c' : Addr} {k : Nat} (S : NScope N ps fr scope) {A : Around} {outer : List Env} {s : Shared} {H : Hp} {us : List Value} {vs : List V} {ws : List (Option V)} {Q : VK}
    (hb : ∀ pm ctv : Value, bindArgs (PySem.W.kla_fn "<lambda>" q params body scope cl pm (.ref c') ctv) ⟨us, []⟩ = pure (ps.zip us)) (hr : Room (k + 1) A) (e0 : Env0 P w K mg base A outer s H) (hf : H f = some (LamO f q params body scope cl c')) (hc : H c' = some (CodeO c' q))
    (C : CellsAt cl fr ws s.heap H) (r : Vals vs us) (hl : vs.length = ps.length)
    (hbody : Room k (A.deeper (envF ⟨"<lambda>", q, params, [], scope, cl, c'⟩ f s.heap.objs.size)) → ∃ tb, PE (ncx CX0 P w K mg base N ⟨"<lambda>", q, params, [], scope, cl, c'⟩ f A outer s H E0) body tb ∧ tb (startF N vs ws) H Q) :
    codeAny (model P w) A (.call (.ref f) ⟨us, []⟩) (CR CX0 outer P w H s Q E0) s := by
  have lim : s.heap.NoLimit := e0.mod.nolimit.keeps fun b o e => (e0.bs b o e).1
  obtain ⟨⟨pm, ctv, ho⟩, _⟩ := e0.hok f _ hf
  refine PySem.W.kla_callFunE hr.depth ho rfl S.co S.gen rfl (codeO_at e0.hok hc) ?_
  rw [hb pm ctv]
  refine wpAny_pure (wpAny_newFunctionEnv S.nocell (fun ⟨n, _⟩ hy => S.par n (List.of_mem_zip hy).1) (fun h₁ hns hsb => ⟨lim.fresh _ hsb, ?_⟩) S.kind)
  show codeAny _ _ (.expr body (envF ⟨"<lambda>", q, params, [], scope, cl, c'⟩ f s.heap.objs.size)) _ _
  have kp : ∀ b o, s.heap.get? b = some o → h₁.get? b = some o := fun b o e => hsb.extBut b o (Nat.ne_of_lt (Heap.lt_size e)) (Heap.get?_push_of_some _ e)
  obtain ⟨tb, hp, ht⟩ := hbody (hr.deeper _)
  have I : Inv (ncx CX0 P w K mg base N ⟨"<lambda>", q, params, [], scope, cl, c'⟩ f A outer s H E0) [] (startF N vs ws) H { s with heap := h₁, toks := s.toks + (ps.zip us).length } := inv_startN (F := ⟨"<lambda>", q, params, [], scope, cl, c'⟩) S hr.hd e0 hl r C hns kp
  refine PySem.W.kla_codeExpr (wpAny_mono (hp.run [] _ _ H Q I ht) (fun v s' hq => ?_) fun e s' hq => hq)
  obtain ⟨v', H', J, rv, q⟩ := hq
  exact ⟨v', H', J.os, J.bare, J.base, J.hok, rv, q⟩
/-! a cell, lent -/
def del (H : Hp) (c : Addr) : Hp := fun b => if b = c then none else H b
theorem del_at {H : Hp} {c : Addr} : del H c c = none := if_pos rfl
theorem del_ne {H : Hp} {b c : Addr} (h : b ≠ c) : del H c b = H b := if_neg h
/-- the cell's object o is known -/
abbrev CellF (o : Obj) : HO := .frz o (.own 0)
theorem hok_del {H : Hp} {h : Heap} {c : Addr} {o : Obj} (hok : HOk P w H h) (hc : H c = some (CellF o)) : HOk P w (del H c) h := fun b u e => by
  have ne : b ≠ c := fun z => by rw [z, del_at] at e; cases e
  rw [del_ne ne] at e
  exact (hok b u e).stay (fun _ _ _ q => q) (fun d q => by rw [del_ne (ne_of q hc fun z => by cases z)]; exact q) fun d xs q => by rw [del_ne (ne_of q hc fun z => by cases z)]; exact q
theorem hok_put {H : Hp} {h : Heap} {c : Addr} {o : Obj} (hok : HOk P w H h) (hc : H c = none) (ho : h.get? c = some o) : HOk P w (upd H c (CellF o)) h := fun b u e => by
  by_cases z : b = c
  · rw [z, upd_same] at e
    cases Option.some.inj e
    rw [z]
    exact ⟨ho, o, ho⟩
  · rw [upd_ne z] at e
    exact (hok b u e).stay (fun _ _ _ q => q) (fun d q => by rw [upd_ne (ne_of_none q hc)]; exact q) fun d xs q => by rw [upd_ne (ne_of_none q hc)]; exact q
/-- taken back for a call, lent again behind it -/
theorem lent_call {A : Around} {outer : List Env} {s : Shared} {H : Hp} {c : Addr} {o : Obj} {Q : VK} {call : Code} (e0 : Env0 P w K mg base A outer s H) (hc : H c = some (CellF o))
    (run : Env0 P w K mg base A outer s (del H c) → codeAny (model P w) A call (CR CX0 outer P w (del H c) s (fun v H' => Q v (upd H' c (CellF o))) E0) s) : codeAny (model P w) A call (CR CX0 outer P w H s Q E0) s := by
  have ho := (e0.hok c _ hc).1
  have nf : c ∉ frs outer := fun z => by rw [e0.frf c z] at hc; cases hc
  have low : ∀ {b}, H b = none → del H c b = none := fun {b} e => by
    by_cases z : b = c
    · rw [z]; exact del_at
    · rw [del_ne z]; exact e
  refine codeAny_mono (run ⟨e0.frames, e0.mod, fun b x e => ⟨(e0.bs b x e).1, low (e0.bs b x e).2⟩, e0.bsz, e0.funs, fun b z => low (e0.frf b z), hok_del e0.hok hc, e0.bare⟩) fun r s' hq => ?_
  cases r with
  | error e => exact hq
  | ok fl =>
    cases fl with
    | next => exact hq
    | brk => exact hq
    | cont => exact hq
    | ret u =>
      obtain ⟨v, H', os, bare, un, hok, rv, q⟩ := hq
      have back : H' c = none := un.free c o ho del_at (by simp)
      have stays : s'.heap.get? c = some o := un.keep c o ho del_at nf (by simp)
      have hi : ∀ {b x}, H b = some x → b ≠ c → del H c b = some x := fun {b x} e z => by rw [del_ne z]; exact e
      have out : ∀ {b x}, H' b = some x → upd H' c (CellF o) b = some x := fun {b x} e => by rw [upd_ne (ne_of_none e back)]; exact e
      have nn : ∀ {b}, H b = none → b ≠ c := fun {b} e z => by rw [z, hc] at e; cases e
      refine ⟨v, upd H' c (CellF o), os, bare, ⟨fun b x e n => un.keep b x e (low n), fun b x e n => un.slot b x e (low n), fun b x e n hx => by rw [upd_ne (nn n)]; exact un.free b x e (low n) hx, un.there, fun b xs e => ?_, fun b x y e => ?_, fun b ps e => ?_⟩, hok_put hok back stays, rv, q⟩
      · exact out (un.tups b xs (hi e (ne_of e hc fun z => by cases z)))
      · by_cases z : b = c
        · rw [z, hc] at e
          rw [z, upd_same]
          exact e
        · exact out (un.frzs b x y (hi e z))
      · obtain ⟨more, m⟩ := un.tbls b ps (hi e (ne_of e hc fun z => by cases z))
        exact ⟨more, out m⟩
/-- lent for a call, taken back behind it -/
theorem lend_call {A : Around} {outer : List Env} {s : Shared} {H : Hp} {c : Addr} {o : Obj} {Q : VK} {call : Code} (e0 : Env0 P w K mg base A outer s H) (hc : H c = none) (ho : s.heap.get? c = some o) (nf : c ∉ frs outer) (nb : base.get? c = none)
    (run : Env0 P w K mg base A outer s (upd H c (CellF o)) → codeAny (model P w) A call (CR CX0 outer P w (upd H c (CellF o)) s (fun v H' => Q v (del H' c)) E0) s) : codeAny (model P w) A call (CR CX0 outer P w H s Q E0) s := by
  refine codeAny_mono (run ⟨e0.frames, e0.mod, fun b x e => ⟨(e0.bs b x e).1, by rw [upd_ne fun z => by rw [z, nb] at e; cases e]; exact (e0.bs b x e).2⟩, e0.bsz, e0.funs, fun b z => by rw [upd_ne (show b ≠ c from fun y => nf (y ▸ z))]; exact e0.frf b z, hok_put e0.hok hc ho, e0.bare⟩) fun r s' hq => ?_
  cases r with
  | error e => exact hq
  | ok fl =>
    cases fl with
    | next => exact hq
    | brk => exact hq
    | cont => exact hq
    | ret u =>
      obtain ⟨v, H', os, bare, un, hok, rv, q⟩ := hq
      have back : H' c = some (CellF o) := un.frzs c o _ upd_same
      have stays : s'.heap.get? c = some o := (hok c _ back).1
      have up : ∀ {b x}, H b = some x → upd H c (CellF o) b = some x := fun {b x} e => by rw [upd_ne (ne_of_none e hc)]; exact e
      have upN : ∀ {b}, H b = none → b ≠ c → upd H c (CellF o) b = none := fun {b} e z => by rw [upd_ne z]; exact e
      have same : ∀ {b x}, s.heap.get? b = some x → b = c → s'.heap.get? b = some x := fun {b x} e z => by
        rw [z] at e ⊢
        rw [ho] at e
        rw [stays, e]
      refine ⟨v, del H' c, os, bare, ⟨fun b x e n f1 f2 => ?_, fun b x e n f1 f2 => ?_, fun b x e n f2 => ?_, un.there, fun b xs e => ?_, fun b x y e => ?_, fun b ps e => ?_⟩, hok_del hok back, rv, q⟩
      · by_cases z : b = c
        · exact same e z
        · exact un.keep b x e (upN n z) f1 f2
      · by_cases z : b = c
        · exact ⟨x.slots, same e z⟩
        · exact un.slot b x e (upN n z) f1 f2
      · by_cases z : b = c
        · rw [z]; exact del_at
        · rw [del_ne z]; exact un.free b x e (upN n z) f2
      · rw [del_ne (ne_of_none e hc)]; exact un.tups b xs (up e)
      · rw [del_ne (ne_of_none e hc)]; exact un.frzs b x y (up e)
      · obtain ⟨more, m⟩ := un.tbls b ps (up e)
        exact ⟨more, by rw [del_ne (ne_of_none e hc)]; exact m⟩
end
end Moot
/-! A lambda without parameters, called inside a try: it may raise; its cells are lent. -/
namespace Moot
open PySem PySem.Spec PyProof.Rows L2 LamX NdefX
/-- what a call of the value f gives, or lets out -/
structure VOkX (P : Program) (w : World) (K : PySem.W.Frag) (mg : Str → Option Value) (base : Heap) (k : Nat) (f : Addr) (sp : Sp) : Prop where
  run : ∀ (A : Around) (outer : List Env) (s : Shared) (H : Hp) (us : List Value) (vs : List V) (Q : VK) (E : XK), Room k A → Env0 P w K mg base A outer s H → Vals vs us → sp vs H Q E → codeAny (model P w) A (.call (.ref f) ⟨us, []⟩) (CR (L2.CX P w) outer P w H s Q E) s
def tCallV0 (i : Nat) (sp : Addr → Sp) (E : L2.St → XK) : TE := fun σ H Q => ∃ f : Addr, σ[i]? = some (some (.ref f)) ∧ VAt H f ∧ sp f [] H Q (E σ)
/-- f(), f a local that holds a lambda -/
theorem pe_callV0 {X : Cx} {k i : Nat} {x : Str} {sp : Addr → Sp} {E : L2.St → XK} {p pos : Pos} (V : ∀ f, VOkX X.prog X.w X.K X.mg X.base k f (sp f)) (hr : Room k X.A) (hN : X.N[i]? = some x) (hv : Vis X.env.scope x) (hx : ∀ σ, PassesAt (L2.CX X.prog X.w) X σ (E σ))
    (hd : (x == ("__debug__" : Str)) = false := by decide) (hcd : (x == ("__classdict__" : Str)) = false := by decide) : PE X (.Call (.Name x p) [] [] pos) (tCallV0 i sp E) := by
  refine ⟨fun pins s σ H Q I h => ?_⟩
  obtain ⟨f, hs, hf, q⟩ := h
  refine wpAny_Call_Name_kw (thn ((pe_var (pos := p) hN hv hd hcd).run pins s σ H (fun v H1 => v = .ref f ∧ H1 = H) I ⟨.ref f, hs, rfl, rfl⟩) fun u s1 ⟨v, H1, I1, r1, q1⟩ => ?_)
  obtain ⟨ev, eH⟩ := q1
  subst ev
  rw [eH] at I1
  obtain rfl : u = Value.ref f := r1
  refine PySem.W.callWith_F0 (first := []) (hf.fn I1.hok) ?_
  refine wpAny_call (codeAny_mono ((V f).run X.A X.stack s1 H [] [] Q (E σ) hr I1.env0 .nil q) fun r s' hq => ?_)
  cases r with
  | error e => exact hx σ pins H s1 e s' I1 hq
  | ok fl =>
    cases fl with
    | ret u => exact I1.after hq
    | next => exact hq.elim
    | brk => exact hq.elim
    | cont => exact hq.elim
section
variable {P : Program} {w : World} {K : PySem.W.Frag} {mg : Str → Option Value} {base : Heap}
/-- a lambda's call by its body, which may raise -/
theorem lam_runX {N fr : List Str} {q : Str} {params : Arguments} {body : Expr} {scope : Scope} {cl : List (Str × Addr)} {f c' : Addr} {k : Nat} (S : NScope N [] fr scope) {A : Around} {outer : List Env} {s : Shared} {H : Hp} {ws : List (Option V)} {Q : VK} {E : XK}
    (hb : ∀ pm ctv : Value, bindArgs (PySem.W.kla_fn "<lambda>" q params body scope cl pm (.ref c') ctv) ⟨[], []⟩ = pure []) (room : Room (k + 1) A) (e0 : Env0 P w K mg base A outer s H) (hf : H f = some (LamO f q params body scope cl c')) (hc : H c' = some (CodeO c' q))
    (C : CellsAt cl fr ws s.heap H)
    (run : Room k (A.deeper (envF ⟨"<lambda>", q, params, [], scope, cl, c'⟩ f s.heap.objs.size)) → ∃ tb, PE (ncx (L2.CX P w) P w K mg base N ⟨"<lambda>", q, params, [], scope, cl, c'⟩ f A outer s H E) body tb ∧ tb (startF N [] ws) H Q) :
    codeAny (model P w) A (.call (.ref f) ⟨[], []⟩) (CR (L2.CX P w) outer P w H s Q E) s := by
  have free : s.heap.NoLimit := e0.mod.nolimit.keeps fun b o e => (e0.bs b o e).1
  obtain ⟨⟨pm, ctv, at_f⟩, _⟩ := e0.hok f _ hf
  refine PySem.W.kla_callFunE room.depth at_f rfl S.co S.gen rfl (codeO_at e0.hok hc) ?_
  rw [hb pm ctv]
  refine wpAny_pure (wpAny_newFunctionEnv S.nocell (fun y my => by cases my) (fun hn names ext => ⟨free.fresh _ ext, ?_⟩) S.kind)
  show codeAny _ _ (.expr body (envF ⟨"<lambda>", q, params, [], scope, cl, c'⟩ f s.heap.objs.size)) _ _
  have old : ∀ b o, s.heap.get? b = some o → hn.get? b = some o := fun b o e => ext.extBut b o (Nat.ne_of_lt (Heap.lt_size e)) (Heap.get?_push_of_some _ e)
  obtain ⟨tb, walk, want⟩ := run (room.deeper _)
  have J : Inv (ncx (L2.CX P w) P w K mg base N ⟨"<lambda>", q, params, [], scope, cl, c'⟩ f A outer s H E) [] (startF N [] ws) H { s with heap := hn, toks := s.toks + ([] : List (Str × Value)).length } := inv_startN (ps := []) (us := []) (vs := []) (F := ⟨"<lambda>", q, params, [], scope, cl, c'⟩) S room.hd e0 rfl .nil C names old
  refine PySem.W.kla_codeExpr (wpAny_mono (walk.run [] _ _ H Q J want) (fun v s' got => ?_) fun e s' got => got)
  obtain ⟨v', H', J', rv, q'⟩ := got
  exact ⟨v', H', J'.os, J'.bare, J'.base, J'.hok, rv, q'⟩
/-- taken back for a call that may raise, lent again behind it -/
theorem lent_callX {A : Around} {outer : List Env} {s : Shared} {H : Hp} {c : Addr} {o : Obj} {Q : VK} {E : XK} {call : Code} (e0 : Env0 P w K mg base A outer s H) (hc : H c = some (CellF o))
    (run : Env0 P w K mg base A outer s (del H c) → codeAny (model P w) A call (CR (L2.CX P w) outer P w (del H c) s (fun v H' => Q v (upd H' c (CellF o))) (fun cls d H' => E cls d (upd H' c (CellF o)))) s) : codeAny (model P w) A call (CR (L2.CX P w) outer P w H s Q E) s := by
  have at_c := (e0.hok c _ hc).1
  have off : c ∉ frs outer := fun z => by rw [e0.frf c z] at hc; cases hc
  have less : ∀ {b}, H b = none → del H c b = none := fun {b} e => by
    by_cases z : b = c
    · rw [z]; exact del_at
    · rw [del_ne z]; exact e
  have more : ∀ {b x}, H b = some x → b ≠ c → del H c b = some x := fun {b x} e z => by rw [del_ne z]; exact e
  have other : ∀ {b}, H b = none → b ≠ c := fun {b} e z => by rw [z, hc] at e; cases e
  refine codeAny_mono (run ⟨e0.frames, e0.mod, fun b x e => ⟨(e0.bs b x e).1, less (e0.bs b x e).2⟩, e0.bsz, e0.funs, fun b z => less (e0.frf b z), hok_del e0.hok hc, e0.bare⟩) fun r s' got => ?_
  cases r with
  | error e =>
    obtain ⟨a, B, H', cls, d, ea, fly, hok, ub, na, os, bare, want⟩ := got
    have gone : H' c = none := ub.free c o at_c del_at
    have kept : B.get? c = some o := ub.keep c o at_c del_at off
    have out : ∀ {b x}, H' b = some x → upd H' c (CellF o) b = some x := fun {b x} e => by rw [upd_ne (ne_of_none e gone)]; exact e
    have ac : a ≠ c := fun z => by
      have n := fly.2.1
      rw [z, kept] at n
      cases n
    refine ⟨a, B, _, cls, d, ea, fly, hok_put hok gone kept, ⟨fun b x e n => ub.keep b x e (less n), ub.slot, fun b x e n => by rw [upd_ne (other n)]; exact ub.free b x e (less n), ub.there, fun b xs e => ?_, fun b x y e => ?_, fun b ps e => ?_⟩, by rw [upd_ne ac]; exact na, os, bare, want⟩
    · exact out (ub.tups b xs (more e (ne_of e hc fun z => by cases z)))
    · by_cases z : b = c
      · rw [z, hc] at e
        rw [z, upd_same]
        exact e
      · exact out (ub.frzs b x y (more e z))
    · obtain ⟨rest, m⟩ := ub.tbls b ps (more e (ne_of e hc fun z => by cases z))
      exact ⟨rest, out m⟩
  | ok fl =>
    cases fl with
    | next => exact got
    | brk => exact got
    | cont => exact got
    | ret u =>
      obtain ⟨v, H', os, bare, un, hok, rv, want⟩ := got
      have gone : H' c = none := un.free c o at_c del_at (by simp)
      have kept : s'.heap.get? c = some o := un.keep c o at_c del_at off (by simp)
      have out : ∀ {b x}, H' b = some x → upd H' c (CellF o) b = some x := fun {b x} e => by rw [upd_ne (ne_of_none e gone)]; exact e
      refine ⟨v, _, os, bare, ⟨fun b x e n => un.keep b x e (less n), fun b x e n => un.slot b x e (less n), fun b x e n hx => by rw [upd_ne (other n)]; exact un.free b x e (less n) hx, un.there, fun b xs e => ?_, fun b x y e => ?_, fun b ps e => ?_⟩, hok_put hok gone kept, rv, want⟩
      · exact out (un.tups b xs (more e (ne_of e hc fun z => by cases z)))
      · by_cases z : b = c
        · rw [z, hc] at e
          rw [z, upd_same]
          exact e
        · exact out (un.frzs b x y (more e z))
      · obtain ⟨rest, m⟩ := un.tbls b ps (more e (ne_of e hc fun z => by cases z))
        exact ⟨rest, out m⟩
end
end Moot
/-! A network of rows of any kind is made, or refused. -/
namespace Moot
open PySem PySem.Spec PyProof.Rows L2
/-! C(e), behind it what the slots let out -/
section
variable {X : Cx} {k : Nat} {f C : Addr} {fd : FuncData} {ps : List Str} {sp : Sp} {E : L2.St → XK} {x : Str} {p pos : Pos} {e : Expr} {es : List Expr} {t : TA}
def tMadeS (C : Addr) (sp : Sp) (E : L2.St → XK) (t : TA) : TE := fun σ H Q => t σ H fun vs H1 => ∀ a d, H1 a = none → H1 d = none → d ≠ a → sp (.ref a :: vs) (upd (upd H1 d (.own a)) a (.ins C d [])) (fun v H2 => v = .non ∧ Q (.ref a) H2) (E σ)
theorem pe_makeS (M : Mk X.K C f) (F : FnOk X.prog X.w X.K X.mg X.base (L2.CX X.prog X.w) k f fd ps sp) (hr : Room (k + 1) X.A) (hg : Gl X x) (hm : X.mg x = some (.ref C)) (hb : Binds X.K fd ps []) (hx : ∀ σ, PassesAt (L2.CX X.prog X.w) X σ (E σ))
    (ha : PA X (e :: es) t) (hdb : (x == ("__debug__" : Str)) = false := by decide) (he : starEach (e :: es) X.env = (false, eval e X.env) :: starEach es X.env := by rfl) (hpl : (backTo pos (starEach es X.env)).any (·.1) = false := by rfl) :
    PE X (.Call (.Name x p) (e :: es) [] pos) (tMadeS C sp E t) := by
  refine ⟨fun pins s σ H Q I h => wpAny_Call_Name_kw (ld_glob I hg hm ?_ hdb)⟩
  refine PySem.W.callWith_K (h₀ := X.base) I.ok.mod.kin M.kp (thn (ha.run pos pins s σ H _ I h) fun us t1 ⟨vs, H1, I1, r, q⟩ => ⟨I1.kIn, ?_⟩) he hpl
  generalize hz : t1.heap.objs.size = z at q
  have g := q (z + 1) z (I1.hok.fresh (by omega)) (I1.hok.fresh (by omega)) (Nat.ne_of_lt (Nat.lt_succ_self z))
  have J := Inv.made (C := C) I1
  rw [hz] at J
  have rr : Vals (V.ref (z + 1) :: vs) (Value.ref (z + 1) :: us) := .cons rfl r
  have ll : (Value.ref (z + 1) :: us).length = ps.length := rr.length.symm.trans (F.len _ _ _ _ g)
  have bb := hb _ (Value.ref (z + 1) :: us) J.kIn (by rw [List.append_nil]; exact ll)
  rw [List.append_nil] at bb
  have run := F.run _ X.stack _ _ ⟨Value.ref (z + 1) :: us, []⟩ _ _ _ (E σ) (hr.make C us []) (J.env0.make C us []) bb rr g
  subst hz
  refine wpAny_call (make_map (f := f) I1.kIn M.makes M.init (beq_iff_eq.mp M.fn) (codeAny_mono run fun o t2 w2 => ?_))
  rcases o with err | fl
  · exact hx σ pins _ _ err t2 J w2
  · cases fl with
    | ret u =>
      obtain ⟨v, H', I3, rv, ev, q3⟩ := J.after w2
      cases ev
      exact ⟨rv, ⟨V.ref (t1.heap.objs.size + 1), H', I3, rfl, q3⟩⟩
    | next => exact w2.elim
    | brk => exact w2.elim
    | cont => exact w2.elim
end
/-! what is due -/
def DueR (ks : List Rk) (du : Option Du) : Prop := (∃ u, due1 [] ks = some u ∧ du = some u) ∨ (due1 [] ks = none ∧ ∃ o, Unk ((rsOf ks).map (·.1)) ks o ∧ du = o.map Du.unk)
theorem due1_none : ∀ {ks : List Rk} {seen : List Str}, due1 seen ks = none → (∀ q ∈ ks, ∃ x r c ps, q = .ok x r c ps) ∧ ((rsOf ks).map (·.1)).Nodup ∧ ∀ x ∈ (rsOf ks).map (·.1), x ∉ seen
  | [], _, _ => ⟨fun q m => (by cases m), List.nodup_nil, fun x m => (by cases m)⟩
  | .badn _ _ _ :: _, _, h => by cases h
  | .badr _ _ _ :: _, _, h => by cases h
  | .ok x r c ps :: ks, seen, h => by
    have h : (if x ∈ seen then some (Du.twice x) else due1 (seen ++ [x]) ks) = none := h
    by_cases m : x ∈ seen
    · rw [if_pos m] at h
      cases h
    · rw [if_neg m] at h
      obtain ⟨h1, h2, h3⟩ := due1_none h
      refine ⟨fun q mq => ?_, ?_, fun y my => ?_⟩
      · rcases List.mem_cons.mp mq with rfl | mq
        · exact ⟨_, _, _, _, rfl⟩
        · exact h1 q mq
      · show (x :: (rsOf ks).map (·.1)).Nodup
        exact List.nodup_cons.mpr ⟨fun mx => h3 x mx (List.mem_append_right _ List.mem_cons_self), h2⟩
      · have my : y ∈ x :: (rsOf ks).map (·.1) := my
        rcases List.mem_cons.mp my with rfl | my
        · exact m
        · exact fun z => h3 y my (List.mem_append_left _ z)
theorem RowsK.all {b g : Addr} {H : Hp} {ts : List Addr} {ks : List Rk} (h : RowsK b g H ts ks) : ∀ q ∈ ks, RkOk b g H q := fun q m => by
  obtain ⟨i, hi⟩ := List.getElem?_of_mem m
  have lt := (List.getElem?_eq_some_iff.mp hi).1
  rw [← h.1] at lt
  obtain ⟨q', e, _, r⟩ := h.2 i _ (List.getElem?_eq_getElem lt)
  rw [hi] at e
  cases e
  exact r
theorem RowsK.inorder {b g : Addr} {H : Hp} {ts : List Addr} {ks : List Rk} (h : RowsK b g H ts ks) (d : due1 [] ks = none) : AllR H ks := fun q m => by
  obtain ⟨x, r, c, ps, rfl⟩ := (due1_none d).1 q m
  exact ⟨x, r, c, ps, rfl, h.all _ m⟩
section
variable {P : Program} {w : World} {K : PySem.W.Frag} {mg : Str → Option Value} {base : Heap}
/-! Network(rows) -/
def spNiX (K : PySem.W.Frag) (C : Addr) (F : Fo) : Sp := fun vs H Q E => ∃ (b g net dx l : Addr) (ts : List Addr) (ks : List Rk) (du : Option Du), vs = [.ref net, .ref l] ∧ H net = some (.ins C dx []) ∧ (SqL K H l (ts.map V.ref) ∨ SqT K H l (ts.map V.ref)) ∧ RowsK b g H ts ks ∧ ks.length ≤ 8 ∧ DueR ks du ∧
  (∀ u, du = some u → DuE F H E u) ∧ (du = none → ∀ H', But net H H' → Q .non H')
theorem ok_netinitX {Fc : Fo} {f C f1 f2 e : Addr} {fd fd1 fd2 : FuncData} {k : Nat} (F : FunD K "__init__" "Network.__init__" (defArgs sNi) (defBody sNi) (defScope sNi) [.ref e] [] f fd) (T : Bq mg) (X : Txt K mg C)
    (F1 : Fun K "requirements_by_name" "requirements_by_name" sRb f1 fd1) (b1 : Binds K fd1 ["rows"] []) (g1 : mg "requirements_by_name" = some (.ref f1)) (G1 : FnOk P w K mg base (L2.CX P w) k f1 fd1 ["rows"] (spRbX K Fc))
    (F2 : Fun K "check_names_used" "check_names_used" sCu f2 fd2) (b2 : Binds K fd2 ["requirements"] []) (g2 : mg "check_names_used" = some (.ref f2)) (G2 : FnOk P w K mg base (L2.CX P w) k f2 fd2 ["requirements"] (spCuX Fc)) :
    FnOk P w K mg base (L2.CX P w) (k + 1) f fd ["self", "rows"] (spNiX K C Fc) := by
  refine F.ok scNi (fun vs H Q E h => ?_) (fun cdv A outer s H vs Q E hr h => ?_)
  · obtain ⟨b, g, net, dx, l, ts, ks, du, rfl, _⟩ := h
    rfl
  · obtain ⟨b, g, net, dx, l, ts, ks, du, rfl, hn, hl, ra, few, dr, qx, q⟩ := h
    have hu := hu_of hr
    refine ⟨_, pss_cons (ps_set (i := 2) scNi.nd rfl (Or.inr rfl) (pe_call (E := E) G1 hr (by rfl) g1 F1.kp b1 .nil (passes_call (takes_of rfl rfl rfl rfl) fun _ _ _ _ h => h) (pa_cons (pv 1) pa_nil)))
      (pss_cons (ps_expr (pe_call (E := E) G2 hr (by rfl) g2 F2.kp b2 .nil (passes_call (takes_of rfl rfl rfl rfl) fun _ _ _ _ h => h) (pa_cons (pv 2) pa_nil)))
      (pss_one (ps_fld (pv 0) (pe_dc (own := [("name", 3)]) (g := gName 3) (tt := tYes) (by rfl) scNi.nd (pi_list (pe_callB (call_sortedD rfl) (by rfl) T.T.srt (by decide +kernel) (pa_cons (pv 2) pa_nil))) (blkOk_by (N := nNi) (sc := defScope sNi) (by decide +kernel))
        (fun _ _ _ _ _ => pg_name (i := 3) scNi.nd rfl (Or.inl rfl)) (fun _ _ _ _ _ => pts_nil) (fun _ _ _ _ _ => pv 3) (fun _ _ _ _ _ => pe_dget hu (pv 2) (pv 3) (fun _ _ => rfl))) rfl))), ?_⟩
    refine ⟨.ref l, rfl, b, g, l, ts, ks, rfl, hl, ra, by omega, ?_⟩
    rcases dr with ⟨u, h1, rfl⟩ | ⟨h1, o, un, rfl⟩
    · exact .inl ⟨u, h1, qx u rfl⟩
    refine .inr ⟨h1, fun D H1 s1 nD hD => ?_⟩
    have al := ra.inorder h1
    have nd1 := (due1_none h1).2.1
    have flen := rsOf_lenE al
    refine ⟨.ref D, rfl, D, ks, o, rfl, hD, (fun q m => let ⟨x, r, c, ps, e, n, R, v⟩ := al q m; ⟨x, r, c, ps, e, n, R.tups (Same.tups s1), v⟩), nd1, un, fun u eu d H2 bt nd2 hd2 => ?_, fun eo H2 s2 => ?_⟩
    · subst eu
      exact qx (.unk u) rfl d H2 (fun a ob e => bt a ob (s1 a ob e) (ne_of_none e nD)) (s1.free nd2) hd2
    subst eo
    have hD2 := s2 _ _ hD
    refine ⟨.ref D, rfl, D, _, (rsOf ks).map (·.1), rfl, .inl hD2, by unfold kvs; rw [List.map_map, List.map_map]; rfl, by rw [List.length_map]; omega, fun ys p pm srt np => ?_⟩
    have s3 := same_new (o := .lst (ys.map V.str)) np
    have hp : (upd H2 p (.lst (ys.map V.str))) p = some (.lst (ys.map V.str)) := upd_same
    generalize upd H2 p (.lst (ys.map V.str)) = H3 at s3 hp ⊢
    obtain ⟨rs', e1, e2⟩ := pairs_of (rs := rsOf ks) ys fun y my => pm.mem_iff.mp my
    have nd2 : ys.Nodup := pm.nodup_iff.mpr nd1
    have l2 : rs'.length = ys.length := by rw [← e1, List.length_map]
    refine ⟨p, rfl, ⟨_, SqL.of hp⟩, fun D2 nD2 => ?_⟩
    refine dc_it (walk_list (K := K) (a := p) (xs := ys.map V.str)) (fun i H4 => Same H3 H4 ∧ H4 D2 = some (.dK (kvs (rs'.take i)))) ⟨same_new nD2, upd_same⟩ (fun i H4 _ h => SqL.of (h.1 _ _ hp)) ?_ ?_
    · rintro i x H4 H4' hi ⟨s4, hD4⟩ ⟨rfl, hx⟩
      rw [List.getElem?_map] at hx
      obtain ⟨y, hy, rfl⟩ := Option.map_eq_some_iff.mp hx
      obtain ⟨r, hr'⟩ : ∃ r, rs'[i]? = some (y, r) := by
        rw [← e1, List.getElem?_map] at hy
        obtain ⟨⟨y', r⟩, h1, h2⟩ := Option.map_eq_some_iff.mp hy
        cases h2
        exact ⟨r, h1⟩
      have val := (e2 _ (List.mem_of_getElem? hr')).2
      have tk : rs'.take (i + 1) = rs'.take i ++ [(y, r)] := by
        rw [List.take_add_one, hr']
        rfl
      have new : y ∉ (rs'.take i).map (·.1) := by
        intro m
        have e : rs'.map (·.1) = (rs'.take i).map (·.1) ++ (rs'.drop i).map (·.1) := by rw [← List.map_append, List.take_append_drop]
        rw [← e1, e] at nd2
        refine (List.nodup_append.mp nd2).2.2 y m y ?_ rfl
        exact List.mem_map.mpr ⟨(y, r), List.mem_of_getElem? (i := 0) (by rw [List.getElem?_drop]; exact hr'), rfl⟩
      have hDD := s4 _ _ (s3 _ _ hD2)
      refine ⟨rfl, .str y, rfl, .ref D, rfl, .str y, rfl, D, _, rfl, .inl ⟨_, Sum.inr y, .inl hDD, rfl, val.symm⟩, _, Sum.inr y, rfl, hD4, ?_, fun b o eb => ?_, ?_⟩
      · rw [kvs_len, List.length_take]
        have := pm.length_eq
        rw [List.length_map] at this
        exact small1000 (by omega)
      · rw [upd_ne (ne_of_none eb nD2)]
        exact s4 b o eb
      · rw [upd_same, putK_new _ (val_out new), tk]
        show some (HO.dK (kvs (rs'.take i) ++ _)) = some (HO.dK ((rs'.take i ++ [(y, r)]).map _))
        rw [List.map_append]
        rfl
    · rintro H4 ⟨s4, hD4⟩
      have s04 : Same H H4 := ((s1.trans s2).trans s3).trans s4
      refine ⟨.ref net, rfl, net, C, dx, [], rfl, s04 _ _ hn, X.cl, X.nR, by show 0 < 1000; decide, ?_⟩
      refine q rfl _ fun b o eb nb => ?_
      rw [upd_ne nb]
      exact s04 b o eb
end
end Moot
/-! _law_made: which of the four. -/
namespace Moot
open PySem PySem.Spec PyProof.Rows L2
/-- the word and the value of the field -/
def Du.word : Du → Str
  | .name _ => "name"
  | .twice _ => "twice"
  | .req _ => "requirement"
  | .unk _ => "unknown"
def Du.val : Du → V
  | .name v => v
  | .twice x => .str x
  | .req x => .str x
  | .unk x => .str x
/-- what is known of the four errors of this law -/
structure FourC (K : PySem.W.Frag) (mg : Str → Option Value) (F : Fo) (CM fN fD fR fU : Addr) : Prop where
  N : ExcT K mg "InvalidName" F.N fN
  D : ExcT K mg "DuplicateNode" F.D fD
  R : ExcT K mg "InvalidRequirement" F.R fR
  U : ExcT K mg "UnknownNode" F.U fU
  gM : mg "MootError" = some (.ref CM)
  nN : PySem.W.findIn K (.ref F.N) "value" = some none
  nD : PySem.W.findIn K (.ref F.D) "name" = some none
  nR : PySem.W.findIn K (.ref F.R) "name" = some none
  nU : PySem.W.findIn K (.ref F.U) "name" = some none
  eNN : PySem.W.exmOne K (.ref F.N) (.ref F.N) = some true
  eDN : PySem.W.exmOne K (.ref F.D) (.ref F.N) = some false
  eDD : PySem.W.exmOne K (.ref F.D) (.ref F.D) = some true
  eRN : PySem.W.exmOne K (.ref F.R) (.ref F.N) = some false
  eRD : PySem.W.exmOne K (.ref F.R) (.ref F.D) = some false
  eRR : PySem.W.exmOne K (.ref F.R) (.ref F.R) = some true
  eUN : PySem.W.exmOne K (.ref F.U) (.ref F.N) = some false
  eUD : PySem.W.exmOne K (.ref F.U) (.ref F.D) = some false
  eUR : PySem.W.exmOne K (.ref F.U) (.ref F.R) = some false
  eUU : PySem.W.exmOne K (.ref F.U) (.ref F.U) = some true
section
variable {P : Program} {w : World} {K : PySem.W.Frag} {mg : Str → Option Value} {base : Heap}
abbrev sMa : Stmt := top 44
abbrev nMa : List Str := ["_law_rows_here", "_law_found", "e"]
theorem scMa : FnScope nMa ["_law_rows_here"] (defScope sMa) := ⟨rfl, rfl, rfl, by decide +kernel, rfl, by decide +kernel, by decide +kernel⟩
/-- the same of a due one, or nothing -/
def DuV (du : Option Du) (Q : VK) (H : Hp) : Prop := (du = none → ∀ H', Same H H' → Q .non H') ∧ ∀ u, du = some u → ∀ (p : Addr) (H' : Hp), Same H H' → H' p = some (.tup [.str u.word, u.val]) → Q (.ref p) H'
def spMa (K : PySem.W.Frag) : Sp := fun vs H Q _ => ∃ (b g l : Addr) (ts : List Addr) (ks : List Rk) (du : Option Du), vs = [.ref l] ∧ (SqL K H l (ts.map V.ref) ∨ SqT K H l (ts.map V.ref)) ∧ RowsK b g H ts ks ∧ ks.length ≤ 8 ∧ DueR ks du ∧ DuV du Q H
theorem ok_made {Fc : Fo} {f f5 C CM fN fD fR fU : Addr} {fd fd5 : FuncData} {k : Nat} (F : Fun K "_law_made" "_law_made" sMa f fd) (T : Bq mg) (X : Txt K mg C) (W4 : FourC K mg Fc CM fN fD fR fU)
    (M5 : Mk K C f5) (b5 : Binds K fd5 ["self", "rows"] []) (G5 : FnOk P w K mg base (L2.CX P w) k f5 fd5 ["self", "rows"] (spNiX K C Fc)) : FnOk P w K mg base CX0 (k + 1 + 1) f fd ["_law_rows_here"] (spMa K) := by
  refine F.ok scMa (fun vs H Q E h => ?_) (fun cdv A outer s H vs Q E hr h => ?_)
  · obtain ⟨b, g, l, ts, ks, du, rfl, _⟩ := h
    rfl
  · obtain ⟨b, g, l, ts, ks, du, rfl, hl, ra, few, dr, qn, qs⟩ := h
    refine ⟨_, pss_cons (ps_set (i := 1) scMa.nd rfl (Or.inl rfl) pe_non)
      (pss_cons (ps_tryCl rfl rfl scMa.nd takes0
        (fun W pn xe tk _ => pss_one (ps_expr (pe_makeS M5 G5 hr (by rfl) X.mgC b5 (fun σ => passAt tk σ) (pa_cons (pv 0) pa_nil))))
        (ClOk.cons (i := some 2) ⟨by rfl, by decide, .inl W4.N.gC⟩ (.some rfl rfl) (fun a oe cls d pn hz hf => pss_one (ps_set (i := 1) scMa.nd rfl (Or.inl rfl) (pe_tup (pa_cons pe_str (pa_cons (pe_xf W4.N.xf W4.nN hz hf (pv 2)) pa_nil)))))
        (ClOk.cons (i := some 2) ⟨by rfl, by decide, .inl W4.D.gC⟩ (.some rfl rfl) (fun a oe cls d pn hz hf => pss_one (ps_set (i := 1) scMa.nd rfl (Or.inl rfl) (pe_tup (pa_cons pe_str (pa_cons (pe_xf W4.D.xf W4.nD hz hf (pv 2)) pa_nil)))))
        (ClOk.cons (i := some 2) ⟨by rfl, by decide, .inl W4.R.gC⟩ (.some rfl rfl) (fun a oe cls d pn hz hf => pss_one (ps_set (i := 1) scMa.nd rfl (Or.inl rfl) (pe_tup (pa_cons pe_str (pa_cons (pe_xf W4.R.xf W4.nR hz hf (pv 2)) pa_nil)))))
        (ClOk.cons (i := some 2) ⟨by rfl, by decide, .inl W4.U.gC⟩ (.some rfl rfl) (fun a oe cls d pn hz hf => pss_one (ps_set (i := 1) scMa.nd rfl (Or.inl rfl) (pe_tup (pa_cons pe_str (pa_cons (pe_xf W4.U.xf W4.nU hz hf (pv 2)) pa_nil)))))
        (ClOk.cons (i := none) ⟨by rfl, by decide, .inl W4.gM⟩ .none (fun a oe cls d pn hz hf => pss_one (ps_set (i := 1) scMa.nd rfl (Or.inl rfl) (pe_tup (pa_cons pe_str (pa_cons pe_non pa_nil)))))
        .nil))))))
      (pss_one (ps_ret (pv 1)))), ?_⟩
    refine ⟨.ref l, rfl, fun net dn nN nD ne => ?_⟩
    have sM : Same H (upd (upd H dn (.own net)) net (.ins C dn [])) := fun c o e => by
      rw [upd_ne (ne_of_none e nN), upd_ne (ne_of_none e nD)]
      exact e
    have hM : (upd (upd H dn (.own net)) net (.ins C dn [])) net = some (.ins C dn []) := upd_same
    generalize upd (upd H dn (.own net)) net (.ins C dn []) = H1 at sM hM ⊢
    refine ⟨b, g, net, dn, l, ts, ks, du, rfl, hM, hl.imp (fun h => Same.seq sM h) (fun h => SqT.go h sM), ra.same sM, few, dr, fun u eu => ?_, fun eu H2 bt => ?_⟩
    · have q := qs u eu
      cases u with
      | name v =>
        intro d H2 s2 nd hd
        have s := sM.trans s2
        refine ⟨true, W4.eNN, fun _ a na => ?_, fun x => nomatch x⟩
        refine ⟨.ref a, rfl, rfl, rfl, d, _, _, rfl, hd, rfl, by show 2 ≤ sizeLine; decide, fun p np => ?_⟩
        exact ⟨_, rfl, q p _ (s.trans (same_new np)) upd_same⟩
      | twice x =>
        intro d H2 s2 nd hd
        have s := sM.trans s2
        refine ⟨false, W4.eDN, (fun x => nomatch x), fun _ => ⟨true, W4.eDD, fun _ a na => ?_, fun x => nomatch x⟩⟩
        refine ⟨.ref a, rfl, rfl, rfl, d, _, _, rfl, hd, rfl, by show 2 ≤ sizeLine; decide, fun p np => ?_⟩
        exact ⟨_, rfl, q p _ (s.trans (same_new np)) upd_same⟩
      | req x =>
        intro d H2 s2 nd hd
        have s := sM.trans s2
        refine ⟨false, W4.eRN, (fun x => nomatch x), fun _ => ⟨false, W4.eRD, (fun x => nomatch x), fun _ => ⟨true, W4.eRR, fun _ a na => ?_, fun x => nomatch x⟩⟩⟩
        refine ⟨.ref a, rfl, rfl, rfl, d, _, _, rfl, hd, rfl, by show 2 ≤ sizeLine; decide, fun p np => ?_⟩
        exact ⟨_, rfl, q p _ (s.trans (same_new np)) upd_same⟩
      | unk x =>
        intro d H2 s2 nd hd
        have s := sM.trans s2
        refine ⟨false, W4.eUN, (fun x => nomatch x), fun _ => ⟨false, W4.eUD, (fun x => nomatch x), fun _ => ⟨false, W4.eUR, (fun x => nomatch x), fun _ => ⟨true, W4.eUU, fun _ a na => ?_, fun x => nomatch x⟩⟩⟩⟩
        refine ⟨.ref a, rfl, rfl, rfl, d, _, _, rfl, hd, rfl, by show 2 ≤ sizeLine; decide, fun p np => ?_⟩
        exact ⟨_, rfl, q p _ (s.trans (same_new np)) upd_same⟩
    · refine ⟨rfl, .non, rfl, qn eu _ fun c o e => bt c o (sM c o e) (ne_of_none e nN)⟩
end
end Moot
/-! _law_is_name; a value among the items of a tuple. -/
namespace Moot
open PySem PySem.Spec PyProof.Rows L2
def rInT (K : PySem.W.Frag) : R2 := fun x y H Q => ∃ (d : PyData) (ds : List PyData), Dp K H x d ∧ Dp K H y (.tuple ds) ∧ SeqAt.shaped d = true ∧ SeqAt.shaped (.list ds) = true ∧ Q (.bl (ds.any fun z => PyData.eqv z d)) H
theorem op_inT {X : Cx} (hu : X.A.units + 65 < cLine) : OpR X (compareOp .In) (rInT X.K) := by
  rintro pins s σ H x y v u Q I rx ry ⟨d, ds, h1, h2, s1, s2, q⟩
  obtain ⟨as, a1⟩ := Dp.reads I d x v h1 rx
  obtain ⟨bs, b1⟩ := Dp.reads I (.tuple ds) y u h2 ry
  refine SeqAt.in_tuple_reads b1 a1 (SeqAt.canLay_of_shaped s2) (SeqAt.canLay_of_shaped s1) (room_in_shaped s1 hu) ⟨.bl _, H, I, rfl, q⟩
section
variable {P : Program} {w : World} {K : PySem.W.Frag} {mg : Str → Option Value} {base : Heap}
abbrev sLn : Stmt := top 40
abbrev nLn : List Str := ["_law_value", "_law_letter"]
theorem scLn : FnScope nLn ["_law_value"] (defScope sLn) := ⟨rfl, rfl, rfl, by decide +kernel, rfl, by decide +kernel, by decide +kernel⟩
theorem ok_lname {f : Addr} {fd : FuncData} {k : Nat} (F : Fun K "_law_is_name" "_law_is_name" sLn f fd) (T : Bq mg) : FnOk P w K mg base CX0 (k + 1) f fd ["_law_value"] spInD := by
  refine F.ok scLn (fun vs H Q E h => ?_) (fun cdv A outer s H vs Q E hr h => ?_)
  · obtain ⟨b, g, d, v, rfl, _⟩ := h
    rfl
  · obtain ⟨b, g, d, v, rfl, hd, sh, q⟩ := h
    refine ⟨_, pss_cons (ps_if (PW.pt (pw_or (pt_not (pt_val (pe_callB call_isi (by rfl) T.T.isi (by decide +kernel) (pa_cons (pv 0) (pa_cons (pe_bltn (v := .ty "str") (by rfl) T.T.str (by decide +kernel) rfl) pa_nil)))))
        (pw_or1 (pt_not (pt_chain op_lt op_lt pe_int (pe_callB call_len_str (by rfl) T.T.len PySem.boot_len (pa_cons (pv 0) pa_nil)) pe_int))))) (pss_one (ps_ret pe_bl)) pss_nil)
      (pss_one (ps_ret (pe_callB (cr_all rfl) (by rfl) T.all (by decide +kernel) (pa_cons (pe_lc (own := [("_law_letter", 1)]) (g := gName 1) (tt := tYes) (by rfl) scLn.nd (pi_str (pv 0)) (blkOk_by (N := nLn) (sc := defScope sLn) (by decide +kernel))
          (fun _ _ _ _ _ => pg_name (i := 1) scLn.nd rfl (Or.inl rfl)) (fun _ _ _ _ _ => pts_nil) (fun _ _ _ _ _ => pe_cmpR op_in_sign (pv 1) pe_str (by rfl))) pa_nil)))), ?_⟩
    have ty := Dv.ty (K := K) hd
    cases d with
    | none => exact ⟨v, rfl, _, _, .type "NoneType", .type "str", false, rfl, .ty _, ty, kit_ty (r := false) (by decide +kernel), _, rfl, iteT (q H fun _ _ z => z)⟩
    | bool x => exact ⟨v, rfl, _, _, .type "bool", .type "str", false, rfl, .ty _, ty, kit_ty (r := false) (by decide +kernel), _, rfl, iteT (q H fun _ _ z => z)⟩
    | int x => exact ⟨v, rfl, _, _, .type "int", .type "str", false, rfl, .ty _, ty, kit_ty (r := false) (by decide +kernel), _, rfl, iteT (q H fun _ _ z => z)⟩
    | list x => exact ⟨v, rfl, _, _, .type "list", .type "str", false, rfl, .ty _, ty, kit_ty (r := false) (by decide +kernel), _, rfl, iteT (q H fun _ _ z => z)⟩
    | tuple x => exact ⟨v, rfl, _, _, .type "tuple", .type "str", false, rfl, .ty _, ty, kit_ty (r := false) (by decide +kernel), _, rfl, iteT (q H fun _ _ z => z)⟩
    | dict x => exact hd.elim
    | str z =>
      cases hd
      have l5 := sh z rfl
      refine ⟨.str z, rfl, _, _, .type "str", .type "str", true, rfl, .ty _, .base (.str z), kit_ty (r := true) (by decide +kernel), _, rfl, iteF ?_⟩
      refine ⟨.str z, rfl, z, rfl, Nat.le_of_lt (small1000 (by omega)), _, _, rfl, rfl, _, rfl, ?_⟩
      by_cases l1 : 1 ≤ z.length
      case neg =>
        rw [decide_eq_false (show ¬ (0 : Int) < (z.length : Int) by omega)]
        have e : nameZ z = false := by unfold nameZ; rw [decide_eq_false l1]; rfl
        have qq := q H fun _ _ z => z
        rw [show nameD (.str z) = nameZ z from rfl, e] at qq
        exact iteF ⟨_, rfl, iteT qq⟩
      rw [decide_eq_true (show (0 : Int) < (z.length : Int) by omega)]
      refine iteT ⟨_, _, rfl, rfl, _, rfl, ?_⟩
      by_cases l8 : z.length ≤ 8
      case neg =>
        rw [decide_eq_false (show ¬ (z.length : Int) < 9 by omega)]
        have e : nameZ z = false := by unfold nameZ; rw [decide_eq_false l8, Bool.and_false]; rfl
        have qq := q H fun _ _ z => z
        rw [show nameD (.str z) = nameZ z from rfl, e] at qq
        exact iteT qq
      rw [decide_eq_true (show (z.length : Int) < 9 by omega)]
      refine iteF ?_
      refine ⟨.str z, rfl, z, rfl, fun D nD => ?_⟩
      refine lc_it walk_str (fun j H1 => Same H H1 ∧ H1 D = some (.lst (((z.cps.toList.take j).map fun c => decide (c ∈ abc.cps.toList)).map V.bl))) ⟨same_new nD, upd_same⟩ (fun _ _ _ _ => trivial) ?_ ?_
      · rintro j x H1 H2 hj ⟨s1, hD⟩ ⟨rfl, c, hc, rfl⟩
        have tk : z.cps.toList.take (j + 1) = z.cps.toList.take j ++ [c] := by
          rw [List.take_add_one, Array.getElem?_toList, hc]
          rfl
        refine ⟨rfl, .str (sg c), rfl, c, abc, rfl, rfl, ?_⟩
        refine ⟨_, hD, ?_, fun a o e => ?_, ?_⟩
        · rw [List.length_map, List.length_map, List.length_take]
          have : z.cps.toList.length = z.length := by simp [Str.length]
          exact small1000 (by omega)
        · rw [upd_ne (ne_of_none e nD)]
          exact s1 a o e
        · rw [upd_same, tk, List.map_append, List.map_append]
          rfl
      · rintro H1 ⟨s1, hD⟩
        have e26 : z.cps.toList.take z.cps.size = z.cps.toList := List.take_of_length_le (by simp)
        rw [e26] at hD
        refine ⟨D, z.cps.toList.map fun c => decide (c ∈ abc.cps.toList), rfl, SqL.of hD, ?_⟩
        have e : nameZ z = (z.cps.toList.map fun c => decide (c ∈ abc.cps.toList)).all id := by
          unfold nameZ
          rw [decide_eq_true l1, decide_eq_true l8, List.all_map]
          rfl
        have qq := q H1 s1
        rwa [show nameD (.str z) = nameZ z from rfl, e] at qq
end
end Moot
/-! _law_is_threshold. -/
namespace Moot
open PySem PySem.Spec PyProof.Rows L2
theorem strs_eqv : ∀ {ns ms : List Str}, PyData.eqvAll (ns.map PyData.str) (ms.map PyData.str) = true → ns = ms
  | [], [], _ => rfl
  | [], _ :: _, h => by cases h
  | _ :: _, [], h => by cases h
  | n :: ns, m :: ms, h => by
    have h : (n == m && PyData.eqvAll (ns.map PyData.str) (ms.map PyData.str)) = true := h
    rw [Bool.and_eq_true] at h
    rw [eq_of_beq h.1, strs_eqv h.2]
theorem part_eqv {p q : Part} (h : PyData.eqv (partD p) (partD q) = true) : p = q := by
  rcases p with x | ⟨c, ns⟩ <;> rcases q with y | ⟨d, ms⟩
  · have h : (x == y) = true := h
    rw [eq_of_beq h]
  · cases h
  · cases h
  · have h : ((c == d) && (PyData.eqvAll (ns.map PyData.str) (ms.map PyData.str) && true)) = true := h
    rw [Bool.and_eq_true, Bool.and_eq_true] at h
    rw [eq_of_beq h.1, strs_eqv h.2.1]
theorem no_among {ps : List Part} {p : Part} (h : p ∉ ps) : (ps.map partD).any (fun d => PyData.eqv d (partD p)) = false := by
  cases e : (ps.map partD).any (fun d => PyData.eqv d (partD p)) with
  | false => rfl
  | true =>
    obtain ⟨d, md, hd⟩ := List.any_eq_true.mp e
    obtain ⟨q, mq, rfl⟩ := List.mem_map.mp md
    rw [part_eqv hd] at mq
    exact absurd mq h
theorem strs_any (zs : List Str) (z : Str) : (zs.map PyData.str).any (fun d => PyData.eqv d (.str z)) = decide (z ∈ zs) := by
  by_cases m : z ∈ zs
  · rw [decide_eq_true m]
    refine List.any_eq_true.mpr ⟨.str z, List.mem_map_of_mem m, ?_⟩
    show (z == z) = true
    exact beq_self_eq_true z
  · rw [decide_eq_false m]
    cases e : (zs.map PyData.str).any (fun d => PyData.eqv d (.str z)) with
    | false => rfl
    | true =>
      obtain ⟨d, md, hd⟩ := List.any_eq_true.mp e
      obtain ⟨q, mq, rfl⟩ := List.mem_map.mp md
      have hd : (q == z) = true := hd
      rw [eq_of_beq hd] at mq
      exact absurd mq m
theorem Valid.good {xs : List Str} {c : Int} {ps : List Part} (h : Valid xs c ps) : ∀ p ∈ ps, Good xs p := fun p m => by
  rcases p with x | ⟨d, ns⟩
  · exact h.sub x (mem_names m (by show x ∈ [x]; exact List.mem_cons_self))
  · obtain ⟨i1, i2, i3, i4, i5⟩ := h.inn d ns m
    have sub : ∀ y ∈ ns, y ∈ xs := fun y my => h.sub y (mem_names m (by show y ∈ ns ++ []; rw [List.append_nil]; exact my))
    have := nd_len ns xs i4 sub
    have := h.few
    exact ⟨by omega, by omega, i1, i2, fun _ => i4, sub⟩
theorem Valid.inner {xs : List Str} {c : Int} {ps : List Part} (h : Valid xs c ps) {d : Int} {ns : List Str} (m : Sum.inr (d, ns) ∈ ps) : Valid xs d (ns.map Sum.inl) := by
  obtain ⟨i1, i2, i3, i4, i5⟩ := h.inn d ns m
  refine ⟨i1, by rw [List.length_map]; exact i2, inl_nodup i4, by rw [namesOf_names]; exact i3, h.few, fun x mx => ?_, h.nm, fun e ms me => ?_⟩
  · rw [namesOf_names] at mx
    exact h.sub x (mem_names m (by show x ∈ ns ++ []; rw [List.append_nil]; exact mx))
  · obtain ⟨_, _, e⟩ := List.mem_map.mp me
    cases e
theorem shaped_str {z : Str} (h : PyData.strOk z = true) : SeqAt.shaped (.str z) = true := by
  unfold SeqAt.shaped
  rw [decide_eq_true (show PyData.depth (.str z) ≤ 64 from Nat.zero_le _)]
  show (PyData.strOk z && true) = true
  rw [h]
  rfl
theorem shaped_strs {zs : List Str} (h : ∀ y ∈ zs, PyData.strOk y = true) : SeqAt.shaped (.list (zs.map PyData.str)) = true := by
  unfold SeqAt.shaped
  have d : PyData.depth (.list (zs.map PyData.str)) ≤ 64 := by
    show PyData.depthAll (zs.map PyData.str) + 1 ≤ 64
    rw [depth_strs]
    decide
  rw [decide_eq_true d]
  show (PyData.canLayAll0 (zs.map PyData.str) && true) = true
  rw [lay_strs h]
  rfl
theorem nameZ_nm {z : Str} (h : nameZ z = true) : Nm z := by
  unfold nameZ at h
  rw [Bool.and_eq_true, Bool.and_eq_true] at h
  refine ⟨of_decide_eq_true h.1.1, of_decide_eq_true h.1.2, fun c m => ?_⟩
  have hc := of_decide_eq_true (List.all_eq_true.mp h.2 c m)
  rw [abc_list] at hc
  obtain ⟨j, mj, rfl⟩ := List.mem_map.mp hc
  have := List.mem_range.mp mj
  omega
theorem nameZ_ok {z : Str} (h : nameZ z = true) : PyData.strOk z = true := (nameZ_nm h).ok
theorem cutI (vs : List V) (i : Nat) : cutV vs none (some ((i : Nat) : Int)) = vs.take i := by
  unfold cutV
  rw [HT.sIx_none, HT.sIx_nat]
  show (vs.drop 0).take (min i vs.length - 0) = _
  rw [List.drop_zero, Nat.sub_zero, List.take_eq_take_iff]
  omega
theorem not_whole {n i : Nat} (h : i < n) : ¬ (HT.sIx n 0 none = 0 ∧ HT.sIx n n (some ((i : Nat) : Int)) = n) := by
  rw [HT.sIx_nat]
  intro z
  have := z.2
  omega
section
variable {P : Program} {w : World} {K : PySem.W.Frag} {mg : Str → Option Value} {base : Heap}
abbrev sTh : Stmt := top 41
abbrev pTh : List Str := ["_law_value", "_law_deep"]
abbrev nTh : List Str := ["_law_value", "_law_deep", "_law_count_here", "_law_parts", "_law_at", "_law_good"]
theorem scTh : FnScope nTh pTh (defScope sTh) := ⟨rfl, rfl, rfl, by decide +kernel, rfl, by decide +kernel, by decide +kernel⟩
def spTh (deep : Bool) : Sp := fun vs H Q _ => ∃ v, vs = [v, .bl deep] ∧ ((∃ (r : Addr) (c : Int) (ps : List Part) (xs : List Str), v = .ref r ∧ ReqAt H r c ps ∧ Valid xs c ps ∧ (deep = false → ∀ d ns, Sum.inr (d, ns) ∉ ps) ∧ ∀ H', Same H H' → Q (.bl true) H') ∨
  (deep = true ∧ ∃ (b g : Addr) (d : PyData), Dv b g H d v ∧ BadR d ∧ ∀ H', Same H H' → Q (.bl false) H'))
theorem ok_th {deep : Bool} {spR : Sp} {f f1 : Addr} {fd fd1 : FuncData} {k : Nat} (F : Fun K "_law_is_threshold" "_law_is_threshold" sTh f fd) (T : Bq mg) (b0 : Binds K fd pTh []) (g0 : mg "_law_is_threshold" = some (.ref f)) (GR : FnOk P w K mg base CX0 k f fd pTh spR) (eR : deep = true → spR = spTh false)
    (F1 : Fun K "_law_is_name" "_law_is_name" sLn f1 fd1) (b1 : Binds K fd1 ["_law_value"] []) (g1 : mg "_law_is_name" = some (.ref f1)) (G1 : FnOk P w K mg base CX0 k f1 fd1 ["_law_value"] spInD) : FnOk P w K mg base CX0 (k + 1) f fd pTh (spTh deep) := by
  refine F.ok scTh (fun vs H Q E h => ?_) (fun cdv A outer s H vs Q E hr h => ?_)
  · obtain ⟨v, rfl, _⟩ := h
    rfl
  · obtain ⟨v, rfl, h⟩ := h
    have hu : (A.deeper (envOfC "_law_is_threshold" (defScope sTh) s.heap.objs.size f cdv)).units + 65 < cLine := by
      have := hr.un
      omega
    refine ⟨_, pss_cons (ps_if (PW.pt (pw_or (pt_not (pt_val (pe_callB call_isi (by rfl) T.T.isi (by decide +kernel) (pa_cons (pv 0) (pa_cons (pe_bltn (v := .ty "tuple") (by rfl) T.T.tup (by decide +kernel) rfl) pa_nil)))))
          (pw_or (pt_cmpR op_ne (pe_callB call_len_seq (by rfl) T.T.len PySem.boot_len (pa_cons (pv 0) pa_nil)) pe_int (nomark _))
          (pw_or1 (pt_not (pt_val (pe_callB call_isi (by rfl) T.T.isi (by decide +kernel) (pa_cons (pe_ix ix_tup (pv 0) pe_int (fun _ _ => rfl)) (pa_cons (pe_bltn (v := .ty "tuple") (by rfl) T.T.tup (by decide +kernel) rfl) pa_nil))))))))) (pss_one (ps_ret pe_bl)) pss_nil)
      (pss_cons (ps_asg (pv 0) (pg_tup (by rfl) (pgs_cons (pg_name (i := 2) scTh.nd rfl (Or.inl rfl)) (pgs_cons (pg_name (i := 3) scTh.nd rfl (Or.inl rfl)) pgs_nil))))
      (pss_cons (ps_if (PW.pt (pw_or (pt_val (pe_callB call_isi (by rfl) T.T.isi (by decide +kernel) (pa_cons (pv 2) (pa_cons (pe_bltn (v := .ty "bool") (by rfl) T.T.bool (by decide +kernel) rfl) pa_nil))))
          (pw_or (pt_not (pt_val (pe_callB call_isi (by rfl) T.T.isi (by decide +kernel) (pa_cons (pv 2) (pa_cons (pe_bltn (v := .ty "int") (by rfl) T.T.int (by decide +kernel) rfl) pa_nil)))))
          (pw_or1 (pt_not (pt_chain op_lt op_le pe_int (pv 2) (pe_callB call_len_seq (by rfl) T.T.len PySem.boot_len (pa_cons (pv 3) pa_nil)))))))) (pss_one (ps_ret pe_bl)) pss_nil)
      (pss_cons (ps_for PassesOwn.never rfl (pi_range1 rfl T.T.rng (pa_cons (pe_callB call_len_seq (by rfl) T.T.len PySem.boot_len (pa_cons (pv 3) pa_nil)) pa_nil)) (pg_name (i := 4) scTh.nd rfl (Or.inl rfl))
        (pss_cons (ps_set (i := 5) scTh.nd rfl (Or.inl rfl) (pe_or (pe_call G1 hr (by rfl) g1 F1.kp b1 .nil pass0 (pa_cons (pe_ix ix_tup (pv 3) (pv 4) (fun _ _ => rfl)) pa_nil))
          (pe_one (pe_and (pv 1) (pe_one (pe_call GR hr (by rfl) g0 F.kp b0 .nil pass0 (pa_cons (pe_ix ix_tup (pv 3) (pv 4) (fun _ _ => rfl)) (pa_cons pe_bl pa_nil))))))))
        (pss_one (ps_if (PW.pt (pw_or (pt_not (pt_val (pv 5))) (pw_or1 (pt_cmpR (op_inT hu) (pe_ix ix_tup (pv 3) (pv 4) (fun _ _ => rfl)) (pe_slice sl_tupA (pv 3) po_none (po_some (pv 4))) (by rfl))))) (pss_one (ps_ret pe_bl)) pss_nil))))
      (pss_one (ps_ret pe_bl))))), ?_⟩
    rcases h with ⟨r, c, ps, xs, rfl, ⟨p, vp, hr1, hp, hps⟩, va, flat, q⟩ | ⟨rfl, b, g, d, hd, bad, q⟩
    · have c1 := va.c1
      have c2 := va.c2
      have pl := hps.length
      have okx : ∀ x ∈ xs, PyData.strOk x = true := fun x mx => (va.nm x mx).ok
      refine ⟨.ref r, rfl, _, _, .type "tuple", .type "tuple", true, rfl, .ty _, .base (.tup hr1), kit_ty (r := true) (by decide +kernel), _, rfl, iteF ?_⟩
      refine ⟨.ref r, rfl, r, _, rfl, .inr (SqT.of hr1), rfl, _, rfl, iteF ?_⟩
      refine ⟨.ref r, rfl, r, _, 1, .ref p, rfl, rfl, SqT.of hr1, atI_nat (j := 1) rfl, ?_⟩
      refine ⟨_, _, .type "tuple", .type "tuple", true, rfl, .ty _, hp.ty, kit_ty (r := true) (by decide +kernel), _, rfl, iteF ?_⟩
      refine ⟨.ref r, rfl, r, _, rfl, SqT.of hr1, rfl, _, _, rfl, _, _, rfl, rfl, ?_⟩
      refine ⟨.int c, rfl, _, _, .type "int", .type "bool", false, rfl, .ty _, .base (.int c), kit_ty (r := false) (by decide +kernel), _, rfl, iteF ?_⟩
      refine ⟨.int c, rfl, _, _, .type "int", .type "int", true, rfl, .ty _, .base (.int c), kit_ty (r := true) (by decide +kernel), _, rfl, iteF ?_⟩
      refine ⟨.int c, rfl, _, _, rfl, rfl, _, rfl, ?_⟩
      rw [decide_eq_true (show (0 : Int) < c by omega)]
      refine iteT ⟨.ref p, rfl, p, _, rfl, .inr hp.seq, _, _, rfl, rfl, _, rfl, ?_⟩
      rw [decide_eq_true (show c ≤ (vp.length : Int) by omega)]
      have l12 := va.len
      refine iteF ?_
      refine ⟨.ref p, rfl, p, _, rfl, .inr hp.seq, vp.length, rfl, by omega, by omega, for_range (lo := 0) (n := vp.length) (fun i σ H1 => ∃ y4 y5 : Option V, σ = [some (.ref r), some (.bl deep), some (.int c), some (.ref p), y4, y5] ∧ Same H H1) ⟨none, none, rfl, fun _ _ z => z⟩ ?_ ?_⟩
      · rintro i σ H1 hi ⟨y4, y5, rfl, s1⟩
        obtain ⟨v, hv⟩ : ∃ v, vp[i]? = some v := ⟨vp[i], List.getElem?_eq_getElem hi⟩
        obtain ⟨pt, hpt, pa⟩ := hps.at hv
        have z0 : (0 : Int) + (i : Int) = ((i : Nat) : Int) := by omega
        rw [z0]
        have mpt := List.mem_of_getElem? hpt
        have gd := va.good pt mpt
        have hp1 := hp.tups (Same.tups s1)
        have pa1 := pa.tups (Same.tups s1).tup
        -- the rest, with whatever stands there now
        have rest : ∀ H2, Same H1 H2 → (fun σ2 H2 => ∃ y4 y5 : Option V, σ2 = [some (.ref r), some (.bl deep), some (.int c), some (.ref p), y4, y5] ∧ Same H H2) [some (.ref r), some (.bl deep), some (.int c), some (.ref p), some (.int (i : Int)), some (.bl true)] H2 := fun H2 s2 => ⟨_, _, rfl, s1.trans s2⟩
        have tail : ∀ H2, Same H1 H2 → PTup H2 p vp ∧ PartAt H2 v pt ∧ Parts H2 vp ps := fun H2 s2 => ⟨hp1.tups (Same.tups s2), pa1.tups (Same.tups s2).tup, hps.tups (Same.tups (s1.trans s2)).tup⟩
        have noin : pt ∉ ps.take i := fun m => by
          have e : ps = ps.take i ++ ps.drop i := (List.take_append_drop i ps).symm
          have nd := va.nd
          rw [e] at nd
          exact (List.nodup_append.mp nd).2.2 pt m pt (List.mem_of_getElem? (i := 0) (by rw [List.getElem?_drop]; exact hpt)) rfl
        have shp : ∀ q ∈ ps.take i, Good xs q := fun q mq => va.good q (List.mem_of_mem_take mq)
        rcases pt with x | ⟨d, ns⟩
        · have hvx : v = .str x := pa
          subst hvx
          have nx : Nm x := va.nm x gd
          refine ⟨.ref p, rfl, .int i, rfl, p, vp, i, .str x, rfl, rfl, hp1.seq, atI_nat hv, ?_⟩
          refine ⟨0, 0, .str x, .str x, rfl, rfl, fun z e => ?_, fun H2 s2 => ?_⟩
          · cases e
            have : x.length ≤ 8 := nx.hi
            omega
          rw [show nameD (.str x) = nameZ x from rfl, nx.z]
          refine ⟨_, rfl, iteT ?_⟩
          obtain ⟨hp2, pa2, hps2⟩ := tail H2 s2
          refine ⟨_, rfl, _, rfl, iteF ?_⟩
          refine ⟨.ref p, rfl, .int i, rfl, p, vp, i, .str x, rfl, rfl, hp2.seq, atI_nat hv, ?_⟩
          refine ⟨.ref p, rfl, .int i, rfl, i, rfl, p, vp, rfl, hp2.seq, fun z => absurd z (not_whole hi), fun _ a na => ?_⟩
          rw [cutI]
          have s3 := same_new (o := .tup (vp.take i)) na
          refine ⟨partD (.inl x), (ps.take i).map partD, PartAt.dp (pa2.tups (Same.tups s3).tup), .tup (SqT.of upd_same) (Parts.dp ((hps2.tups (Same.tups s3).tup).cut i).1), shaped_part okx gd, shaped_parts okx shp, ?_⟩
          rw [no_among noin]
          exact ⟨_, rfl, iteF (rest _ (s2.trans s3))⟩
        · cases deep with
          | false => exact absurd mpt (flat rfl d ns)
          | true =>
            have eR := eR rfl
            subst eR
            obtain ⟨q1, q2, e, hq1, hq2⟩ := pa1
            subst e
            refine ⟨.ref p, rfl, .int i, rfl, p, vp, i, .ref q1, rfl, rfl, hp1.seq, atI_nat hv, ?_⟩
            refine ⟨q1 + q2 + 1, q1 + q2 + 1, .tuple [.int d, .tuple (ns.map PyData.str)], .ref q1, rfl, ⟨q1, _, rfl, Nat.ne_of_lt (Nat.lt_succ_of_le (Nat.le_add_right q1 q2)), Nat.ne_of_lt (Nat.lt_succ_of_le (Nat.le_add_right q1 q2)), hq1, .int d, _, rfl, rfl, .ref q2, [], rfl, ⟨q2, _, rfl, Nat.ne_of_lt (Nat.lt_succ_of_le (Nat.le_add_left q2 q1)), Nat.ne_of_lt (Nat.lt_succ_of_le (Nat.le_add_left q2 q1)), hq2, DvAll.strs ns⟩, rfl⟩, (fun z e => by cases e), fun H2 s2 => ?_⟩
            refine ⟨_, rfl, iteF ⟨.bl true, rfl, _, rfl, iteT ?_⟩⟩
            obtain ⟨hp2, pa2, hps2⟩ := tail H2 s2
            refine ⟨.ref p, rfl, .int i, rfl, p, vp, i, .ref q1, rfl, rfl, hp2.seq, atI_nat hv, ?_⟩
            refine ⟨.ref q1, rfl, .inl ⟨q1, d, ns.map Sum.inl, xs, rfl, ⟨q2, ns.map V.str, s2 _ _ hq1, .inr ⟨s2 _ _ hq2, ns, rfl⟩, Parts.names ns⟩, va.inner mpt, fun _ e ms me => ?_, fun H3 s3 => ?_⟩⟩
            · obtain ⟨_, _, e⟩ := List.mem_map.mp me
              cases e
            have s23 := s2.trans s3
            obtain ⟨hp3, pa3, hps3⟩ := tail H3 s23
            refine ⟨_, rfl, _, rfl, iteF ?_⟩
            refine ⟨.ref p, rfl, .int i, rfl, p, vp, i, .ref q1, rfl, rfl, hp3.seq, atI_nat hv, ?_⟩
            refine ⟨.ref p, rfl, .int i, rfl, i, rfl, p, vp, rfl, hp3.seq, fun z => absurd z (not_whole hi), fun _ a na => ?_⟩
            rw [cutI]
            have s4 := same_new (o := .tup (vp.take i)) na
            refine ⟨partD (.inr (d, ns)), (ps.take i).map partD, PartAt.dp (pa3.tups (Same.tups s4).tup), .tup (SqT.of upd_same) (Parts.dp ((hps3.tups (Same.tups s4).tup).cut i).1), shaped_part okx gd, shaped_parts okx shp, ?_⟩
            rw [no_among noin]
            exact ⟨_, rfl, iteF (rest _ (s23.trans s4))⟩
      · rintro σ H1 ⟨y4, y5, rfl, s1⟩
        exact q H1 s1
    · have ty := Dv.ty (K := K) hd
      have q0 := q H fun _ _ z => z
      rcases bad with e | ⟨c, zs, rfl, c1, c2, nm, dup, few⟩
      · cases d with
        | none => exact ⟨v, rfl, _, _, .type "NoneType", .type "tuple", false, rfl, .ty _, ty, kit_ty (r := false) (by decide +kernel), _, rfl, iteT q0⟩
        | bool x => exact ⟨v, rfl, _, _, .type "bool", .type "tuple", false, rfl, .ty _, ty, kit_ty (r := false) (by decide +kernel), _, rfl, iteT q0⟩
        | int x => exact ⟨v, rfl, _, _, .type "int", .type "tuple", false, rfl, .ty _, ty, kit_ty (r := false) (by decide +kernel), _, rfl, iteT q0⟩
        | str x => exact ⟨v, rfl, _, _, .type "str", .type "tuple", false, rfl, .ty _, ty, kit_ty (r := false) (by decide +kernel), _, rfl, iteT q0⟩
        | list x => exact ⟨v, rfl, _, _, .type "list", .type "tuple", false, rfl, .ty _, ty, kit_ty (r := false) (by decide +kernel), _, rfl, iteT q0⟩
        | dict x => exact hd.elim
        | tuple ds =>
          obtain ⟨r, xs, rfl, rb, rg, hr1, all⟩ := hd
          have xl := all.len
          refine ⟨.ref r, rfl, _, _, .type "tuple", .type "tuple", true, rfl, .ty _, ty, kit_ty (r := true) (by decide +kernel), _, rfl, iteF ⟨.ref r, rfl, r, _, rfl, .inr (SqT.of hr1), rfl, _, rfl, ?_⟩⟩
          by_cases two : ds.length = 2
          case neg =>
            rw [decide_eq_false (show ¬ V.int ((xs.length : Nat) : Int) = V.int 2 from fun z => two (by have := V.int.inj z; omega))]
            exact iteT q0
          rw [decide_eq_true (show V.int ((xs.length : Nat) : Int) = V.int 2 from by rw [xl, two]; rfl)]
          refine iteF ?_
          obtain ⟨d1, d2, rfl⟩ : ∃ d1 d2, ds = [d1, d2] := by
            match ds, two with
            | [d1, d2], _ => exact ⟨d1, d2, rfl⟩
          obtain ⟨v1, ys, rfl, h1, v2, zs, rfl, h2, rfl⟩ := all
          refine ⟨.ref r, rfl, r, _, 1, v2, rfl, rfl, SqT.of hr1, atI_nat (j := 1) rfl, ?_⟩
          have ty1 := Dv.ty (K := K) h1
          have ty2 := Dv.ty (K := K) h2
          cases d2 with
          | none => exact ⟨_, _, .type "NoneType", .type "tuple", false, rfl, .ty _, ty2, kit_ty (r := false) (by decide +kernel), _, rfl, iteT q0⟩
          | bool x => exact ⟨_, _, .type "bool", .type "tuple", false, rfl, .ty _, ty2, kit_ty (r := false) (by decide +kernel), _, rfl, iteT q0⟩
          | int x => exact ⟨_, _, .type "int", .type "tuple", false, rfl, .ty _, ty2, kit_ty (r := false) (by decide +kernel), _, rfl, iteT q0⟩
          | str x => exact ⟨_, _, .type "str", .type "tuple", false, rfl, .ty _, ty2, kit_ty (r := false) (by decide +kernel), _, rfl, iteT q0⟩
          | list x => exact ⟨_, _, .type "list", .type "tuple", false, rfl, .ty _, ty2, kit_ty (r := false) (by decide +kernel), _, rfl, iteT q0⟩
          | dict x => exact h2.elim
          | tuple ps =>
            obtain ⟨p, ws, rfl, pb, pg, hp, allp⟩ := h2
            have wl := allp.len
            refine ⟨_, _, .type "tuple", .type "tuple", true, rfl, .ty _, ty2, kit_ty (r := true) (by decide +kernel), _, rfl, iteF ?_⟩
            refine ⟨.ref r, rfl, r, _, rfl, SqT.of hr1, rfl, _, _, rfl, _, _, rfl, rfl, ?_⟩
            cases d1 with
            | bool x => exact ⟨v1, rfl, _, _, .type "bool", .type "bool", true, rfl, .ty _, ty1, kit_ty (r := true) (by decide +kernel), _, rfl, iteT q0⟩
            | dict x => exact h1.elim
            | none => exact ⟨v1, rfl, _, _, .type "NoneType", .type "bool", false, rfl, .ty _, ty1, kit_ty (r := false) (by decide +kernel), _, rfl, iteF ⟨v1, rfl, _, _, .type "NoneType", .type "int", false, rfl, .ty _, ty1, kit_ty (r := false) (by decide +kernel), _, rfl, iteT q0⟩⟩
            | str x => exact ⟨v1, rfl, _, _, .type "str", .type "bool", false, rfl, .ty _, ty1, kit_ty (r := false) (by decide +kernel), _, rfl, iteF ⟨v1, rfl, _, _, .type "str", .type "int", false, rfl, .ty _, ty1, kit_ty (r := false) (by decide +kernel), _, rfl, iteT q0⟩⟩
            | list x => exact ⟨v1, rfl, _, _, .type "list", .type "bool", false, rfl, .ty _, ty1, kit_ty (r := false) (by decide +kernel), _, rfl, iteF ⟨v1, rfl, _, _, .type "list", .type "int", false, rfl, .ty _, ty1, kit_ty (r := false) (by decide +kernel), _, rfl, iteT q0⟩⟩
            | tuple x => exact ⟨v1, rfl, _, _, .type "tuple", .type "bool", false, rfl, .ty _, ty1, kit_ty (r := false) (by decide +kernel), _, rfl, iteF ⟨v1, rfl, _, _, .type "tuple", .type "int", false, rfl, .ty _, ty1, kit_ty (r := false) (by decide +kernel), _, rfl, iteT q0⟩⟩
            | int c =>
              cases h1
              refine ⟨.int c, rfl, _, _, .type "int", .type "bool", false, rfl, .ty _, ty1, kit_ty (r := false) (by decide +kernel), _, rfl, iteF ?_⟩
              refine ⟨.int c, rfl, _, _, .type "int", .type "int", true, rfl, .ty _, ty1, kit_ty (r := true) (by decide +kernel), _, rfl, iteF ?_⟩
              refine ⟨.int c, rfl, _, _, rfl, rfl, _, rfl, ?_⟩
              have e : (decide (1 ≤ c) && decide (c ≤ (ps.length : Int))) = false := e
              by_cases c1 : 1 ≤ c
              · rw [decide_eq_true c1, Bool.true_and] at e
                have c2 := of_decide_eq_false e
                rw [decide_eq_true (show (0 : Int) < c by omega)]
                refine iteT ⟨.ref p, rfl, p, _, rfl, .inr (SqT.of hp), _, _, rfl, rfl, _, rfl, ?_⟩
                rw [decide_eq_false (show ¬ c ≤ (ws.length : Int) by omega)]
                exact iteT q0
              · rw [decide_eq_false (show ¬ (0 : Int) < c by omega)]
                exact iteF ⟨_, rfl, iteT q0⟩
      · obtain ⟨r, xs, rfl, rb, rg, hr1, v1, ys, rfl, h1, v2, us, rfl, h2, rfl⟩ := hd
        obtain ⟨p, ws, rfl, pb, pg, hp, allp⟩ := h2
        have ew := DvAll.to_strs allp
        subst ew
        cases h1
        have ze : (zs.map V.str).length = zs.length := List.length_map ..
        refine ⟨.ref r, rfl, _, _, .type "tuple", .type "tuple", true, rfl, .ty _, .base (.tup hr1), kit_ty (r := true) (by decide +kernel), _, rfl, iteF ?_⟩
        refine ⟨.ref r, rfl, r, _, rfl, .inr (SqT.of hr1), rfl, _, rfl, iteF ?_⟩
        refine ⟨.ref r, rfl, r, _, 1, .ref p, rfl, rfl, SqT.of hr1, atI_nat (j := 1) rfl, ?_⟩
        refine ⟨_, _, .type "tuple", .type "tuple", true, rfl, .ty _, .base (.tup hp), kit_ty (r := true) (by decide +kernel), _, rfl, iteF ?_⟩
        refine ⟨.ref r, rfl, r, _, rfl, SqT.of hr1, rfl, _, _, rfl, _, _, rfl, rfl, ?_⟩
        refine ⟨.int c, rfl, _, _, .type "int", .type "bool", false, rfl, .ty _, .base (.int c), kit_ty (r := false) (by decide +kernel), _, rfl, iteF ?_⟩
        refine ⟨.int c, rfl, _, _, .type "int", .type "int", true, rfl, .ty _, .base (.int c), kit_ty (r := true) (by decide +kernel), _, rfl, iteF ?_⟩
        refine ⟨.int c, rfl, _, _, rfl, rfl, _, rfl, ?_⟩
        rw [decide_eq_true (show (0 : Int) < c by omega)]
        refine iteT ⟨.ref p, rfl, p, _, rfl, .inr (SqT.of hp), _, _, rfl, rfl, _, rfl, ?_⟩
        rw [decide_eq_true (show c ≤ ((zs.map V.str).length : Int) by omega)]
        refine iteF ?_
        refine ⟨.ref p, rfl, p, _, rfl, .inr (SqT.of hp), (zs.map V.str).length, rfl, by omega, by omega, for_range (lo := 0) (n := (zs.map V.str).length) (fun i σ H1 => ∃ y4 y5 : Option V, σ = [some (.ref r), some (.bl true), some (.int c), some (.ref p), y4, y5] ∧ Same H H1 ∧ (zs.take i).Nodup) ⟨none, none, rfl, (fun _ _ z => z), List.nodup_nil⟩ ?_ ?_⟩
        · rintro i σ H1 hi ⟨y4, y5, rfl, s1, ndi⟩
          have hi' : i < zs.length := by omega
          obtain ⟨z, hz⟩ : ∃ z, zs[i]? = some z := ⟨zs[i], List.getElem?_eq_getElem hi'⟩
          have hv : (zs.map V.str)[i]? = some (.str z) := by rw [List.getElem?_map, hz]; rfl
          have z0 : (0 : Int) + (i : Int) = ((i : Nat) : Int) := by omega
          rw [z0]
          have nz := nm z (List.mem_of_getElem? hz)
          have hp1 := s1 _ _ hp
          refine ⟨.ref p, rfl, .int i, rfl, p, _, i, .str z, rfl, rfl, SqT.of hp1, atI_nat hv, ?_⟩
          refine ⟨0, 0, .str z, .str z, rfl, rfl, fun z e => ?_, fun H2 s2 => ?_⟩
          · cases e
            have := name_len nz
            omega
          rw [show nameD (.str z) = nameZ z from rfl, nz]
          refine ⟨_, rfl, iteT ?_⟩
          have hp2 := s2 _ _ hp1
          refine ⟨_, rfl, _, rfl, iteF ?_⟩
          refine ⟨.ref p, rfl, .int i, rfl, p, _, i, .str z, rfl, rfl, SqT.of hp2, atI_nat hv, ?_⟩
          refine ⟨.ref p, rfl, .int i, rfl, i, rfl, p, _, rfl, SqT.of hp2, fun z => absurd z (not_whole hi), fun _ a na => ?_⟩
          rw [cutI, ← List.map_take]
          have s3 := same_new (o := .tup ((zs.take i).map V.str)) na
          have okz : ∀ y ∈ zs, PyData.strOk y = true := fun y my => nameZ_ok (nm y my)
          refine ⟨.str z, (zs.take i).map PyData.str, .str z, .tup (SqT.of upd_same) (dp_strs _), shaped_str (okz z (List.mem_of_getElem? hz)), shaped_strs (fun y my => okz y (List.mem_of_mem_take my)), ?_⟩
          rw [strs_any]
          have s123 := (s1.trans s2).trans s3
          by_cases m : z ∈ zs.take i
          · rw [decide_eq_true m]
            exact ⟨_, rfl, iteT (q _ s123)⟩
          · rw [decide_eq_false m]
            refine ⟨_, rfl, iteF ⟨_, _, rfl, s123, ?_⟩⟩
            rw [List.take_add_one, hz]
            refine List.nodup_append.mpr ⟨ndi, by simp, fun a ma b mb => ?_⟩
            cases List.mem_singleton.mp mb
            exact fun e => m (e ▸ ma)
        · rintro σ H1 ⟨y4, y5, rfl, s1, ndi⟩
          rw [ze, List.take_length] at ndi
          exact absurd ndi dup
end
end Moot
/-! _law_due. -/
namespace Moot
open PySem PySem.Spec PyProof.Rows L2
section
variable {P : Program} {w : World} {K : PySem.W.Frag} {mg : Str → Option Value} {base : Heap}
abbrev sDu : Stmt := top 42
abbrev nDu : List Str := ["_law_rows_here", "_law_names_here", "_law_name_here", "_law_requirement_here", "_law_strange", "_law_used"]
theorem scDu : FnScope nDu ["_law_rows_here"] (defScope sDu) := ⟨rfl, rfl, rfl, by decide +kernel, rfl, by decide +kernel, by decide +kernel⟩
def spDu (K : PySem.W.Frag) : Sp := fun vs H Q _ => ∃ (b g l : Addr) (ts : List Addr) (ks : List Rk) (du : Option Du), vs = [.ref l] ∧ SqL K H l (ts.map V.ref) ∧ RowsK b g H ts ks ∧ ks.length ≤ 8 ∧ DueR ks du ∧ DuV du Q H
theorem DuV.ret {du : Option Du} {Q : VK} {H : Hp} (h : DuV du Q H) {u : Du} (e : du = some u) {p : Addr} {H1 : Hp} (s : Same H H1) (np : H1 p = none) : Q (.ref p) (upd H1 p (.tup [.str u.word, u.val])) := h.2 u e p _ (s.trans (same_new np)) upd_same
theorem DueR.one {ks : List Rk} {du : Option Du} (h : DueR ks du) {u : Du} (e : some u = due1 [] ks) : du = some u := by
  rcases h with ⟨u', h1, h2⟩ | ⟨h1, _⟩
  · rw [← e] at h1
    cases h1
    exact h2
  · rw [← e] at h1
    cases h1
theorem DueR.two {ks : List Rk} {du : Option Du} (h : DueR ks du) (e : none = due1 [] ks) : ∃ o, Unk ((rsOf ks).map (·.1)) ks o ∧ du = o.map Du.unk := by
  rcases h with ⟨u', h1, h2⟩ | ⟨_, h2⟩
  · rw [← e] at h1
    cases h1
  · exact h2
theorem ok_due {f f1 f2 f3 : Addr} {fd fd1 fd2 fd3 : FuncData} {k : Nat} (F : Fun K "_law_due" "_law_due" sDu f fd) (T : Bq mg)
    (F1 : Fun K "_law_is_name" "_law_is_name" sLn f1 fd1) (b1 : Binds K fd1 ["_law_value"] []) (g1 : mg "_law_is_name" = some (.ref f1)) (G1 : FnOk P w K mg base CX0 k f1 fd1 ["_law_value"] spInD)
    (F2 : Fun K "_law_is_threshold" "_law_is_threshold" sTh f2 fd2) (b2 : Binds K fd2 pTh []) (g2 : mg "_law_is_threshold" = some (.ref f2)) (G2 : FnOk P w K mg base CX0 k f2 fd2 pTh (spTh true))
    (F3 : Fun K "_law_names_in" "_law_names_in" sLni f3 fd3) (b3 : Binds K fd3 ["_law_requirement_here"] []) (g3 : mg "_law_names_in" = some (.ref f3)) (G3 : FnOk P w K mg base CX0 k f3 fd3 ["_law_requirement_here"] (spNwr fun _ => True)) :
    FnOk P w K mg base CX0 (k + 1) f fd ["_law_rows_here"] (spDu K) := by
  refine F.ok scDu (fun vs H Q E h => ?_) (fun cdv A outer s H vs Q E hr h => ?_)
  · obtain ⟨b, g, l, ts, ks, du, rfl, _⟩ := h
    rfl
  · obtain ⟨b, g, l, ts, ks, du, rfl, hl, ra, few, dr, q⟩ := h
    refine ⟨_, pss_cons (ps_set (i := 1) scDu.nd rfl (Or.inr rfl) (pe_lst pa_nil))
      (pss_cons (ps_for PassesOwn.never rfl (pi_list (pv 0)) (pg_tup (by rfl) (pgs_cons (pg_name (i := 2) scDu.nd rfl (Or.inl rfl)) (pgs_cons (pg_name (i := 3) scDu.nd rfl (Or.inl rfl)) pgs_nil)))
        (pss_cons (ps_if (pt_not (pt_val (pe_call G1 hr (by rfl) g1 F1.kp b1 .nil pass0 (pa_cons (pv 2) pa_nil)))) (pss_one (ps_ret (pe_tup (pa_cons pe_str (pa_cons (pv 2) pa_nil))))) pss_nil)
        (pss_cons (ps_if (pt_cmpR (show OpR _ (compareOp .In) (rIn K false) from op_in_seq) (pv 2) (pv 1) (by rfl)) (pss_one (ps_ret (pe_tup (pa_cons pe_str (pa_cons (pv 2) pa_nil))))) pss_nil)
        (pss_cons (ps_if (pt_not (pt_val (pe_call G2 hr (by rfl) g2 F2.kp b2 .nil pass0 (pa_cons (pv 3) (pa_cons pe_bl pa_nil))))) (pss_one (ps_ret (pe_tup (pa_cons pe_str (pa_cons (pv 2) pa_nil))))) pss_nil)
        (pss_one (ps_expr (pe_bm PySem.F.plainAttrs_list PySem.F.slot_list_append PySem.F.type_list_append mt_append (pv 1) (pa_cons (pv 2) pa_nil))))))))
      (pss_cons (ps_for PassesOwn.never rfl (pi_list (pv 0)) (pg_tup (by rfl) (pgs_cons (pg_name (i := 2) scDu.nd rfl (Or.inl rfl)) (pgs_cons (pg_name (i := 3) scDu.nd rfl (Or.inl rfl)) pgs_nil)))
        (pss_cons (ps_set (i := 4) scDu.nd rfl (Or.inl rfl) (pe_callB (show CallR _ (.builtin "sorted") (rSortedS K) from cr_sortedS) (by rfl) T.T.srt (by decide +kernel) (pa_cons (pe_lc (own := [("_law_used", 5)]) (g := gName 5) (by rfl) scDu.nd (pi_list (pe_call G3 hr (by rfl) g3 F3.kp b3 .nil pass0 (pa_cons (pv 3) pa_nil))) (blkOk_by (N := nDu) (sc := defScope sDu) (by decide +kernel))
            (fun _ _ _ _ _ => pg_name (i := 5) scDu.nd rfl (Or.inl rfl)) (fun _ _ _ _ _ => pts_one (pt_cmpR (show OpR _ (compareOp .NotIn) (rIn K true) from op_notIn_seq) (pv 5) (pv 1) (by rfl))) (fun _ _ _ _ _ => pv 5)) pa_nil)))
        (pss_one (ps_if (pt_cmpR op_gt (pe_callB call_len_seq (by rfl) T.T.len PySem.boot_len (pa_cons (pv 4) pa_nil)) pe_int (nomark _)) (pss_one (ps_ret (pe_tup (pa_cons pe_str (pa_cons (pe_ix ix_list (pv 4) pe_int (fun _ _ => rfl)) pa_nil))))) pss_nil))))
      (pss_one (ps_ret pe_non)))), ?_⟩
    refine ⟨Nat.zero_le _, fun N nN => ?_⟩
    have s0 := same_new (o := .lst []) nN
    refine ⟨.ref l, rfl, l, rfl, ⟨_, Same.seq s0 hl⟩, for_list (K := K) (a := l) (xs := ts.map V.ref) (fun i σ H1 => ∃ y2 y3 : Option V, σ = [some (.ref l), some (.ref N), y2, y3, none, none] ∧ Same H H1 ∧ H1 N = some (.lst (((rsOf (ks.take i)).map (·.1)).map V.str)) ∧ due1 ((rsOf (ks.take i)).map (·.1)) (ks.drop i) = due1 [] ks) ⟨none, none, rfl, s0, upd_same, rfl⟩ (fun i σ H1 _ ⟨_, _, _, s1, _⟩ => Same.seq s1 hl) ?_ ?_⟩
    · rintro i y σ H1 hy ⟨y2, y3, rfl, s1, hN, du1⟩
      rw [List.getElem?_map] at hy
      obtain ⟨t, ht, rfl⟩ := Option.map_eq_some_iff.mp hy
      obtain ⟨qk, hqk, rd, rk⟩ := (ra.same s1).2 i t ht
      have lti := (List.getElem?_eq_some_iff.mp hqk).1
      have tk : ks.take (i + 1) = ks.take i ++ [qk] := by
        rw [List.take_add_one, hqk]
        rfl
      have dk : ks.drop i = qk :: ks.drop (i + 1) := by
        rw [List.drop_eq_getElem_cons lti, (List.getElem?_eq_some_iff.mp hqk).2]
      rw [dk] at du1
      have rl := rsOf_len (ks.take i)
      rw [List.length_take] at rl
      refine ⟨t, _, rfl, .inl rd, rfl, _, _, rfl, _, _, rfl, rfl, ?_⟩
      cases qk with
      | badn d nv rv =>
        obtain ⟨h1, h2, h3, h4⟩ := rk
        refine ⟨nv, rfl, b, g, d, nv, rfl, h1, h4, fun H2 s2 => ?_⟩
        rw [h2]
        exact ⟨_, rfl, iteT ⟨nv, rfl, by show 2 ≤ sizeLine; decide, fun p np => q.ret (dr.one du1) (s1.trans s2) np⟩⟩
      | badr x d rv =>
        obtain ⟨h1, h2, h3⟩ := rk
        refine ⟨.str x, rfl, b, g, .str x, .str x, rfl, rfl, (fun z e => by cases e; have : x.length ≤ 8 := h1.hi; omega), fun H2 s2 => ?_⟩
        rw [show nameD (.str x) = nameZ x from rfl, h1.z]
        have hN2 := s2 _ _ hN
        refine ⟨_, rfl, iteF ⟨.str x, rfl, .ref N, rfl, N, _, rfl, .inl (SqL.of hN2), rfl, flats _, _, rfl, ?_⟩⟩
        have du1 : some (if x ∈ (rsOf (ks.take i)).map (·.1) then Du.twice x else Du.req x) = due1 [] ks := du1
        show if inV (.str x) (((rsOf (ks.take i)).map (·.1)).map V.str) = true then _ else _
        rw [inV_str]
        by_cases m : x ∈ (rsOf (ks.take i)).map (·.1)
        · rw [decide_eq_true m]
          rw [if_pos m] at du1
          exact iteT ⟨.str x, rfl, by show 2 ≤ sizeLine; decide, fun p np => q.ret (dr.one du1) (s1.trans s2) np⟩
        · rw [decide_eq_false m]
          rw [if_neg m] at du1
          refine iteF ⟨rv, rfl, rv, rfl, .inr ⟨rfl, b, g, d, h2.same s2, h3, fun H3 s3 => ⟨_, rfl, iteT ⟨.str x, rfl, by show 2 ≤ sizeLine; decide, fun p np => q.ret (dr.one du1) ((s1.trans s2).trans s3) np⟩⟩⟩⟩
      | ok x r c ps =>
        obtain ⟨h1, h2, xs, h3⟩ := rk
        refine ⟨.str x, rfl, b, g, .str x, .str x, rfl, rfl, (fun z e => by cases e; have : x.length ≤ 8 := h1.hi; omega), fun H2 s2 => ?_⟩
        rw [show nameD (.str x) = nameZ x from rfl, h1.z]
        have hN2 := s2 _ _ hN
        refine ⟨_, rfl, iteF ⟨.str x, rfl, .ref N, rfl, N, _, rfl, .inl (SqL.of hN2), rfl, flats _, _, rfl, ?_⟩⟩
        have du1 : (if x ∈ (rsOf (ks.take i)).map (·.1) then some (Du.twice x) else due1 ((rsOf (ks.take i)).map (·.1) ++ [x]) (ks.drop (i + 1))) = due1 [] ks := du1
        show if inV (.str x) (((rsOf (ks.take i)).map (·.1)).map V.str) = true then _ else _
        rw [inV_str]
        by_cases m : x ∈ (rsOf (ks.take i)).map (·.1)
        · rw [decide_eq_true m]
          rw [if_pos m] at du1
          exact iteT ⟨.str x, rfl, by show 2 ≤ sizeLine; decide, fun p np => q.ret (dr.one du1) (s1.trans s2) np⟩
        · rw [decide_eq_false m]
          rw [if_neg m] at du1
          refine iteF ⟨.ref r, rfl, .ref r, rfl, .inl ⟨r, c, ps, xs, rfl, h2.tups (Same.tups s2), h3, (fun e => by cases e), fun H3 s3 => ⟨_, rfl, iteF ?_⟩⟩⟩
          have hN3 := s3 _ _ hN2
          have s13 := (s1.trans s2).trans s3
          have er : (rsOf (ks.take (i + 1))).map (·.1) = (rsOf (ks.take i)).map (·.1) ++ [x] := by
            rw [tk, rsOf_app, List.map_append]
            rfl
          refine ⟨.ref N, rfl, .inl ⟨rfl, _, SqL.of hN3⟩, .str x, rfl, N, _, .str x, rfl, rfl, hN3, ?_, _, _, rfl, fun d o e => ?_, ?_, ?_⟩
          · rw [List.length_map, List.length_map]
            exact small1000 (by omega)
          · rw [upd_ne (ne_of_none e nN)]
            exact s13 d o e
          · rw [upd_same, er, List.map_append]
            rfl
          · rw [er]
            exact du1
    · rintro σ H1 ⟨y2, y3, rfl, s1, hN, du1⟩
      rw [List.length_map, ra.1, List.take_length] at hN
      rw [List.length_map, ra.1, List.drop_length] at du1
      have du1 : none = due1 [] ks := du1
      obtain ⟨o, un, rfl⟩ := dr.two du1
      have al := ra.inorder du1.symm
      generalize hns : (rsOf ks).map (·.1) = ns at hN un
      have nsl : ns.length ≤ 8 := by
        have := rsOf_len ks
        rw [← hns, List.length_map]
        omega
      refine ⟨.ref l, rfl, l, rfl, ⟨_, Same.seq s1 hl⟩, for_list (K := K) (a := l) (xs := ts.map V.ref) (fun i σ H2 => ∃ y2 y3 y4 : Option V, σ = [some (.ref l), some (.ref N), y2, y3, y4, none] ∧ Same H H2 ∧ H2 N = some (.lst (ns.map V.str)) ∧ Unk ns (ks.drop i) o) ⟨y2, y3, none, rfl, s1, hN, un⟩ (fun i σ H1 _ ⟨_, _, _, _, s1, _⟩ => Same.seq s1 hl) ?_ ?_⟩
      · rintro i y σ H2 hy ⟨z2, z3, z4, rfl, s2, hN2, un2⟩
        rw [List.getElem?_map] at hy
        obtain ⟨t, ht, rfl⟩ := Option.map_eq_some_iff.mp hy
        obtain ⟨qk, hqk, rd, rk⟩ := (ra.same s2).2 i t ht
        have lti := (List.getElem?_eq_some_iff.mp hqk).1
        have dk : ks.drop i = qk :: ks.drop (i + 1) := by
          rw [List.drop_eq_getElem_cons lti, (List.getElem?_eq_some_iff.mp hqk).2]
        rw [dk] at un2
        obtain ⟨x, r, c, ps, rfl, nx, _, xs, va⟩ := al _ (List.mem_of_getElem? hqk)
        have R := rk.2.1
        have un2 := un2.cons
        have few12 := va.nam
        refine ⟨t, _, rfl, .inl rd, rfl, _, _, rfl, _, _, rfl, rfl, ?_⟩
        refine ⟨.ref r, rfl, r, c, ps, rfl, R, trivial, by omega, fun p H3 s3 np hp => ?_⟩
        have hN3 := s3 _ _ hN2
        refine ⟨p, rfl, ⟨_, SqL.of hp⟩, fun D nD => lc_list (K := K) (a := p) (xs := (namesOf ps).map V.str) (fun j H4 => Same H3 H4 ∧ H4 D = some (.lst ((((namesOf ps).take j).filter fun x => decide (x ∉ ns)).map V.str))) ⟨same_new nD, upd_same⟩ (fun j H4 _ h => SqL.of (h.1 _ _ hp)) ?_ ?_⟩
        · rintro j x' H4 hx ⟨s4, hD⟩
          rw [List.getElem?_map] at hx
          obtain ⟨z, hz, rfl⟩ := Option.map_eq_some_iff.mp hx
          have tk : (namesOf ps).take (j + 1) = (namesOf ps).take j ++ [z] := by
            rw [List.take_add_one, hz]
            rfl
          refine ⟨rfl, .str z, rfl, .ref N, rfl, N, _, rfl, .inl (SqL.of (s4 _ _ hN3)), rfl, flats ns, _, rfl, ?_⟩
          rw [inV_str]
          by_cases m : z ∈ ns
          · rw [decide_eq_true m]
            refine iteF ⟨s4, ?_⟩
            rw [hD, tk, List.filter_append]
            simp [m]
          · rw [decide_eq_false m]
            refine iteT ⟨.str z, rfl, _, hD, ?_, fun d o c => ?_, ?_⟩
            · rw [List.length_map]
              refine small1000 (Nat.le_trans (List.length_filter_le _ _) ?_)
              rw [List.length_take]
              omega
            · rw [upd_ne (ne_of_none c nD)]
              exact s4 d o c
            · rw [upd_same, tk, List.filter_append]
              simp [m]
        · rintro H4 ⟨s4, hD⟩
          rw [List.length_map, List.take_length] at hD
          have fl := List.length_filter_le (fun x => decide (x ∉ ns)) (namesOf ps)
          refine ⟨D, _, rfl, SqL.of hD, by omega, fun zs a pm srt na => ?_⟩
          have s5 := same_new (o := .lst (zs.map V.str)) na
          have ha : (upd H4 a (.lst (zs.map V.str))) a = some (.lst (zs.map V.str)) := upd_same
          have s25 := ((s2.trans s3).trans s4).trans s5
          have hN5 := s5 _ _ (s4 _ _ hN3)
          generalize upd H4 a (.lst (zs.map V.str)) = H5 at s5 ha s25 hN5 ⊢
          have mem : ∀ y, y ∈ zs ↔ y ∈ namesOf ps ∧ y ∉ ns := fun y => by
            rw [pm.mem_iff, List.mem_filter]
            simp
          refine ⟨.ref a, rfl, a, _, rfl, .inl (SqL.of ha), _, _, rfl, rfl, _, rfl, ?_⟩
          cases zs with
          | nil =>
            have all : ∀ v ∈ namesOf ps, v ∈ ns := fun v mv => Decidable.byContradiction fun nv => by
              have := (mem v).mpr ⟨mv, nv⟩
              cases this
            refine iteF ⟨_, _, _, rfl, s25, hN5, ?_⟩
            rcases un2 with ⟨u, rfl, l1, l2, l3⟩ | ⟨_, h⟩
            · exact absurd (all u l1) l2
            · exact h
          | cons z0 zs =>
            rw [show decide ((0 : Int) < (((z0 :: zs).map V.str).length : Int)) = true from decide_eq_true (by rw [List.length_map, List.length_cons]; omega)]
            have m0 := (mem z0).mp List.mem_cons_self
            rcases un2 with ⟨u, rfl, l1, l2, l3⟩ | ⟨h, _⟩
            · have eu : u = z0 := by
                have mu := (mem u).mpr ⟨l1, l2⟩
                rcases List.mem_cons.mp mu with e | m
                · exact e
                · exact lt_anti (l3 z0 m0.1 m0.2) ((List.pairwise_cons.mp (sorted_pairs srt)).1 u m)
              subst eu
              exact iteT ⟨.ref a, rfl, a, _, 0, .str u, rfl, rfl, SqL.of ha, atI_nat (j := 0) rfl, by show 2 ≤ sizeLine; decide, fun p2 np2 => q.ret (u := .unk u) rfl s25 np2⟩
            · exact absurd (h z0 m0.1) m0.2
      · rintro σ H2 ⟨z2, z3, z4, rfl, s2, hN2, un2⟩
        rw [List.length_map, ra.1, List.drop_length] at un2
        cases un2
        exact q.1 rfl H2 s2
end
end Moot
/-! The rows of the law: any names, any requirements. -/
namespace Moot
open PySem PySem.Spec PyProof.Rows L2
/-- a name, or a value that is none -/
def NameV (b g : Addr) (H : Hp) (v : V) : Prop := (∃ x, v = .str x ∧ Nm x) ∨ ∃ d, Dv b g H d v ∧ nameD d = false ∧ PyData.canLay0 d = true ∧ PyData.depth d ≤ 8 ∧ ∀ z, d = .str z → z.length ≤ 500
/-- a requirement, or a value that is none -/
def ReqV (b g : Addr) (H : Hp) (v : V) : Prop := (∃ (r : Addr) (c : Int) (ps : List Part), v = .ref r ∧ ReqAt H r c ps ∧ ∃ xs, Valid xs c ps) ∨ ∃ d, Dv b g H d v ∧ BadR d
def RowV (b g : Addr) (H : Hp) (t : Addr) : Prop := ∃ n r, Rd H t (.tup [n, r]) ∧ NameV b g H n ∧ ReqV b g H r
section
variable {b g m : Addr} {H H' : Hp} {n : Nat}
theorem NameV.keep {v : V} (k : Keep b g H H') : NameV b g H v → NameV b g H' v := fun h => h.imp id fun ⟨d, h1, h2⟩ => ⟨d, Dv.keep k d v h1, h2⟩
theorem ReqV.keep {v : V} (B : Box H b g m n) (k : Keep b g H H') : ReqV b g H v → ReqV b g H' v := fun h => h.imp (fun ⟨r, c, ps, e, h1, h2⟩ => ⟨r, c, ps, e, h1.tups (k.tups B), h2⟩) fun ⟨d, h1, h2⟩ => ⟨d, Dv.keep k d v h1, h2⟩
theorem RowV.keep {t : Addr} (B : Box H b g m n) (k : Keep b g H H') : RowV b g H t → RowV b g H' t := fun ⟨x, r, h1, h2, h3⟩ => ⟨x, r, h1.imp ((k.tups B).tup _ _) fun ⟨o, e⟩ => ⟨o, (k.tups B).frz _ _ _ e⟩, h2.keep k, h3.keep B k⟩
theorem low_shaped {d : PyData} (h1 : PyData.canLay0 d = true) (h2 : PyData.depth d ≤ 64) : SeqAt.shaped d = true := by
  unfold SeqAt.shaped
  rw [h1, decide_eq_true h2]
  rfl
def Low (ks : List Rk) : Prop := ∀ d nv rv, Rk.badn d nv rv ∈ ks → PyData.canLay0 d = true ∧ PyData.depth d ≤ 8
theorem row_k {t : Addr} : RowV b g H t → ∃ q : Rk, Rd H t (.tup [q.nv, q.rv]) ∧ RkOk b g H q ∧ ∀ d nv rv, q = .badn d nv rv → PyData.canLay0 d = true ∧ PyData.depth d ≤ 8 := by
  rintro ⟨x, r, h1, ⟨z, rfl, nz⟩ | ⟨d, d1, d2, d3, d4, d5⟩, h3⟩
  · rcases h3 with ⟨r, c, ps, rfl, e1, e2⟩ | ⟨d, e1, e2⟩
    · exact ⟨.ok z r c ps, h1, ⟨nz, e1, e2⟩, fun _ _ _ e => by cases e⟩
    · exact ⟨.badr z d r, h1, ⟨nz, e1, e2⟩, fun _ _ _ e => by cases e⟩
  · exact ⟨.badn d x r, h1, ⟨d1, d2, low_shaped d3 (by omega), d5⟩, fun _ _ _ e => by cases e; exact ⟨d3, d4⟩⟩
theorem rows_k : ∀ {ts : List Addr}, (∀ t ∈ ts, RowV b g H t) → ∃ ks, RowsK b g H ts ks ∧ Low ks
  | [], _ => ⟨[], ⟨rfl, fun i t e => by cases e⟩, fun _ _ _ m => by cases m⟩
  | t :: ts, h => by
    obtain ⟨ks, ⟨e, rk⟩, lo⟩ := rows_k fun u m => h u (List.mem_cons_of_mem _ m)
    obtain ⟨q, h1, h2, h3⟩ := row_k (h t List.mem_cons_self)
    refine ⟨q :: ks, ⟨by rw [List.length_cons, List.length_cons, e], fun i u eu => ?_⟩, fun d nv rv m => ?_⟩
    · cases i with
      | zero =>
        cases eu
        exact ⟨q, rfl, h1, h2⟩
      | succ i => exact rk i u eu
    · rcases List.mem_cons.mp m with e | m
      · exact h3 _ _ _ e.symm
      · exact lo _ _ _ m
end
/-! what is due is there, and is data -/
theorem least_ex : ∀ (l : List Str), l ≠ [] → ∃ u ∈ l, ∀ v ∈ l, ltCps v.cps.toList u.cps.toList = false
  | [], h => absurd rfl h
  | [x], _ => ⟨x, List.mem_cons_self, fun v m => by cases List.mem_singleton.mp m; exact lt_irr x⟩
  | x :: y :: l, _ => by
    obtain ⟨u, mu, hu⟩ := least_ex (y :: l) (fun e => by cases e)
    by_cases c : ltCps x.cps.toList u.cps.toList = true
    · refine ⟨x, List.mem_cons_self, fun v mv => ?_⟩
      rcases List.mem_cons.mp mv with e | mv
      · rw [e]
        exact lt_irr x
      · have ux : ltCps u.cps.toList x.cps.toList = false := by
          rw [ltCps_eq] at c ⊢
          exact decide_eq_false (List.lt_asymm (of_decide_eq_true c))
        exact lt_tr ux (hu v mv)
    · refine ⟨u, List.mem_cons_of_mem _ mu, fun v mv => ?_⟩
      rcases List.mem_cons.mp mv with e | mv
      · rw [e]
        exact (Bool.not_eq_true _).mp c
      · exact hu v mv
theorem unk_ex {H : Hp} (ns : List Str) : ∀ {ks : List Rk}, AllR H ks → ∃ o, Unk ns ks o
  | [], _ => ⟨none, .nil⟩
  | q :: ks, a => by
    obtain ⟨x, r, c, ps, rfl, _⟩ := a q List.mem_cons_self
    by_cases e : (namesOf ps).filter (fun v => decide (v ∉ ns)) = []
    · obtain ⟨o, h⟩ := unk_ex ns a.tail
      refine ⟨o, .skip (fun v mv => Decidable.byContradiction fun nv => ?_) h⟩
      have : v ∈ (namesOf ps).filter (fun v => decide (v ∉ ns)) := List.mem_filter.mpr ⟨mv, decide_eq_true nv⟩
      rw [e] at this
      cases this
    · obtain ⟨u, mu, hu⟩ := least_ex _ e
      obtain ⟨m1, m2⟩ := List.mem_filter.mp mu
      exact ⟨some u, .here ⟨m1, of_decide_eq_true m2, fun v mv nv => hu v (List.mem_filter.mpr ⟨mv, decide_eq_true nv⟩)⟩⟩
theorem due_ex {b g : Addr} {H : Hp} {ts : List Addr} {ks : List Rk} (h : RowsK b g H ts ks) : ∃ du, DueR ks du := by
  cases e : due1 [] ks with
  | some u => exact ⟨some u, .inl ⟨u, e, rfl⟩⟩
  | none =>
    obtain ⟨o, ho⟩ := unk_ex ((rsOf ks).map (·.1)) (h.inorder e)
    exact ⟨o.map Du.unk, .inr ⟨e, o, ho, rfl⟩⟩
theorem due1_data {b g : Addr} {H : Hp} {u : Du} : ∀ {ks : List Rk} {seen : List Str}, (∀ q ∈ ks, RkOk b g H q) → Low ks → due1 seen ks = some u → ∃ d, Dv b g H d u.val ∧ PyData.canLay0 d = true ∧ PyData.depth d ≤ 8
  | [], _, _, _, e => by cases e
  | .badn d nv rv :: ks, _, h, lo, e => by
    cases e
    exact ⟨d, (h _ List.mem_cons_self).1, lo d nv rv List.mem_cons_self⟩
  | .badr x d rv :: ks, seen, h, lo, e => by
    have nx : Nm x := (h _ List.mem_cons_self).1
    have e : some (if x ∈ seen then Du.twice x else Du.req x) = some u := e
    refine ⟨.str x, ?_, nx.ok, Nat.zero_le _⟩
    cases e
    split <;> rfl
  | .ok x r c ps :: ks, seen, h, lo, e => by
    have nx : Nm x := (h _ List.mem_cons_self).1
    have e : (if x ∈ seen then some (Du.twice x) else due1 (seen ++ [x]) ks) = some u := e
    by_cases m : x ∈ seen
    · rw [if_pos m] at e
      cases e
      exact ⟨.str x, rfl, nx.ok, Nat.zero_le _⟩
    · rw [if_neg m] at e
      exact due1_data (fun q mq => h q (List.mem_cons_of_mem _ mq)) (fun d nv rv mq => lo d nv rv (List.mem_cons_of_mem _ mq)) e
theorem unk_data {H : Hp} {ns : List Str} {u : Str} : ∀ {ks : List Rk}, AllR H ks → Unk ns ks (some u) → Nm u
  | [], _, h => by cases h
  | q :: ks, a, h => by
    obtain ⟨x, r, c, ps, rfl, _, _, xs, va⟩ := a q List.mem_cons_self
    rcases h.cons with ⟨v, e, l⟩ | ⟨_, h⟩
    · cases e
      exact va.nm u (va.sub u l.1)
    · exact unk_data a.tail h
theorem due_data {b g : Addr} {H : Hp} {ts : List Addr} {ks : List Rk} {u : Du} (h : RowsK b g H ts ks) (lo : Low ks) (dr : DueR ks (some u)) : ∃ d, Dv b g H d u.val ∧ PyData.canLay0 d = true ∧ PyData.depth d ≤ 8 := by
  rcases dr with ⟨v, h1, e⟩ | ⟨h1, o, un, e⟩
  · cases e
    exact due1_data h.all lo h1
  · cases o with
    | none => cases e
    | some z =>
      cases e
      exact ⟨.str z, rfl, (unk_data (h.inorder h1) un).ok, Nat.zero_le _⟩
end Moot
/-! _law_changed. -/
namespace Moot
open PySem PySem.Spec PyProof.Rows L2
theorem cutD (vs : List V) (i : Nat) : cutV vs (some ((i : Nat) : Int)) none = vs.drop i := by
  unfold cutV
  rw [HT.sIx_none, HT.sIx_nat]
  show (vs.drop (min i vs.length)).take (vs.length - min i vs.length) = _
  rw [List.take_of_length_le (by rw [List.length_drop]; exact Nat.le_refl _), Nat.min_def]
  split
  · rfl
  · rw [List.drop_eq_nil_of_le (Nat.le_refl _), List.drop_eq_nil_of_le (by omega)]
theorem aa_names : ∀ z ∈ ([("a" : Str), "a"]), nameZ z = true := fun z mz => by
  have e : z = "a" := by
    rcases List.mem_cons.mp mz with e | m
    · exact e
    · exact List.mem_singleton.mp m
  rw [e]
  decide +kernel
theorem nowhere_valid {z : Str} (hz : z = "zz" ∨ z = "aa" ∨ z = "b" ∨ z = "m") : Valid [z, "nowhere"] 1 (([z, "nowhere"] : List Str).map Sum.inl) := by
  have nm : ∀ x ∈ ([z, "nowhere"] : List Str), Nm x := fun x mx => by
    rcases List.mem_cons.mp mx with rfl | mx
    · refine nameZ_nm ?_
      rcases hz with rfl | rfl | rfl | rfl <;> decide +kernel
    · cases List.mem_singleton.mp mx
      exact nameZ_nm (by decide +kernel)
  refine names_valid (by show 2 ≤ 8; decide) nm (List.nodup_cons.mpr ⟨fun m => ?_, List.nodup_cons.mpr ⟨(fun m => by cases m), List.nodup_nil⟩⟩) (fun _ m => m) (by decide) (by show (1 : Int) ≤ 2; decide)
  have e := List.mem_singleton.mp m
  rcases hz with rfl | rfl | rfl | rfl <;> exact absurd e (by decide +kernel)
section
variable {P : Program} {w : World} {K : PySem.W.Frag} {mg : Str → Option Value} {base : Heap}
abbrev sCh : Stmt := top 43
abbrev pCh : List Str := ["_law_box_here", "_law_rows_here"]
abbrev nCh : List Str := ["_law_box_here", "_law_rows_here", "_law_at", "_law_name_here", "_law_requirement_here", "_law_way", "_law_bad"]
theorem scCh : FnScope nCh pCh (defScope sCh) := ⟨rfl, rfl, rfl, by decide +kernel, rfl, by decide +kernel, by decide +kernel⟩
def spCh : Sp := fun vs H Q _ => ∃ (b g m l : Addr) (n : Nat) (ts : List Addr), vs = [.ref b, .ref l] ∧ Box H b g m n ∧ n ≤ 900000 ∧ H l = some (.lst (ts.map V.ref)) ∧ l ≠ b ∧ l ≠ g ∧ (∀ t ∈ ts, RowV b g H t) ∧ 1 ≤ ts.length ∧ ts.length ≤ 8 ∧
  ∀ (l' : Addr) (ts' : List Addr) (H' : Hp), H' l' = some (.lst (ts'.map V.ref)) → l' ≠ b → l' ≠ g → (∀ t ∈ ts', RowV b g H' t) → ts'.length ≤ ts.length → Box H' b g m (n + 10) → Keep b g H H' → Q (.ref l') H'
theorem ok_changed {f fT : Addr} {fd fdT : FuncData} {k : Nat} (F : Fun K "_law_changed" "_law_changed" sCh f fd) (T : Bq mg)
    (FT : Fun K "_law_take" "_law_take" sTake fT fdT) (bT : Binds K fdT ["_law_box_here", "_law_size"] []) (gT : mg "_law_take" = some (.ref fT)) (GT : FnOk P w K mg base CX0 k fT fdT ["_law_box_here", "_law_size"] spTake) : FnOk P w K mg base CX0 (k + 1) f fd pCh spCh := by
  refine F.ok scCh (fun vs H Q E h => ?_) (fun cdv A outer s H vs Q E hr h => ?_)
  · obtain ⟨b, g, m, l, n, ts, rfl, _⟩ := h
    rfl
  · obtain ⟨b, g, m, l, n, ts, rfl, B, hn, hl, lb, lg, rows, t1, t8, q⟩ := h
    refine ⟨_, pss_cons (ps_set (i := 2) scCh.nd rfl (Or.inl rfl) (pe_call GT hr (by rfl) gT FT.kp bT .nil pass0 (pa_cons (pv 0) (pa_cons (pe_callB call_len_seq (by rfl) T.T.len PySem.boot_len (pa_cons (pv 1) pa_nil)) pa_nil))))
      (pss_cons (ps_asg (pe_ix ix_list (pv 1) (pv 2) (fun _ _ => rfl)) (pg_tup (by rfl) (pgs_cons (pg_name (i := 3) scCh.nd rfl (Or.inl rfl)) (pgs_cons (pg_name (i := 4) scCh.nd rfl (Or.inl rfl)) pgs_nil))))
      (pss_cons (ps_set (i := 5) scCh.nd rfl (Or.inl rfl) (pe_call GT hr (by rfl) gT FT.kp bT .nil pass0 (pa_cons (pv 0) (pa_cons pe_int pa_nil))))
      (C8.pss_cut (ps_if (pt_cmpR op_eq (pv 5) pe_int (nomark _)) (pss_one (ps_set (i := 3) scCh.nd rfl (Or.inl rfl) (pe_ix ix_list (pe_lst (pa_cons pe_str (pa_cons pe_str (pa_cons pe_str (pa_cons pe_str (pa_cons pe_int (pa_cons pe_non (pa_cons pe_bl (pa_cons (pe_tup (pa_cons pe_str pa_nil)) (pa_cons (pe_lst (pa_cons pe_str pa_nil)) pa_nil)))))))))) (pe_call GT hr (by rfl) gT FT.kp bT .nil pass0 (pa_cons (pv 0) (pa_cons pe_int pa_nil))) (fun _ _ => rfl)))) pss_nil)
      (C8.pss_cut (ps_if (pt_cmpR op_eq (pv 5) pe_int (nomark _)) (pss_one (ps_set (i := 3) scCh.nd rfl (Or.inl rfl) (pe_ix ix_tup (pe_ix ix_list (pv 1) (pe_call GT hr (by rfl) gT FT.kp bT .nil pass0 (pa_cons (pv 0) (pa_cons (pe_callB call_len_seq (by rfl) T.T.len PySem.boot_len (pa_cons (pv 1) pa_nil)) pa_nil))) (fun _ _ => rfl)) pe_int (fun _ _ => rfl)))) pss_nil)
      (C8.pss_cut (ps_if (pt_cmpR op_eq (pv 5) pe_int (nomark _)) (pss_cons (ps_set (i := 6) scCh.nd rfl (Or.inl rfl) (pe_lst (pa_cons pe_non (pa_cons pe_str (pa_cons pe_int (pa_cons (pe_tup pa_nil) (pa_cons (pe_lst (pa_cons pe_int (pa_cons (pe_lst (pa_cons pe_str pa_nil)) pa_nil))) (pa_cons (pe_tup (pa_cons pe_int (pa_cons (pe_tup (pa_cons pe_str pa_nil)) pa_nil))) (pa_cons (pe_tup (pa_cons pe_int (pa_cons (pe_tup (pa_cons pe_str pa_nil)) pa_nil))) (pa_cons (pe_tup (pa_cons pe_int (pa_cons (pe_lst (pa_cons pe_str pa_nil)) pa_nil))) (pa_cons (pe_tup (pa_cons pe_bl (pa_cons (pe_tup (pa_cons pe_str pa_nil)) pa_nil))) (pa_cons (pe_tup (pa_cons pe_int (pa_cons (pe_tup (pa_cons pe_str (pa_cons pe_str pa_nil))) pa_nil))) pa_nil)))))))))))) (pss_one (ps_set (i := 4) scCh.nd rfl (Or.inl rfl) (pe_ix ix_list (pv 6) (pe_call GT hr (by rfl) gT FT.kp bT .nil pass0 (pa_cons (pv 0) (pa_cons pe_int pa_nil))) (fun _ _ => rfl))))) pss_nil)
      (C8.pss_cut (ps_if (pt_cmpR op_eq (pv 5) pe_int (nomark _)) (pss_one (ps_set (i := 4) scCh.nd rfl (Or.inl rfl) (pe_tup (pa_cons pe_int (pa_cons (pe_tup (pa_cons (pe_ix ix_list (pe_lst (pa_cons pe_str (pa_cons pe_str (pa_cons pe_str (pa_cons pe_str pa_nil))))) (pe_call GT hr (by rfl) gT FT.kp bT .nil pass0 (pa_cons (pv 0) (pa_cons pe_int pa_nil))) (fun _ _ => rfl)) (pa_cons pe_str pa_nil))) pa_nil))))) pss_nil)
      (pss_cons (ps_if (pt_cmpR op_eq (pv 5) pe_int (nomark _)) (pss_one (ps_ret (pe_op op_cat (pe_slice sl_list (pv 1) po_none (po_some (pv 2))) (pe_slice sl_list (pv 1) (po_some (pe_op op_add (pv 2) pe_int)) po_none)))) pss_nil)
      (pss_one (ps_ret (pe_op op_cat (pe_op op_cat (pe_slice sl_list (pv 1) po_none (po_some (pv 2))) (pe_lst (pa_cons (pe_tup (pa_cons (pv 3) (pa_cons (pv 4) pa_nil))) pa_nil))) (pe_slice sl_list (pv 1) (po_some (pe_op op_add (pv 2) pe_int)) po_none))))))))))), ?_⟩
    have tl : (ts.map V.ref).length = ts.length := List.length_map ..
    refine ⟨.ref b, rfl, .ref l, rfl, l, _, rfl, .inl (SqL.of hl), b, g, m, n, ((ts.map V.ref).length : Int), rfl, B, by omega, by omega, by omega, fun v H1 a0 a1 B1 K1 => ?_⟩
    obtain ⟨j, rfl⟩ := Int.eq_ofNat_of_zero_le a0
    have j1 : j < ts.length := by omega
    obtain ⟨t0, ht0⟩ : ∃ t, ts[j]? = some t := ⟨ts[j], List.getElem?_eq_getElem j1⟩
    have hl1 := K1 _ _ hl lb lg
    obtain ⟨x0, r0, rd0, nv0, rv0⟩ := (rows t0 (List.mem_of_getElem? ht0)).keep B K1
    refine ⟨.ref l, rfl, .int (j : Int), rfl, l, _, (j : Int), .ref t0, rfl, rfl, SqL.of hl1, atI_nat (by rw [List.getElem?_map, ht0]; rfl), t0, _, rfl, .inl rd0, rfl, _, _, rfl, _, _, rfl, rfl, ?_⟩
    refine ⟨.ref b, rfl, b, g, m, _, 5, rfl, B1, by omega, by decide, by decide, fun way H2 w0 w1 B2 K2 => ?_⟩
    have K12 := K1.trans K2
    have st : ∀ (c : Nat) (H3 : Hp) (nv rv : V) (y6 : Option V), NameV b g H3 nv → ReqV b g H3 rv → Box H3 b g m (n + c) → Keep b g H H3 → (fun c σ H3 => ∃ (nv rv : V) (y6 : Option V), σ = [some (.ref b), some (.ref l), some (.int (j : Int)), some nv, some rv, some (.int way), y6] ∧ NameV b g H3 nv ∧ ReqV b g H3 rv ∧ Box H3 b g m (n + c) ∧ Keep b g H H3) c [some (.ref b), some (.ref l), some (.int (j : Int)), some nv, some rv, some (.int way), y6] H3 := fun c H3 nv rv y6 h1 h2 h3 h4 => ⟨nv, rv, y6, rfl, h1, h2, h3, h4⟩
    refine ⟨fun σ H3 => ∃ (nv rv : V) (y6 : Option V), σ = [some (.ref b), some (.ref l), some (.int (j : Int)), some nv, some rv, some (.int way), y6] ∧ NameV b g H3 nv ∧ ReqV b g H3 rv ∧ Box H3 b g m (n + 3) ∧ Keep b g H H3, ?_, ?_⟩
    · refine ⟨.int way, rfl, rfl, _, rfl, ite2 (fun _ => ?_) (fun _ => st 3 H2 x0 r0 none (nv0.keep K2) (rv0.keep B1 K2) (B2.more (by omega)) K12)⟩
      refine ⟨by show 1 ≤ sizeLine; decide, fun p1 n1 => ?_⟩
      obtain ⟨p1b, p1g, _⟩ := B2.ne n1
      have s1 := same_new (o := .tup [.str "a"]) n1
      have h1 : (upd H2 p1 (.tup [.str "a"])) p1 = some (.tup [.str "a"]) := upd_same
      generalize upd H2 p1 (.tup [.str "a"]) = H3 at s1 h1 ⊢
      have B3 := B2.same s1
      refine ⟨by show 1 ≤ sizeLine; decide, fun p2 n2 => ?_⟩
      obtain ⟨p2b, p2g, _⟩ := B3.ne n2
      have s2 := same_new (o := .lst [.str "a"]) n2
      have h2 : (upd H3 p2 (.lst [.str "a"])) p2 = some (.lst [.str "a"]) := upd_same
      generalize upd H3 p2 (.lst [.str "a"]) = H4 at s2 h2 ⊢
      have B4 := B3.same s2
      refine ⟨by show 9 ≤ sizeLine; decide, fun p3 n3 => ?_⟩
      obtain ⟨p3b, p3g, _⟩ := B4.ne n3
      have s3 := same_new (o := .lst [.str "", .str "A", .str "ninechars", .str "a b", .int 7, .non, .bl true, .ref p1, .ref p2]) n3
      have h3 : (upd H4 p3 (.lst [.str "", .str "A", .str "ninechars", .str "a b", .int 7, .non, .bl true, .ref p1, .ref p2])) p3 = some (.lst [.str "", .str "A", .str "ninechars", .str "a b", .int 7, .non, .bl true, .ref p1, .ref p2]) := upd_same
      generalize upd H4 p3 (.lst [.str "", .str "A", .str "ninechars", .str "a b", .int 7, .non, .bl true, .ref p1, .ref p2]) = H5 at s3 h3 ⊢
      have B5 := B4.same s3
      refine ⟨.ref b, rfl, b, g, m, _, 9, rfl, B5, by omega, by decide, by decide, fun u H6 u0 u1 B6 K6 => ?_⟩
      have h1' : H6 p1 = some (.tup [.str "a"]) := K6 _ _ (s3 _ _ (s2 _ _ h1)) p1b p1g
      have h2' : H6 p2 = some (.lst [.str "a"]) := K6 _ _ (s3 _ _ h2) p2b p2g
      have h3' := K6 _ _ h3 p3b p3g
      have K26 : Keep b g H2 H6 := (Same.keep ((s1.trans s2).trans s3)).trans K6
      have pick : ∃ z, atI [V.str "", .str "A", .str "ninechars", .str "a b", .int 7, .non, .bl true, .ref p1, .ref p2] u = some z ∧ NameV b g H6 z := by
        have c : u = 0 ∨ u = 1 ∨ u = 2 ∨ u = 3 ∨ u = 4 ∨ u = 5 ∨ u = 6 ∨ u = 7 ∨ u = 8 := by omega
        rcases c with rfl | rfl | rfl | rfl | rfl | rfl | rfl | rfl | rfl
        · exact ⟨.str "", rfl, .inr ⟨.str "", rfl, by decide +kernel, by decide +kernel, by decide, fun z e => by cases e; decide +kernel⟩⟩
        · exact ⟨.str "A", rfl, .inr ⟨.str "A", rfl, by decide +kernel, by decide +kernel, by decide, fun z e => by cases e; decide +kernel⟩⟩
        · exact ⟨.str "ninechars", rfl, .inr ⟨.str "ninechars", rfl, by decide +kernel, by decide +kernel, by decide, fun z e => by cases e; decide +kernel⟩⟩
        · exact ⟨.str "a b", rfl, .inr ⟨.str "a b", rfl, by decide +kernel, by decide +kernel, by decide, fun z e => by cases e; decide +kernel⟩⟩
        · exact ⟨.int 7, rfl, .inr ⟨.int 7, rfl, rfl, by decide +kernel, by decide, fun z e => by cases e⟩⟩
        · exact ⟨.non, rfl, .inr ⟨.none, rfl, rfl, by decide +kernel, by decide, fun z e => by cases e⟩⟩
        · exact ⟨.bl true, rfl, .inr ⟨.bool true, rfl, rfl, by decide +kernel, by decide, fun z e => by cases e⟩⟩
        · exact ⟨.ref p1, rfl, .inr ⟨.tuple [.str "a"], ⟨p1, _, rfl, p1b, p1g, h1', .str "a", [], rfl, rfl, rfl⟩, rfl, by decide +kernel, by decide, fun z e => by cases e⟩⟩
        · exact ⟨.ref p2, rfl, .inr ⟨.list [.str "a"], ⟨p2, _, rfl, p2b, p2g, h2', .str "a", [], rfl, rfl, rfl⟩, rfl, by decide +kernel, by decide, fun z e => by cases e⟩⟩
      obtain ⟨z, az, nz⟩ := pick
      exact ⟨p3, _, u, z, rfl, rfl, SqL.of h3', az, st 3 H6 z r0 none nz (rv0.keep B1 (K2.trans K26)) (B6.more (by omega)) (K12.trans K26)⟩
    rintro σ H3 ⟨nv, rv, y6, rfl, hnv, hrv, B3, K3⟩
    refine ⟨fun σ H3 => ∃ (nv rv : V) (y6 : Option V), σ = [some (.ref b), some (.ref l), some (.int (j : Int)), some nv, some rv, some (.int way), y6] ∧ NameV b g H3 nv ∧ ReqV b g H3 rv ∧ Box H3 b g m (n + 4) ∧ Keep b g H H3, ?_, ?_⟩
    · refine ⟨.int way, rfl, rfl, _, rfl, ite2 (fun _ => ?_) (fun _ => st 4 H3 nv rv y6 hnv hrv (B3.more (by omega)) K3)⟩
      refine ⟨.ref l, rfl, .ref b, rfl, .ref l, rfl, l, _, rfl, .inl (SqL.of (K3 _ _ hl lb lg)), b, g, m, _, ((ts.map V.ref).length : Int), rfl, B3, by omega, by omega, by omega, fun u H4 u0 u1 B4 K4 => ?_⟩
      obtain ⟨i, rfl⟩ := Int.eq_ofNat_of_zero_le u0
      have i1 : i < ts.length := by omega
      obtain ⟨t2, ht2⟩ : ∃ t, ts[i]? = some t := ⟨ts[i], List.getElem?_eq_getElem i1⟩
      have K34 := K3.trans K4
      obtain ⟨x2, r2, rd2, nv2, rv2⟩ := (rows t2 (List.mem_of_getElem? ht2)).keep B K34
      exact ⟨l, _, (i : Int), .ref t2, rfl, rfl, SqL.of (K34 _ _ hl lb lg), atI_nat (by rw [List.getElem?_map, ht2]; rfl), t2, _, 0, x2, rfl, rfl, .inl rd2, atI_nat (j := 0) rfl, st 4 H4 x2 rv y6 nv2 (hrv.keep B3 K4) (B4.more (by omega)) K34⟩
    clear hnv hrv B3 K3
    rintro σ H3 ⟨nv, rv, y6, rfl, hnv, hrv, B3, K3⟩
    refine ⟨fun σ H3 => ∃ (nv rv : V) (y6 : Option V), σ = [some (.ref b), some (.ref l), some (.int (j : Int)), some nv, some rv, some (.int way), y6] ∧ NameV b g H3 nv ∧ ReqV b g H3 rv ∧ Box H3 b g m (n + 5) ∧ Keep b g H H3, ?_, ?_⟩
    · refine ⟨.int way, rfl, rfl, _, rfl, ite2 (fun _ => ?_) (fun _ => st 5 H3 nv rv y6 hnv hrv (B3.more (by omega)) K3)⟩
      refine ⟨by show 0 ≤ sizeLine; decide, fun e0 ne0 => ?_⟩
      obtain ⟨e0b, e0g, _⟩ := B3.ne ne0
      have se0 := same_new (o := .tup []) ne0
      have he0 : (upd H3 e0 (.tup [])) e0 = some (.tup []) := upd_same
      generalize upd H3 e0 (.tup []) = G0 at se0 he0 ⊢
      have Be0 := B3.same se0
      refine ⟨by show 1 ≤ sizeLine; decide, fun e1 ne1 => ?_⟩
      obtain ⟨e1b, e1g, _⟩ := Be0.ne ne1
      have se1 := same_new (o := .lst [.str "a"]) ne1
      have he1 : (upd G0 e1 (.lst [.str "a"])) e1 = some (.lst [.str "a"]) := upd_same
      generalize upd G0 e1 (.lst [.str "a"]) = G1 at se1 he1 ⊢
      have Be1 := Be0.same se1
      refine ⟨by show 2 ≤ sizeLine; decide, fun e2 ne2 => ?_⟩
      obtain ⟨e2b, e2g, _⟩ := Be1.ne ne2
      have se2 := same_new (o := .lst [.int 1, .ref e1]) ne2
      have he2 : (upd G1 e2 (.lst [.int 1, .ref e1])) e2 = some (.lst [.int 1, .ref e1]) := upd_same
      generalize upd G1 e2 (.lst [.int 1, .ref e1]) = G2 at se2 he2 ⊢
      have Be2 := Be1.same se2
      refine ⟨by show 1 ≤ sizeLine; decide, fun e3 ne3 => ?_⟩
      obtain ⟨e3b, e3g, _⟩ := Be2.ne ne3
      have se3 := same_new (o := .tup [.str "a"]) ne3
      have he3 : (upd G2 e3 (.tup [.str "a"])) e3 = some (.tup [.str "a"]) := upd_same
      generalize upd G2 e3 (.tup [.str "a"]) = G3 at se3 he3 ⊢
      have Be3 := Be2.same se3
      refine ⟨by show 2 ≤ sizeLine; decide, fun e4 ne4 => ?_⟩
      obtain ⟨e4b, e4g, _⟩ := Be3.ne ne4
      have se4 := same_new (o := .tup [.int 0, .ref e3]) ne4
      have he4 : (upd G3 e4 (.tup [.int 0, .ref e3])) e4 = some (.tup [.int 0, .ref e3]) := upd_same
      generalize upd G3 e4 (.tup [.int 0, .ref e3]) = G4 at se4 he4 ⊢
      have Be4 := Be3.same se4
      refine ⟨by show 1 ≤ sizeLine; decide, fun e5 ne5 => ?_⟩
      obtain ⟨e5b, e5g, _⟩ := Be4.ne ne5
      have se5 := same_new (o := .tup [.str "a"]) ne5
      have he5 : (upd G4 e5 (.tup [.str "a"])) e5 = some (.tup [.str "a"]) := upd_same
      generalize upd G4 e5 (.tup [.str "a"]) = G5 at se5 he5 ⊢
      have Be5 := Be4.same se5
      refine ⟨by show 2 ≤ sizeLine; decide, fun e6 ne6 => ?_⟩
      obtain ⟨e6b, e6g, _⟩ := Be5.ne ne6
      have se6 := same_new (o := .tup [.int 2, .ref e5]) ne6
      have he6 : (upd G5 e6 (.tup [.int 2, .ref e5])) e6 = some (.tup [.int 2, .ref e5]) := upd_same
      generalize upd G5 e6 (.tup [.int 2, .ref e5]) = G6 at se6 he6 ⊢
      have Be6 := Be5.same se6
      refine ⟨by show 1 ≤ sizeLine; decide, fun e7 ne7 => ?_⟩
      obtain ⟨e7b, e7g, _⟩ := Be6.ne ne7
      have se7 := same_new (o := .lst [.str "a"]) ne7
      have he7 : (upd G6 e7 (.lst [.str "a"])) e7 = some (.lst [.str "a"]) := upd_same
      generalize upd G6 e7 (.lst [.str "a"]) = G7 at se7 he7 ⊢
      have Be7 := Be6.same se7
      refine ⟨by show 2 ≤ sizeLine; decide, fun e8 ne8 => ?_⟩
      obtain ⟨e8b, e8g, _⟩ := Be7.ne ne8
      have se8 := same_new (o := .tup [.int 1, .ref e7]) ne8
      have he8 : (upd G7 e8 (.tup [.int 1, .ref e7])) e8 = some (.tup [.int 1, .ref e7]) := upd_same
      generalize upd G7 e8 (.tup [.int 1, .ref e7]) = G8 at se8 he8 ⊢
      have Be8 := Be7.same se8
      refine ⟨by show 1 ≤ sizeLine; decide, fun e9 ne9 => ?_⟩
      obtain ⟨e9b, e9g, _⟩ := Be8.ne ne9
      have se9 := same_new (o := .tup [.str "a"]) ne9
      have he9 : (upd G8 e9 (.tup [.str "a"])) e9 = some (.tup [.str "a"]) := upd_same
      generalize upd G8 e9 (.tup [.str "a"]) = G9 at se9 he9 ⊢
      have Be9 := Be8.same se9
      refine ⟨by show 2 ≤ sizeLine; decide, fun e10 ne10 => ?_⟩
      obtain ⟨e10b, e10g, _⟩ := Be9.ne ne10
      have se10 := same_new (o := .tup [.bl true, .ref e9]) ne10
      have he10 : (upd G9 e10 (.tup [.bl true, .ref e9])) e10 = some (.tup [.bl true, .ref e9]) := upd_same
      generalize upd G9 e10 (.tup [.bl true, .ref e9]) = G10 at se10 he10 ⊢
      have Be10 := Be9.same se10
      refine ⟨by show 2 ≤ sizeLine; decide, fun e11 ne11 => ?_⟩
      obtain ⟨e11b, e11g, _⟩ := Be10.ne ne11
      have se11 := same_new (o := .tup [.str "a", .str "a"]) ne11
      have he11 : (upd G10 e11 (.tup [.str "a", .str "a"])) e11 = some (.tup [.str "a", .str "a"]) := upd_same
      generalize upd G10 e11 (.tup [.str "a", .str "a"]) = G11 at se11 he11 ⊢
      have Be11 := Be10.same se11
      refine ⟨by show 2 ≤ sizeLine; decide, fun e12 ne12 => ?_⟩
      obtain ⟨e12b, e12g, _⟩ := Be11.ne ne12
      have se12 := same_new (o := .tup [.int 1, .ref e11]) ne12
      have he12 : (upd G11 e12 (.tup [.int 1, .ref e11])) e12 = some (.tup [.int 1, .ref e11]) := upd_same
      generalize upd G11 e12 (.tup [.int 1, .ref e11]) = G12 at se12 he12 ⊢
      have Be12 := Be11.same se12
      refine ⟨by show 10 ≤ sizeLine; decide, fun e13 ne13 => ?_⟩
      obtain ⟨e13b, e13g, _⟩ := Be12.ne ne13
      have se13 := same_new (o := .lst [.non, .str "a", .int 3, .ref e0, .ref e2, .ref e4, .ref e6, .ref e8, .ref e10, .ref e12]) ne13
      have he13 : (upd G12 e13 (.lst [.non, .str "a", .int 3, .ref e0, .ref e2, .ref e4, .ref e6, .ref e8, .ref e10, .ref e12])) e13 = some (.lst [.non, .str "a", .int 3, .ref e0, .ref e2, .ref e4, .ref e6, .ref e8, .ref e10, .ref e12]) := upd_same
      generalize upd G12 e13 (.lst [.non, .str "a", .int 3, .ref e0, .ref e2, .ref e4, .ref e6, .ref e8, .ref e10, .ref e12]) = G13 at se13 he13 ⊢
      have Be13 := Be12.same se13
      have u13 : Same G13 G13 := fun _ _ z => z
      have u12 : Same G12 G13 := se13.trans u13
      have u11 : Same G11 G13 := se12.trans u12
      have u10 : Same G10 G13 := se11.trans u11
      have u9 : Same G9 G13 := se10.trans u10
      have u8 : Same G8 G13 := se9.trans u9
      have u7 : Same G7 G13 := se8.trans u8
      have u6 : Same G6 G13 := se7.trans u7
      have u5 : Same G5 G13 := se6.trans u6
      have u4 : Same G4 G13 := se5.trans u5
      have u3 : Same G3 G13 := se4.trans u4
      have u2 : Same G2 G13 := se3.trans u3
      have u1 : Same G1 G13 := se2.trans u2
      have u0 : Same G0 G13 := se1.trans u1
      have uA : Same H3 G13 := se0.trans u0
      refine ⟨.ref e13, rfl, .ref b, rfl, b, g, m, _, 10, rfl, Be13, by omega, by decide, by decide, fun u H5 c0 c1 B5 K5 => ?_⟩
      have k0 := K5 _ _ (u0 _ _ he0) e0b e0g
      have k1 := K5 _ _ (u1 _ _ he1) e1b e1g
      have k2 := K5 _ _ (u2 _ _ he2) e2b e2g
      have k3 := K5 _ _ (u3 _ _ he3) e3b e3g
      have k4 := K5 _ _ (u4 _ _ he4) e4b e4g
      have k5 := K5 _ _ (u5 _ _ he5) e5b e5g
      have k6 := K5 _ _ (u6 _ _ he6) e6b e6g
      have k7 := K5 _ _ (u7 _ _ he7) e7b e7g
      have k8 := K5 _ _ (u8 _ _ he8) e8b e8g
      have k9 := K5 _ _ (u9 _ _ he9) e9b e9g
      have k10 := K5 _ _ (u10 _ _ he10) e10b e10g
      have k11 := K5 _ _ (u11 _ _ he11) e11b e11g
      have k12 := K5 _ _ (u12 _ _ he12) e12b e12g
      have k13 := K5 _ _ (u13 _ _ he13) e13b e13g
      have K35 : Keep b g H3 H5 := (Same.keep uA).trans K5
      have pick : ∃ z, atI [.non, .str "a", .int 3, .ref e0, .ref e2, .ref e4, .ref e6, .ref e8, .ref e10, .ref e12] u = some z ∧ ReqV b g H5 z := by
        have c : u = 0 ∨ u = 1 ∨ u = 2 ∨ u = 3 ∨ u = 4 ∨ u = 5 ∨ u = 6 ∨ u = 7 ∨ u = 8 ∨ u = 9 := by omega
        rcases c with rfl | rfl | rfl | rfl | rfl | rfl | rfl | rfl | rfl | rfl
        · exact ⟨.non, rfl, .inr ⟨.none, rfl, .inl rfl⟩⟩
        · exact ⟨.str "a", rfl, .inr ⟨.str "a", rfl, .inl rfl⟩⟩
        · exact ⟨.int 3, rfl, .inr ⟨.int 3, rfl, .inl rfl⟩⟩
        · exact ⟨.ref e0, rfl, .inr ⟨.tuple [], ⟨e0, _, rfl, e0b, e0g, k0, rfl⟩, .inl rfl⟩⟩
        · exact ⟨.ref e2, rfl, .inr ⟨.list [.int 1, .list [.str "a"]], ⟨e2, _, rfl, e2b, e2g, k2, .int 1, _, rfl, rfl, .ref e1, [], rfl, ⟨e1, _, rfl, e1b, e1g, k1, .str "a", [], rfl, rfl, rfl⟩, rfl⟩, .inl rfl⟩⟩
        · exact ⟨.ref e4, rfl, .inr ⟨.tuple [.int 0, .tuple [.str "a"]], ⟨e4, _, rfl, e4b, e4g, k4, .int 0, _, rfl, rfl, .ref e3, [], rfl, ⟨e3, _, rfl, e3b, e3g, k3, .str "a", [], rfl, rfl, rfl⟩, rfl⟩, .inl (by decide +kernel)⟩⟩
        · exact ⟨.ref e6, rfl, .inr ⟨.tuple [.int 2, .tuple [.str "a"]], ⟨e6, _, rfl, e6b, e6g, k6, .int 2, _, rfl, rfl, .ref e5, [], rfl, ⟨e5, _, rfl, e5b, e5g, k5, .str "a", [], rfl, rfl, rfl⟩, rfl⟩, .inl (by decide +kernel)⟩⟩
        · exact ⟨.ref e8, rfl, .inr ⟨.tuple [.int 1, .list [.str "a"]], ⟨e8, _, rfl, e8b, e8g, k8, .int 1, _, rfl, rfl, .ref e7, [], rfl, ⟨e7, _, rfl, e7b, e7g, k7, .str "a", [], rfl, rfl, rfl⟩, rfl⟩, .inl rfl⟩⟩
        · exact ⟨.ref e10, rfl, .inr ⟨.tuple [.bool true, .tuple [.str "a"]], ⟨e10, _, rfl, e10b, e10g, k10, .bl true, _, rfl, rfl, .ref e9, [], rfl, ⟨e9, _, rfl, e9b, e9g, k9, .str "a", [], rfl, rfl, rfl⟩, rfl⟩, .inl rfl⟩⟩
        · exact ⟨.ref e12, rfl, .inr ⟨.tuple [.int 1, .tuple (([("a" : Str), "a"]).map PyData.str)], ⟨e12, _, rfl, e12b, e12g, k12, .int 1, _, rfl, rfl, .ref e11, [], rfl, ⟨e11, _, rfl, e11b, e11g, k11, DvAll.strs [("a" : Str), "a"]⟩, rfl⟩, .inr ⟨1, ["a", "a"], rfl, by decide, by decide, aa_names, (fun nd => (List.nodup_cons.mp nd).1 List.mem_cons_self), by decide⟩⟩⟩
      obtain ⟨z, az, rz⟩ := pick
      exact ⟨e13, _, u, z, rfl, rfl, SqL.of k13, az, st 5 H5 nv z (some (.ref e13)) (hnv.keep K35) rz (B5.more (by omega)) (K3.trans K35)⟩
    clear hnv hrv B3 K3
    rintro σ H3 ⟨nv, rv, y6, rfl, hnv, hrv, B3, K3⟩
    refine ⟨fun σ H3 => ∃ (nv rv : V) (y6 : Option V), σ = [some (.ref b), some (.ref l), some (.int (j : Int)), some nv, some rv, some (.int way), y6] ∧ NameV b g H3 nv ∧ ReqV b g H3 rv ∧ Box H3 b g m (n + 6) ∧ Keep b g H H3, ?_, ?_⟩
    · refine ⟨.int way, rfl, rfl, _, rfl, ite2 (fun _ => ?_) (fun _ => st 6 H3 nv rv y6 hnv hrv (B3.more (by omega)) K3)⟩
      refine ⟨by show 4 ≤ sizeLine; decide, fun p1 n1 => ?_⟩
      obtain ⟨p1b, p1g, _⟩ := B3.ne n1
      have s1 := same_new (o := .lst [.str "zz", .str "aa", .str "b", .str "m"]) n1
      have h1 : (upd H3 p1 (.lst [.str "zz", .str "aa", .str "b", .str "m"])) p1 = some (.lst [.str "zz", .str "aa", .str "b", .str "m"]) := upd_same
      generalize upd H3 p1 (.lst [.str "zz", .str "aa", .str "b", .str "m"]) = H4 at s1 h1 ⊢
      have B4 := B3.same s1
      refine ⟨.ref b, rfl, b, g, m, _, 4, rfl, B4, by omega, by decide, by decide, fun u H5 u0 u1 B5 K5 => ?_⟩
      have h1' := K5 _ _ h1 p1b p1g
      have pick : ∃ z : Str, atI [V.str "zz", .str "aa", .str "b", .str "m"] u = some (.str z) ∧ (z = "zz" ∨ z = "aa" ∨ z = "b" ∨ z = "m") := by
        have c : u = 0 ∨ u = 1 ∨ u = 2 ∨ u = 3 := by omega
        rcases c with rfl | rfl | rfl | rfl
        · exact ⟨"zz", rfl, .inl rfl⟩
        · exact ⟨"aa", rfl, .inr (.inl rfl)⟩
        · exact ⟨"b", rfl, .inr (.inr (.inl rfl))⟩
        · exact ⟨"m", rfl, .inr (.inr (.inr rfl))⟩
      obtain ⟨z, az, hz⟩ := pick
      refine ⟨p1, _, u, .str z, rfl, rfl, SqL.of h1', az, by show 2 ≤ sizeLine; decide, fun p2 n2 => ?_⟩
      have s2 := same_new (o := .tup [.str z, .str "nowhere"]) n2
      have h2 : (upd H5 p2 (.tup [.str z, .str "nowhere"])) p2 = some (.tup [.str z, .str "nowhere"]) := upd_same
      generalize upd H5 p2 (.tup [.str z, .str "nowhere"]) = H6 at s2 h2 ⊢
      refine ⟨by show 2 ≤ sizeLine; decide, fun p3 n3 => ?_⟩
      have s3 := same_new (o := .tup [.int 1, .ref p2]) n3
      have h3 : (upd H6 p3 (.tup [.int 1, .ref p2])) p3 = some (.tup [.int 1, .ref p2]) := upd_same
      generalize upd H6 p3 (.tup [.int 1, .ref p2]) = H7 at s3 h3 ⊢
      have s23 := s2.trans s3
      have K37 : Keep b g H3 H7 := ((Same.keep s1).trans K5).trans (Same.keep s23)
      have va := nowhere_valid hz
      exact st 6 H7 nv (.ref p3) y6 (hnv.keep K37) (.inl ⟨p3, 1, ([z, "nowhere"] : List Str).map Sum.inl, rfl, ⟨p2, ([z, "nowhere"] : List Str).map V.str, h3, .inr ⟨s3 _ _ h2, [z, "nowhere"], rfl⟩, Parts.names [z, "nowhere"]⟩, [z, "nowhere"], va⟩) ((B5.same s23).more (by omega)) (K3.trans K37)
    clear hnv hrv B3 K3
    rintro σ H3 ⟨nv, rv, y6, rfl, hnv, hrv, B3, K3⟩
    have hl3 := K3 _ _ hl lb lg
    have ek : ((j : Int) + 1) = ((j + 1 : Nat) : Int) := by omega
    have rows3 : ∀ t ∈ ts, RowV b g H3 t := fun t mt => (rows t mt).keep B K3
    refine ⟨.int way, rfl, rfl, _, rfl, ite2 (fun _ => ?_) (fun _ => ?_)⟩
    · refine ⟨.ref l, rfl, .int (j : Int), rfl, (j : Int), rfl, l, _, rfl, SqL.of hl3, fun a1 na1 => ?_⟩
      rw [cutI, ← List.map_take]
      have s1 := same_new (o := .lst ((ts.take j).map V.ref)) na1
      have h1 : (upd H3 a1 (.lst ((ts.take j).map V.ref))) a1 = some (.lst ((ts.take j).map V.ref)) := upd_same
      generalize upd H3 a1 (.lst ((ts.take j).map V.ref)) = H4 at s1 h1 ⊢
      refine ⟨.ref l, rfl, .int (j : Int), rfl, _, _, rfl, rfl, (j : Int) + 1, rfl, l, _, rfl, SqL.of (s1 _ _ hl3), fun a2 na2 => ?_⟩
      rw [ek, cutD, ← List.map_drop]
      have s2 := same_new (o := .lst ((ts.drop (j + 1)).map V.ref)) na2
      have h2 : (upd H4 a2 (.lst ((ts.drop (j + 1)).map V.ref))) a2 = some (.lst ((ts.drop (j + 1)).map V.ref)) := upd_same
      generalize upd H4 a2 (.lst ((ts.drop (j + 1)).map V.ref)) = H5 at s2 h2 ⊢
      have B5 := B3.same (s1.trans s2)
      refine ⟨a1, a2, _, _, rfl, rfl, s2 _ _ h1, h2, ?_, fun p np => ?_⟩
      · rw [List.length_map, List.length_map, List.length_take, List.length_drop]
        exact Nat.le_of_lt (small1000 (by omega))
      · obtain ⟨pb, pg, _⟩ := B5.ne np
        rw [← List.map_append]
        have s := (s1.trans s2).trans (same_new (o := .lst ((ts.take j ++ ts.drop (j + 1)).map V.ref)) np)
        refine q p (ts.take j ++ ts.drop (j + 1)) _ upd_same pb pg (fun t mt => (rows3 t ?_).keep B3 (Same.keep s)) ?_ ((B3.same s).more (by omega)) (K3.trans (Same.keep s))
        · rcases List.mem_append.mp mt with h | h
          · exact List.mem_of_mem_take h
          · exact List.mem_of_mem_drop h
        · rw [List.length_append, List.length_take, List.length_drop]
          omega
    · refine ⟨.ref l, rfl, .int (j : Int), rfl, (j : Int), rfl, l, _, rfl, SqL.of hl3, fun a1 na1 => ?_⟩
      rw [cutI, ← List.map_take]
      have s1 := same_new (o := .lst ((ts.take j).map V.ref)) na1
      have h1 : (upd H3 a1 (.lst ((ts.take j).map V.ref))) a1 = some (.lst ((ts.take j).map V.ref)) := upd_same
      generalize upd H3 a1 (.lst ((ts.take j).map V.ref)) = H4 at s1 h1 ⊢
      refine ⟨nv, rfl, rv, rfl, by show 2 ≤ sizeLine; decide, fun t nt => ?_⟩
      have s2 := same_new (o := .tup [nv, rv]) nt
      have h2 : (upd H4 t (.tup [nv, rv])) t = some (.tup [nv, rv]) := upd_same
      generalize upd H4 t (.tup [nv, rv]) = H5 at s2 h2 ⊢
      refine ⟨by show 1 ≤ sizeLine; decide, fun a2 na2 => ?_⟩
      have s3 := same_new (o := .lst [.ref t]) na2
      have h3 : (upd H5 a2 (.lst [.ref t])) a2 = some (.lst [.ref t]) := upd_same
      generalize upd H5 a2 (.lst [.ref t]) = H6 at s3 h3 ⊢
      refine ⟨a1, a2, _, _, rfl, rfl, s3 _ _ (s2 _ _ h1), h3, ?_, fun a3 na3 => ?_⟩
      · rw [List.length_map, List.length_take, List.length_singleton]
        exact Nat.le_of_lt (small1000 (by omega))
      have s4 := same_new (o := .lst ((ts.take j).map V.ref ++ [.ref t])) na3
      have h4 : (upd H6 a3 (.lst ((ts.take j).map V.ref ++ [.ref t]))) a3 = some (.lst ((ts.take j).map V.ref ++ [.ref t])) := upd_same
      generalize upd H6 a3 (.lst ((ts.take j).map V.ref ++ [.ref t])) = H7 at s4 h4 ⊢
      have s14 := ((s1.trans s2).trans s3).trans s4
      refine ⟨.ref l, rfl, .int (j : Int), rfl, _, _, rfl, rfl, (j : Int) + 1, rfl, l, _, rfl, SqL.of (s14 _ _ hl3), fun a4 na4 => ?_⟩
      rw [ek, cutD, ← List.map_drop]
      have s5 := same_new (o := .lst ((ts.drop (j + 1)).map V.ref)) na4
      have h5 : (upd H7 a4 (.lst ((ts.drop (j + 1)).map V.ref))) a4 = some (.lst ((ts.drop (j + 1)).map V.ref)) := upd_same
      generalize upd H7 a4 (.lst ((ts.drop (j + 1)).map V.ref)) = H8 at s5 h5 ⊢
      have s15 := s14.trans s5
      have B8 := B3.same s15
      refine ⟨a3, a4, _, _, rfl, rfl, s5 _ _ h4, h5, ?_, fun p np => ?_⟩
      · rw [List.length_append, List.length_map, List.length_map, List.length_take, List.length_drop, List.length_singleton]
        exact Nat.le_of_lt (small1000 (by omega))
      · obtain ⟨pb, pg, _⟩ := B8.ne np
        have ee : (ts.take j).map V.ref ++ [.ref t] ++ (ts.drop (j + 1)).map V.ref = (ts.take j ++ [t] ++ ts.drop (j + 1)).map V.ref := by
          rw [List.map_append, List.map_append]
          rfl
        rw [ee]
        have s6 := same_new (o := .lst ((ts.take j ++ [t] ++ ts.drop (j + 1)).map V.ref)) np
        have s := s15.trans s6
        have tt := s6 _ _ (s5 _ _ (s4 _ _ (s3 _ _ h2)))
        refine q p (ts.take j ++ [t] ++ ts.drop (j + 1)) _ upd_same pb pg (fun u mu => ?_) ?_ ((B3.same s).more (by omega)) (K3.trans (Same.keep s))
        · rcases List.mem_append.mp mu with h | h
          · rcases List.mem_append.mp h with h | h
            · exact (rows3 u (List.mem_of_mem_take h)).keep B3 (Same.keep s)
            · cases List.mem_singleton.mp h
              exact ⟨nv, rv, .inl tt, hnv.keep (Same.keep s), hrv.keep B3 (Same.keep s)⟩
          · exact (rows3 u (List.mem_of_mem_drop h)).keep B3 (Same.keep s)
        · rw [List.length_append, List.length_append, List.length_take, List.length_drop, List.length_singleton]
          omega
end
end Moot
/-! The law. -/
namespace Moot
open PySem PySem.Spec PyProof.Rows L2
/-- the value of a due one -/
def Sh (du : Option Du) (H : Hp) (v : V) : Prop := (du = none ∧ v = .non) ∨ ∃ u p, du = some u ∧ v = .ref p ∧ H p = some (.tup [.str u.word, u.val])
theorem Sh.same {du : Option Du} {H H' : Hp} {v : V} (h : Sh du H v) (s : Same H H') : Sh du H' v := h.imp id fun ⟨u, p, e1, e2, e3⟩ => ⟨u, p, e1, e2, s _ _ e3⟩
theorem DuV.of {du : Option Du} {Q : VK} {H : Hp} (h : ∀ v H', Same H H' → Sh du H' v → Q v H') : DuV du Q H := ⟨fun e H' s => h _ _ s (.inl ⟨e, rfl⟩), fun u e p H' s hp => h _ _ s (.inr ⟨u, p, e, rfl, hp⟩)⟩
theorem word_ok : ∀ u : Du, PyData.strOk u.word = true
  | .name _ => (by decide +kernel : PyData.strOk "name" = true)
  | .twice _ => (by decide +kernel : PyData.strOk "twice" = true)
  | .req _ => (by decide +kernel : PyData.strOk "requirement" = true)
  | .unk _ => (by decide +kernel : PyData.strOk "unknown" = true)
theorem kit_bool {K : PySem.W.Frag} : ∀ {d : PyData}, ∃ r : Bool, PySem.W.kitOne K (tyD d) (.type "bool") = some r
  | .none => ⟨false, kit_ty (by decide +kernel)⟩
  | .bool _ => ⟨true, kit_ty (by decide +kernel)⟩
  | .int _ => ⟨false, kit_ty (by decide +kernel)⟩
  | .str _ => ⟨false, kit_ty (by decide +kernel)⟩
  | .list _ => ⟨false, kit_ty (by decide +kernel)⟩
  | .tuple _ => ⟨false, kit_ty (by decide +kernel)⟩
  | .dict _ => ⟨false, kit_ty (by decide +kernel)⟩
section
variable {P : Program} {w : World} {K : PySem.W.Frag} {mg : Str → Option Value} {base : Heap}
abbrev sLaw : Stmt := top 45
abbrev nLaw : List Str := ["_law_script", "_law_box_here", "_law_turn", "_law_rows_here", "_law_k", "_law_due_here", "_law_again", "_law_found"]
theorem scLaw : FnScope nLaw ["_law_script"] (defScope sLaw) := ⟨rfl, rfl, rfl, by decide +kernel, rfl, by decide +kernel, by decide +kernel⟩
def spLaw (K : PySem.W.Frag) : Sp := fun vs H Q _ => ∃ (a : Addr) (ns : List Int), vs = [.ref a] ∧ SqL K H a (ns.map V.int) ∧ ns.length ≤ 63 ∧ ∀ H', Q (.bl true) H'
theorem ok_law {f f1 fT f3 f4 f5 f6 : Addr} {fd fd1 fdT fd3 fd4 fd5 fd6 : FuncData} {k : Nat} (F : Fun K "law" "law" sLaw f fd) (T : Bq mg)
    (F1 : Fun K "_law_box" "_law_box" sBox f1 fd1) (b1 : Binds K fd1 ["_law_script"] []) (g1 : mg "_law_box" = some (.ref f1)) (G1 : FnOk P w K mg base CX0 k f1 fd1 ["_law_script"] (spBox K))
    (FT : Fun K "_law_take" "_law_take" sTake fT fdT) (bT : Binds K fdT ["_law_box_here", "_law_size"] []) (gT : mg "_law_take" = some (.ref fT)) (GT : FnOk P w K mg base CX0 k fT fdT ["_law_box_here", "_law_size"] spTake)
    (F3 : Fun K "_law_rows" "_law_rows" sRows f3 fd3) (b3 : Binds K fd3 ["_law_box_here", "_law_most"] []) (g3 : mg "_law_rows" = some (.ref f3)) (G3 : FnOk P w K mg base CX0 k f3 fd3 ["_law_box_here", "_law_most"] spRows)
    (F4 : Fun K "_law_changed" "_law_changed" sCh f4 fd4) (b4 : Binds K fd4 pCh []) (g4 : mg "_law_changed" = some (.ref f4)) (G4 : FnOk P w K mg base CX0 k f4 fd4 pCh spCh)
    (F5 : Fun K "_law_due" "_law_due" sDu f5 fd5) (b5 : Binds K fd5 ["_law_rows_here"] []) (g5 : mg "_law_due" = some (.ref f5)) (G5 : FnOk P w K mg base CX0 k f5 fd5 ["_law_rows_here"] (spDu K))
    (F6 : Fun K "_law_made" "_law_made" sMa f6 fd6) (b6 : Binds K fd6 ["_law_rows_here"] []) (g6 : mg "_law_made" = some (.ref f6)) (G6 : FnOk P w K mg base CX0 k f6 fd6 ["_law_rows_here"] (spMa K)) : FnOk P w K mg base CX0 (k + 1) f fd ["_law_script"] (spLaw K) := by
  refine F.ok scLaw (fun vs H Q E h => ?_) (fun cdv A outer s H vs Q E hr h => ?_)
  · obtain ⟨a, ns, rfl, _⟩ := h
    rfl
  · obtain ⟨a, ns, rfl, hS, len, q⟩ := h
    refine ⟨_, pss_cons (ps_set (i := 1) scLaw.nd rfl (Or.inl rfl) (pe_call G1 hr (by rfl) g1 F1.kp b1 .nil pass0 (pa_cons (pv 0) pa_nil)))
      (pss_cons (ps_for PassesOwn.never rfl (pi_range1 rfl T.T.rng (pa_cons pe_int pa_nil)) (pg_name (i := 2) scLaw.nd rfl (Or.inl rfl))
        (pss_cons (ps_set (i := 3) scLaw.nd rfl (Or.inl rfl) (pe_call G3 hr (by rfl) g3 F3.kp b3 .nil pass0 (pa_cons (pv 1) (pa_cons pe_int pa_nil))))
        (pss_cons (ps_for PassesOwn.never rfl (pi_range1 rfl T.T.rng (pa_cons (pe_call GT hr (by rfl) gT FT.kp bT .nil pass0 (pa_cons (pv 1) (pa_cons pe_int pa_nil))) pa_nil)) (pg_name (i := 4) scLaw.nd rfl (Or.inl rfl))
          (pss_one (ps_if (pt_cmpR op_gt (pe_callB call_len_seq (by rfl) T.T.len PySem.boot_len (pa_cons (pv 3) pa_nil)) pe_int (nomark _)) (pss_one (ps_set (i := 3) scLaw.nd rfl (Or.inl rfl) (pe_call G4 hr (by rfl) g4 F4.kp b4 .nil pass0 (pa_cons (pv 1) (pa_cons (pv 3) pa_nil))))) pss_nil)))
        (pss_cons (ps_set (i := 5) scLaw.nd rfl (Or.inl rfl) (pe_call G5 hr (by rfl) g5 F5.kp b5 .nil pass0 (pa_cons (pv 3) pa_nil)))
        (pss_one (ps_for PassesOwn.never rfl (pi_range1 rfl T.T.rng (pa_cons pe_int pa_nil)) (pg_name (i := 6) scLaw.nd rfl (Or.inl rfl))
          (pss_cons (ps_set (i := 7) scLaw.nd rfl (Or.inl rfl) (pe_call G6 hr (by rfl) g6 F6.kp b6 .nil pass0 (pa_cons (pe_ix ix_list (pe_lst (pa_cons (pv 3) (pa_cons (pe_callTy call_tuple_of (by rfl) T.T.tup (by decide +kernel) (pa_cons (pv 3) pa_nil)) pa_nil))) (pv 6) (fun _ _ => rfl)) pa_nil)))
          (pss_cons (ps_if (pt_cmpR (op_neD hr.units) (pv 7) (pv 5) (by rfl)) (pss_one (ps_ret pe_bl)) pss_nil)
          (pss_one (ps_if (PW.pt (pw_and (pt_cmpR op_notN (pv 5) pe_non (by rfl)) (pw_and1 (pt_cmpR op_ne
              (pe_callB call_isi (by rfl) T.T.isi (by decide +kernel) (pa_cons (pe_ix ix_tup (pv 7) pe_int (fun _ _ => rfl)) (pa_cons (pe_bltn (v := .ty "bool") (by rfl) T.T.bool (by decide +kernel) rfl) pa_nil)))
              (pe_callB call_isi (by rfl) T.T.isi (by decide +kernel) (pa_cons (pe_ix ix_tup (pv 5) pe_int (fun _ _ => rfl)) (pa_cons (pe_bltn (v := .ty "bool") (by rfl) T.T.bool (by decide +kernel) rfl) pa_nil))) (nomark _))))) (pss_one (ps_ret pe_bl)) pss_nil))))))))))
      (pss_one (ps_ret pe_bl))), ?_⟩
    refine ⟨.ref a, rfl, a, ns, rfl, hS, len, fun H1 b g m s1 B1 => ?_⟩
    refine ⟨(4 : Int), rfl, by decide, by decide, for_range (lo := 0) (n := 4) (fun i σ H2 => ∃ y2 y3 y4 y5 y6 y7 : Option V, σ = [some (.ref a), some (.ref b), y2, y3, y4, y5, y6, y7] ∧ Box H2 b g m (4000 * i)) ⟨none, none, none, none, none, none, rfl, B1⟩ ?_ ?_⟩
    · rintro i σ H2 hi ⟨y2, y3, y4, y5, y6, y7, rfl, B2⟩
      refine ⟨.ref b, rfl, b, g, m, _, 6, rfl, B2, by omega, by decide, by decide, fun l ts rs c xs H3 nl hl ra fit x1 x6 B3 K3 => ?_⟩
      obtain ⟨lb, lg, _⟩ := B2.ne nl
      have rows3 : ∀ t ∈ ts, RowV b g H3 t := fun t mt => by
        obtain ⟨j, hj⟩ := List.getElem?_of_mem mt
        obtain ⟨x, r, hxr, rd⟩ := ra.2 j t hj
        have mem := List.mem_of_getElem? hxr
        have mx := fit.keys.mem_iff.mp (List.mem_map.mpr ⟨_, mem, rfl⟩)
        exact ⟨_, _, rd, .inl ⟨x, rfl, fit.nm x mx⟩, .inl ⟨r, _, _, rfl, fit.each _ mem, xs, fit.ok x mx⟩⟩
      have tl6 : ts.length ≤ 6 := by
        have := fit.len
        rw [ra.1]
        omega
      refine ⟨.ref b, rfl, b, g, m, _, 3, rfl, B3, by omega, by decide, by decide, fun v H4 v0 v3 B4 K4 => ?_⟩
      refine ⟨v, rfl, by omega, by omega, for_range (lo := 0) (n := v.toNat) (fun j σ H5 => ∃ (z2 z4 z5 z6 z7 : Option V) (l : Addr) (ts : List Addr), σ = [some (.ref a), some (.ref b), z2, some (.ref l), z4, z5, z6, z7] ∧ H5 l = some (.lst (ts.map V.ref)) ∧ l ≠ b ∧ l ≠ g ∧ (∀ t ∈ ts, RowV b g H5 t) ∧ ts.length ≤ 6 ∧ Box H5 b g m (4000 * i + 3001 + 10 * j))
        ⟨_, _, _, _, _, l, ts, rfl, K4 _ _ hl lb lg, lb, lg, (fun t mt => (rows3 t mt).keep B3 K4), tl6, B4⟩ ?_ ?_⟩
      · rintro j σ H5 hj ⟨z2, z4, z5, z6, z7, l, ts, rfl, hl, lb, lg, rows5, t6, B5⟩
        have tl : (ts.map V.ref).length = ts.length := List.length_map ..
        refine ⟨.ref l, rfl, l, _, rfl, .inl (SqL.of hl), _, _, rfl, rfl, _, rfl, ite2 (fun pos => ?_) (fun _ => ⟨_, _, _, _, _, l, ts, rfl, hl, lb, lg, rows5, t6, B5.more (by omega)⟩)⟩
        have pos := of_decide_eq_true pos
        refine ⟨.ref b, rfl, .ref l, rfl, b, g, m, l, _, ts, rfl, B5, by omega, hl, lb, lg, rows5, by omega, by omega, fun l' ts' H6 hl' lb' lg' rows6 le B6 K6 => ?_⟩
        exact ⟨_, _, _, _, _, l', ts', rfl, hl', lb', lg', rows6, by omega, B6.more (by omega)⟩
      · rintro σ H5 ⟨z2, z4, z5, z6, z7, l, ts, rfl, hl, lb, lg, rows5, t6, B5⟩
        obtain ⟨ks, rk, lo⟩ := rows_k rows5
        obtain ⟨du, dr⟩ := due_ex rk
        have k6 : ks.length ≤ 8 := by
          have := rk.1
          omega
        refine ⟨.ref l, rfl, b, g, l, ts, ks, du, rfl, SqL.of hl, rk, k6, dr, DuV.of fun dv H6 s6 sh6 => ?_⟩
        have data : ∃ dd, SeqAt.shaped dd = true ∧ PyData.canLay0 dd = true ∧ ∀ v H', Same H5 H' → Sh du H' v → Dp K H' v dd := by
          cases du with
          | none => exact ⟨.none, rfl, rfl, fun v H' _ h => by
              rcases h with ⟨_, rfl⟩ | ⟨u, p, e, _⟩
              · exact .non
              · cases e⟩
          | some u =>
            obtain ⟨d, d1, d2, d3⟩ := due_data rk lo dr
            have cl : PyData.canLay0 (.tuple [.str u.word, d]) = true := by
              show (PyData.strOk u.word && (PyData.canLay0 d && true)) = true
              rw [word_ok, d2]
              rfl
            refine ⟨.tuple [.str u.word, d], low_shaped cl ?_, cl, fun v H' s h => ?_⟩
            · show max 0 (max (PyData.depth d) 0) + 1 ≤ 64
              omega
            · rcases h with ⟨e, _⟩ | ⟨u', p, e, rfl, hp⟩
              · cases e
              · cases e
                exact .tup (SqT.of hp) (.cons (.str _) (.cons (Dv.dp d _ (d1.same s)) .nil))
        obtain ⟨dd, ds1, ds2, dp⟩ := data
        have uv : ∀ u, du = some u → ∃ d, Dv b g H5 d u.val := fun u e => by
          subst e
          obtain ⟨d, d1, _⟩ := due_data rk lo dr
          exact ⟨d, d1⟩
        refine ⟨(2 : Int), rfl, by decide, by decide, for_range (lo := 0) (n := 2) (fun j σ H7 => ∃ w2 w4 w6 w7 : Option V, σ = [some (.ref a), some (.ref b), w2, some (.ref l), w4, some dv, w6, w7] ∧ Same H6 H7) ⟨_, _, _, _, rfl, fun _ _ z => z⟩ ?_ ?_⟩
        · rintro j σ H7 hj ⟨w2, w4, w6, w7, rfl, s7⟩
          have s57 := s6.trans s7
          have hl7 := s57 _ _ hl
          refine ⟨.ref l, rfl, .ref l, rfl, l, _, rfl, .inl ⟨SqL.of hl7, fun t nt => ?_⟩⟩
          have sA := same_new (o := .tup (ts.map V.ref)) nt
          have ht : (upd H7 t (.tup (ts.map V.ref))) t = some (.tup (ts.map V.ref)) := upd_same
          generalize upd H7 t (.tup (ts.map V.ref)) = H8 at sA ht ⊢
          refine ⟨by show 2 ≤ sizeLine; decide, fun L nL => ?_⟩
          have sB := same_new (o := .lst [.ref l, .ref t]) nL
          have hL : (upd H8 L (.lst [.ref l, .ref t])) L = some (.lst [.ref l, .ref t]) := upd_same
          generalize upd H8 L (.lst [.ref l, .ref t]) = H9 at sB hL ⊢
          have s59 := (s57.trans sA).trans sB
          have hl9 := s59 _ _ hl
          have ht9 := sB _ _ ht
          have z0 : (0 : Int) + (j : Int) = ((j : Nat) : Int) := by omega
          rw [z0]
          obtain ⟨z, az, sq⟩ : ∃ z : Addr, atI [V.ref l, V.ref t] ((j : Nat) : Int) = some (.ref z) ∧ (SqL K H9 z (ts.map V.ref) ∨ SqT K H9 z (ts.map V.ref)) := by
            have c : j = 0 ∨ j = 1 := by omega
            rcases c with rfl | rfl
            · exact ⟨l, rfl, .inl (SqL.of hl9)⟩
            · exact ⟨t, rfl, .inr (SqT.of ht9)⟩
          refine ⟨.int (j : Int), rfl, L, _, (j : Int), .ref z, rfl, rfl, SqL.of hL, az, ?_⟩
          refine ⟨b, g, z, ts, ks, du, rfl, sq, rk.same s59, k6, dr, DuV.of fun fv H10 s10 sh10 => ?_⟩
          have s5X := s59.trans s10
          have shD := sh6.same (((s7.trans sA).trans sB).trans s10)
          have sX : Same H6 H10 := ((s7.trans sA).trans sB).trans s10
          refine ⟨fv, rfl, dv, rfl, dd, dd, dp fv H10 s5X sh10, dp dv H10 s5X shD, ds1, ds1, _, rfl, ?_⟩
          rw [SeqAt.eqv_refl dd ds2]
          refine iteF ?_
          rcases shD with ⟨e1, rfl⟩ | ⟨u, p, e1, rfl, hp⟩
          · exact ⟨.non, rfl, rfl, _, rfl, iteF ⟨_, _, _, _, rfl, sX⟩⟩
          · rcases sh10 with ⟨e2, _⟩ | ⟨u2, p2, e2, rfl, hp2⟩
            · rw [e2] at e1
              cases e1
            · rw [e1] at e2
              cases e2
              obtain ⟨d, d1⟩ := uv u e1
              have ty := Dv.ty (K := K) (d1.same s5X)
              obtain ⟨kb, hkb⟩ := kit_bool (K := K) (d := d)
              refine ⟨.ref p, rfl, rfl, _, rfl, ?_⟩
              rw [decide_eq_false (show ¬ V.ref p = V.non from fun z => by cases z)]
              refine iteT ⟨.ref p2, rfl, p2, _, 1, u.val, rfl, rfl, SqT.of hp2, atI_nat (j := 1) rfl, ?_⟩
              refine ⟨_, _, tyD d, .type "bool", kb, rfl, .ty _, ty, hkb, ?_⟩
              refine ⟨.ref p, rfl, p, _, 1, u.val, rfl, rfl, SqT.of hp, atI_nat (j := 1) rfl, ?_⟩
              refine ⟨_, _, tyD d, .type "bool", kb, rfl, .ty _, ty, hkb, rfl, _, rfl, ?_⟩
              rw [decide_eq_true (rfl : V.bl kb = V.bl kb)]
              exact iteF ⟨_, _, _, _, rfl, sX⟩
        · rintro σ H7 ⟨w2, w4, w6, w7, rfl, s7⟩
          exact ⟨_, _, _, _, _, _, rfl, (B5.same (s6.trans s7)).more (by omega)⟩
    · rintro σ H2 ⟨y2, y3, y4, y5, y6, y7, rfl, B2⟩
      exact q H2
end
end Moot
/-! The four errors of this law. -/
namespace Moot
open PySem PySem.Spec PyProof.Rows L2
section
variable {P : Program} {w : World} {K : PySem.W.Frag} {mg : Str → Option Value} {base : Heap}
abbrev sE3 : Stmt := inClass (top 3) 0
theorem scE3 : FnScope ["self", "value"] ["self", "value"] (defScope sE3) := ⟨rfl, rfl, rfl, by decide +kernel, rfl, by decide +kernel, by decide +kernel⟩
theorem ok_e3 {f CU : Addr} {fd : FuncData} {k : Nat} (F : Fun K "__init__" "InvalidName.__init__" sE3 f fd) (T : OexC K CU) (no : PySem.W.findIn K (.ref CU) "value" = some none) : FnOk P w K mg base CX0 (k + 1) f fd ["self", "value"] (spEx1 "value" CU) := by
  refine F.ok scE3 (fun vs H Q E h => ?_) (fun cdv A outer s H vs Q E hr h => ?_)
  · obtain ⟨a, v, rfl, _⟩ := h
    rfl
  · obtain ⟨a, v, rfl, ha, q⟩ := h
    refine ⟨_, pss_one (ps_ost (pv 0) (pv 1)), ?_⟩
    exact ⟨v, rfl, .ref a, rfl, a, CU, rfl, T, no, .inl ⟨ha, fun dx ndx nx => q dx ndx nx⟩⟩
abbrev sE4 : Stmt := inClass (top 4) 0
theorem scE4 : FnScope ["self", "name"] ["self", "name"] (defScope sE4) := ⟨rfl, rfl, rfl, by decide +kernel, rfl, by decide +kernel, by decide +kernel⟩
theorem ok_e4 {f CU : Addr} {fd : FuncData} {k : Nat} (F : Fun K "__init__" "DuplicateNode.__init__" sE4 f fd) (T : OexC K CU) (no : PySem.W.findIn K (.ref CU) "name" = some none) : FnOk P w K mg base CX0 (k + 1) f fd ["self", "name"] (spEx1 "name" CU) := by
  refine F.ok scE4 (fun vs H Q E h => ?_) (fun cdv A outer s H vs Q E hr h => ?_)
  · obtain ⟨a, v, rfl, _⟩ := h
    rfl
  · obtain ⟨a, v, rfl, ha, q⟩ := h
    refine ⟨_, pss_one (ps_ost (pv 0) (pv 1)), ?_⟩
    exact ⟨v, rfl, .ref a, rfl, a, CU, rfl, T, no, .inl ⟨ha, fun dx ndx nx => q dx ndx nx⟩⟩
abbrev sE5 : Stmt := inClass (top 5) 0
theorem scE5 : FnScope ["self", "name"] ["self", "name"] (defScope sE5) := ⟨rfl, rfl, rfl, by decide +kernel, rfl, by decide +kernel, by decide +kernel⟩
theorem ok_e5 {f CU : Addr} {fd : FuncData} {k : Nat} (F : Fun K "__init__" "InvalidRequirement.__init__" sE5 f fd) (T : OexC K CU) (no : PySem.W.findIn K (.ref CU) "name" = some none) : FnOk P w K mg base CX0 (k + 1) f fd ["self", "name"] (spEx1 "name" CU) := by
  refine F.ok scE5 (fun vs H Q E h => ?_) (fun cdv A outer s H vs Q E hr h => ?_)
  · obtain ⟨a, v, rfl, _⟩ := h
    rfl
  · obtain ⟨a, v, rfl, ha, q⟩ := h
    refine ⟨_, pss_one (ps_ost (pv 0) (pv 1)), ?_⟩
    exact ⟨v, rfl, .ref a, rfl, a, CU, rfl, T, no, .inl ⟨ha, fun dx ndx nx => q dx ndx nx⟩⟩
abbrev sE6 : Stmt := inClass (top 6) 0
theorem scE6 : FnScope ["self", "name"] ["self", "name"] (defScope sE6) := ⟨rfl, rfl, rfl, by decide +kernel, rfl, by decide +kernel, by decide +kernel⟩
theorem ok_e6 {f CU : Addr} {fd : FuncData} {k : Nat} (F : Fun K "__init__" "UnknownNode.__init__" sE6 f fd) (T : OexC K CU) (no : PySem.W.findIn K (.ref CU) "name" = some none) : FnOk P w K mg base CX0 (k + 1) f fd ["self", "name"] (spEx1 "name" CU) := by
  refine F.ok scE6 (fun vs H Q E h => ?_) (fun cdv A outer s H vs Q E hr h => ?_)
  · obtain ⟨a, v, rfl, _⟩ := h
    rfl
  · obtain ⟨a, v, rfl, ha, q⟩ := h
    refine ⟨_, pss_one (ps_ost (pv 0) (pv 1)), ?_⟩
    exact ⟨v, rfl, .ref a, rfl, a, CU, rfl, T, no, .inl ⟨ha, fun dx ndx nx => q dx ndx nx⟩⟩
end
end Moot
namespace Moot
open PySem PySem.Spec PyProof.Rows L2
theorem kit_self {K : PySem.W.Frag} (C : Addr) : PySem.W.kitOne K (.ref C) (.ref C) = some true := by
  unfold PySem.W.kitOne
  exact if_pos (beq_self_eq_true _)
/-! what the top has written -/
theorem all_mk {l : PySem.W.OpenLaw} {w : World} {K : PySem.W.Frag} {h : Heap} {mg : Str → Option Value} {fa C dT eA En Ed Er Eu CM f_ni f_di f_ri f_ui  f_ns f_isn f_who f_ct f_hd f_sr f_ir f_nwr f_nin f_rb f_cu f_box f_mix f_take f_nam f_som f_cnt f_lis f_req f_rows f_lni f_lnm f_th f_ldu f_chg f_made f_law f_ini : Addr} (X : K.In h) (G : h.Ns mainGlobals mg) (hfa : mg "law" = some (.ref fa))
    {od_ns an_ns od_isn an_isn od_who an_who od_ct an_ct od_hd an_hd od_sr an_sr od_ir an_ir od_nwr an_nwr od_nin an_nin od_rb an_rb od_cu an_cu od_box an_box od_mix an_mix od_take an_take od_nam an_nam od_som an_som od_cnt an_cnt od_lis an_lis od_req an_req od_rows an_rows od_lni an_lni od_lnm an_lnm od_th an_th od_ldu an_ldu od_chg an_chg od_made an_made od_law an_law od_ini an_ini : Option Addr} {sl_ns sl_isn sl_who sl_ct sl_hd sl_sr sl_ir sl_nwr sl_nin sl_rb sl_cu sl_box sl_mix sl_take sl_nam sl_som sl_cnt sl_lis sl_req sl_rows sl_lni sl_lnm sl_th sl_ldu sl_chg sl_made sl_law sl_ini : Array (Option Value)} {oc_ns kV_ns dc_ns pm_ns cd_ns ct_ns oc_isn kV_isn dc_isn pm_isn cd_isn ct_isn oc_who kV_who dc_who pm_who cd_who ct_who oc_ct kV_ct dc_ct pm_ct cd_ct ct_ct oc_hd kV_hd dc_hd pm_hd cd_hd ct_hd oc_sr kV_sr dc_sr pm_sr cd_sr ct_sr oc_ir kV_ir dc_ir pm_ir cd_ir ct_ir oc_nwr kV_nwr dc_nwr pm_nwr cd_nwr ct_nwr oc_nin kV_nin dc_nin pm_nin cd_nin ct_nin oc_rb kV_rb dc_rb pm_rb cd_rb ct_rb oc_cu kV_cu dc_cu pm_cu cd_cu ct_cu oc_box kV_box dc_box pm_box cd_box ct_box oc_mix kV_mix dc_mix pm_mix cd_mix ct_mix oc_take kV_take dc_take pm_take cd_take ct_take oc_nam kV_nam dc_nam pm_nam cd_nam ct_nam oc_som kV_som dc_som pm_som cd_som ct_som oc_cnt kV_cnt dc_cnt pm_cnt cd_cnt ct_cnt oc_lis kV_lis dc_lis pm_lis cd_lis ct_lis oc_req kV_req dc_req pm_req cd_req ct_req oc_rows kV_rows dc_rows pm_rows cd_rows ct_rows oc_lni kV_lni dc_lni pm_lni cd_lni ct_lni oc_lnm kV_lnm dc_lnm pm_lnm cd_lnm ct_lnm oc_th kV_th dc_th pm_th cd_th ct_th oc_ldu kV_ldu dc_ldu pm_ldu cd_ldu ct_ldu oc_chg kV_chg dc_chg pm_chg cd_chg ct_chg oc_made kV_made dc_made pm_made cd_made ct_made oc_law kV_law dc_law pm_law cd_law ct_law oc_ini kV_ini dc_ini pm_ini cd_ini ct_ini : Value}
    {od_ni an_ni : Option Addr} {sl_ni : Array (Option Value)} {oc_ni kV_ni dc_ni pm_ni cd_ni ct_ni : Value}
    {nm_n q_n : Str} {N_n : Addr} {bs_n bm_n : List Value} {sn_n : List Str} {sub_n : List Value} {ab_n : Bool} {col_n : Option Bool} {dd_n : Option Addr} {m0_n m1_n m2_n m3_n m5_n : Option Value}
    {od_di an_di : Option Addr} {sl_di : Array (Option Value)} {oc_di kV_di dc_di pm_di cd_di ct_di : Value}
    {nm_d q_d : Str} {N_d : Addr} {bs_d bm_d : List Value} {sn_d : List Str} {sub_d : List Value} {ab_d : Bool} {col_d : Option Bool} {dd_d : Option Addr} {m0_d m1_d m2_d m3_d m5_d : Option Value}
    {od_ri an_ri : Option Addr} {sl_ri : Array (Option Value)} {oc_ri kV_ri dc_ri pm_ri cd_ri ct_ri : Value}
    {nm_r q_r : Str} {N_r : Addr} {bs_r bm_r : List Value} {sn_r : List Str} {sub_r : List Value} {ab_r : Bool} {col_r : Option Bool} {dd_r : Option Addr} {m0_r m1_r m2_r m3_r m5_r : Option Value}
    {od_ui an_ui : Option Addr} {sl_ui : Array (Option Value)} {oc_ui kV_ui dc_ui pm_ui cd_ui ct_ui : Value}
    {nm_u q_u : Str} {N_u : Addr} {bs_u bm_u : List Value} {sn_u : List Str} {sub_u : List Value} {ab_u : Bool} {col_u : Option Bool} {dd_u : Option Addr} {m0_u m1_u m2_u m3_u m5_u : Option Value}
    {tA tB tC tD : Tok} {ocT : Value} {odT  : Option Addr} {nT  : Nat} {slT  : Array (Option Value)}
    (aC : PySem.W.nsIn K mainGlobals "Network" = some (some (.ref C)))
    (ag_n : PySem.W.nsIn K mainGlobals "InvalidName" = some (some (.ref En)))
    (x_n : K.lookup En = some (excClassObj nm_n q_n En N_n bs_n bm_n true sn_n sub_n ab_n col_n dd_n m0_n m1_n m2_n m3_n m5_n "ValueError.__new__"))
    (r_n : PySem.HandSPX.refsVE bm_n = true)
    (sa_n : PySem.W.findIn K (.ref En) "__setattr__" = some (some (.builtin "object.__setattr__")))
    (ga_n : PySem.W.findIn K (.ref En) "__getattribute__" = some (some (.builtin "BaseException.__getattribute__")))
    (gg_n : PySem.W.findIn K (.ref En) "__getattr__" = some none)
    (ex_n : PySem.W.subIn K (.ref En) (.type "BaseException") = some true)
    (ty_n : PySem.W.typeIn K (.ref En) = some (.type "type"))
    (kp_n : PySem.W.keepIn K (.ref En) = true)
    (hd_nn : PySem.W.hasDictIn K En = true)
    (ic_n : PySem.W.isClsIn K En = true)
    (no_n : PySem.W.findIn K (.ref En) "value" = some none)
    (in_n : PySem.W.findIn K (.ref En) "__init__" = some (some (.ref f_ni)))
    (ti_n : PySem.W.typeIn K (.ref f_ni) = some (.type "function"))
    (l_ni : K.lookup f_ni = some ⟨oc_ni, od_ni, .func (PySem.W.fnOf "__init__" "InvalidName.__init__" (defArgs sE3) (defBody sE3) (defScope sE3) .none kV_ni dc_ni pm_ni an_ni cd_ni ct_ni), sl_ni⟩)
    (c_ni : PySem.W.codeIn K cd_ni "InvalidName.__init__" = true)
    (k_ni : PySem.W.keepIn K (.ref f_ni) = true)
    (ag_d : PySem.W.nsIn K mainGlobals "DuplicateNode" = some (some (.ref Ed)))
    (x_d : K.lookup Ed = some (excClassObj nm_d q_d Ed N_d bs_d bm_d true sn_d sub_d ab_d col_d dd_d m0_d m1_d m2_d m3_d m5_d "ValueError.__new__"))
    (r_d : PySem.HandSPX.refsVE bm_d = true)
    (sa_d : PySem.W.findIn K (.ref Ed) "__setattr__" = some (some (.builtin "object.__setattr__")))
    (ga_d : PySem.W.findIn K (.ref Ed) "__getattribute__" = some (some (.builtin "BaseException.__getattribute__")))
    (gg_d : PySem.W.findIn K (.ref Ed) "__getattr__" = some none)
    (ex_d : PySem.W.subIn K (.ref Ed) (.type "BaseException") = some true)
    (ty_d : PySem.W.typeIn K (.ref Ed) = some (.type "type"))
    (kp_d : PySem.W.keepIn K (.ref Ed) = true)
    (hd_dd : PySem.W.hasDictIn K Ed = true)
    (ic_d : PySem.W.isClsIn K Ed = true)
    (no_d : PySem.W.findIn K (.ref Ed) "name" = some none)
    (in_d : PySem.W.findIn K (.ref Ed) "__init__" = some (some (.ref f_di)))
    (ti_d : PySem.W.typeIn K (.ref f_di) = some (.type "function"))
    (l_di : K.lookup f_di = some ⟨oc_di, od_di, .func (PySem.W.fnOf "__init__" "DuplicateNode.__init__" (defArgs sE4) (defBody sE4) (defScope sE4) .none kV_di dc_di pm_di an_di cd_di ct_di), sl_di⟩)
    (c_di : PySem.W.codeIn K cd_di "DuplicateNode.__init__" = true)
    (k_di : PySem.W.keepIn K (.ref f_di) = true)
    (ag_r : PySem.W.nsIn K mainGlobals "InvalidRequirement" = some (some (.ref Er)))
    (x_r : K.lookup Er = some (excClassObj nm_r q_r Er N_r bs_r bm_r true sn_r sub_r ab_r col_r dd_r m0_r m1_r m2_r m3_r m5_r "ValueError.__new__"))
    (r_r : PySem.HandSPX.refsVE bm_r = true)
    (sa_r : PySem.W.findIn K (.ref Er) "__setattr__" = some (some (.builtin "object.__setattr__")))
    (ga_r : PySem.W.findIn K (.ref Er) "__getattribute__" = some (some (.builtin "BaseException.__getattribute__")))
    (gg_r : PySem.W.findIn K (.ref Er) "__getattr__" = some none)
    (ex_r : PySem.W.subIn K (.ref Er) (.type "BaseException") = some true)
    (ty_r : PySem.W.typeIn K (.ref Er) = some (.type "type"))
    (kp_r : PySem.W.keepIn K (.ref Er) = true)
    (hd_rr : PySem.W.hasDictIn K Er = true)
    (ic_r : PySem.W.isClsIn K Er = true)
    (no_r : PySem.W.findIn K (.ref Er) "name" = some none)
    (in_r : PySem.W.findIn K (.ref Er) "__init__" = some (some (.ref f_ri)))
    (ti_r : PySem.W.typeIn K (.ref f_ri) = some (.type "function"))
    (l_ri : K.lookup f_ri = some ⟨oc_ri, od_ri, .func (PySem.W.fnOf "__init__" "InvalidRequirement.__init__" (defArgs sE5) (defBody sE5) (defScope sE5) .none kV_ri dc_ri pm_ri an_ri cd_ri ct_ri), sl_ri⟩)
    (c_ri : PySem.W.codeIn K cd_ri "InvalidRequirement.__init__" = true)
    (k_ri : PySem.W.keepIn K (.ref f_ri) = true)
    (ag_u : PySem.W.nsIn K mainGlobals "UnknownNode" = some (some (.ref Eu)))
    (x_u : K.lookup Eu = some (excClassObj nm_u q_u Eu N_u bs_u bm_u true sn_u sub_u ab_u col_u dd_u m0_u m1_u m2_u m3_u m5_u "ValueError.__new__"))
    (r_u : PySem.HandSPX.refsVE bm_u = true)
    (sa_u : PySem.W.findIn K (.ref Eu) "__setattr__" = some (some (.builtin "object.__setattr__")))
    (ga_u : PySem.W.findIn K (.ref Eu) "__getattribute__" = some (some (.builtin "BaseException.__getattribute__")))
    (gg_u : PySem.W.findIn K (.ref Eu) "__getattr__" = some none)
    (ex_u : PySem.W.subIn K (.ref Eu) (.type "BaseException") = some true)
    (ty_u : PySem.W.typeIn K (.ref Eu) = some (.type "type"))
    (kp_u : PySem.W.keepIn K (.ref Eu) = true)
    (hd_uu : PySem.W.hasDictIn K Eu = true)
    (ic_u : PySem.W.isClsIn K Eu = true)
    (no_u : PySem.W.findIn K (.ref Eu) "name" = some none)
    (in_u : PySem.W.findIn K (.ref Eu) "__init__" = some (some (.ref f_ui)))
    (ti_u : PySem.W.typeIn K (.ref f_ui) = some (.type "function"))
    (l_ui : K.lookup f_ui = some ⟨oc_ui, od_ui, .func (PySem.W.fnOf "__init__" "UnknownNode.__init__" (defArgs sE6) (defBody sE6) (defScope sE6) .none kV_ui dc_ui pm_ui an_ui cd_ui ct_ui), sl_ui⟩)
    (c_ui : PySem.W.codeIn K cd_ui "UnknownNode.__init__" = true)
    (k_ui : PySem.W.keepIn K (.ref f_ui) = true)
    (ag_m : PySem.W.nsIn K mainGlobals "MootError" = some (some (.ref CM)))
    (s_nn : PySem.W.subIn K (.ref En) (.ref En) = some true)
    (s_dn : PySem.W.subIn K (.ref Ed) (.ref En) = some false)
    (s_dd : PySem.W.subIn K (.ref Ed) (.ref Ed) = some true)
    (s_rn : PySem.W.subIn K (.ref Er) (.ref En) = some false)
    (s_rd : PySem.W.subIn K (.ref Er) (.ref Ed) = some false)
    (s_rr : PySem.W.subIn K (.ref Er) (.ref Er) = some true)
    (s_un : PySem.W.subIn K (.ref Eu) (.ref En) = some false)
    (s_ud : PySem.W.subIn K (.ref Eu) (.ref Ed) = some false)
    (s_ur : PySem.W.subIn K (.ref Eu) (.ref Er) = some false)
    (s_uu : PySem.W.subIn K (.ref Eu) (.ref Eu) = some true)
    (a_ns : PySem.W.nsIn K mainGlobals "node_set" = some (some (.ref f_ns)))
    (l_ns : K.lookup f_ns = some ⟨oc_ns, od_ns, .func (PySem.W.fnOf "node_set" "node_set" (defArgs sNs) (defBody sNs) (defScope sNs) .none kV_ns dc_ns pm_ns an_ns cd_ns ct_ns), sl_ns⟩)
    (c_ns : PySem.W.codeIn K cd_ns "node_set" = true)
    (k_ns : PySem.W.keepIn K (.ref f_ns) = true)
    (a_isn : PySem.W.nsIn K mainGlobals "is_name" = some (some (.ref f_isn)))
    (l_isn : K.lookup f_isn = some ⟨oc_isn, od_isn, .func (PySem.W.fnOf "is_name" "is_name" (defArgs sIn) (defBody sIn) (defScope sIn) .none kV_isn dc_isn pm_isn an_isn cd_isn ct_isn), sl_isn⟩)
    (c_isn : PySem.W.codeIn K cd_isn "is_name" = true)
    (k_isn : PySem.W.keepIn K (.ref f_isn) = true)
    (a_who : PySem.W.nsIn K mainGlobals "is_whole_number" = some (some (.ref f_who)))
    (l_who : K.lookup f_who = some ⟨oc_who, od_who, .func (PySem.W.fnOf "is_whole_number" "is_whole_number" (defArgs sWh) (defBody sWh) (defScope sWh) .none kV_who dc_who pm_who an_who cd_who ct_who), sl_who⟩)
    (c_who : PySem.W.codeIn K cd_who "is_whole_number" = true)
    (k_who : PySem.W.keepIn K (.ref f_who) = true)
    (a_ct : PySem.W.nsIn K mainGlobals "is_counted_tuple" = some (some (.ref f_ct)))
    (l_ct : K.lookup f_ct = some ⟨oc_ct, od_ct, .func (PySem.W.fnOf "is_counted_tuple" "is_counted_tuple" (defArgs sCt) (defBody sCt) (defScope sCt) .none kV_ct dc_ct pm_ct an_ct cd_ct ct_ct), sl_ct⟩)
    (c_ct : PySem.W.codeIn K cd_ct "is_counted_tuple" = true)
    (k_ct : PySem.W.keepIn K (.ref f_ct) = true)
    (a_hd : PySem.W.nsIn K mainGlobals "has_duplicates" = some (some (.ref f_hd)))
    (l_hd : K.lookup f_hd = some ⟨oc_hd, od_hd, .func (PySem.W.fnOf "has_duplicates" "has_duplicates" (defArgs sHd) (defBody sHd) (defScope sHd) .none kV_hd dc_hd pm_hd an_hd cd_hd ct_hd), sl_hd⟩)
    (c_hd : PySem.W.codeIn K cd_hd "has_duplicates" = true)
    (k_hd : PySem.W.keepIn K (.ref f_hd) = true)
    (a_sr : PySem.W.nsIn K mainGlobals "is_simple_requirement" = some (some (.ref f_sr)))
    (l_sr : K.lookup f_sr = some ⟨oc_sr, od_sr, .func (PySem.W.fnOf "is_simple_requirement" "is_simple_requirement" (defArgs sSr) (defBody sSr) (defScope sSr) .none kV_sr dc_sr pm_sr an_sr cd_sr ct_sr), sl_sr⟩)
    (c_sr : PySem.W.codeIn K cd_sr "is_simple_requirement" = true)
    (k_sr : PySem.W.keepIn K (.ref f_sr) = true)
    (a_ir : PySem.W.nsIn K mainGlobals "is_requirement" = some (some (.ref f_ir)))
    (l_ir : K.lookup f_ir = some ⟨oc_ir, od_ir, .func (PySem.W.fnOf "is_requirement" "is_requirement" (defArgs sIr) (defBody sIr) (defScope sIr) .none kV_ir dc_ir pm_ir an_ir cd_ir ct_ir), sl_ir⟩)
    (c_ir : PySem.W.codeIn K cd_ir "is_requirement" = true)
    (k_ir : PySem.W.keepIn K (.ref f_ir) = true)
    (a_nwr : PySem.W.nsIn K mainGlobals "names_with_repetition" = some (some (.ref f_nwr)))
    (l_nwr : K.lookup f_nwr = some ⟨oc_nwr, od_nwr, .func (PySem.W.fnOf "names_with_repetition" "names_with_repetition" (defArgs sNwr) (defBody sNwr) (defScope sNwr) .none kV_nwr dc_nwr pm_nwr an_nwr cd_nwr ct_nwr), sl_nwr⟩)
    (c_nwr : PySem.W.codeIn K cd_nwr "names_with_repetition" = true)
    (k_nwr : PySem.W.keepIn K (.ref f_nwr) = true)
    (a_nin : PySem.W.nsIn K mainGlobals "names_in" = some (some (.ref f_nin)))
    (l_nin : K.lookup f_nin = some ⟨oc_nin, od_nin, .func (PySem.W.fnOf "names_in" "names_in" (defArgs sNin) (defBody sNin) (defScope sNin) .none kV_nin dc_nin pm_nin an_nin cd_nin ct_nin), sl_nin⟩)
    (c_nin : PySem.W.codeIn K cd_nin "names_in" = true)
    (k_nin : PySem.W.keepIn K (.ref f_nin) = true)
    (a_rb : PySem.W.nsIn K mainGlobals "requirements_by_name" = some (some (.ref f_rb)))
    (l_rb : K.lookup f_rb = some ⟨oc_rb, od_rb, .func (PySem.W.fnOf "requirements_by_name" "requirements_by_name" (defArgs sRb) (defBody sRb) (defScope sRb) .none kV_rb dc_rb pm_rb an_rb cd_rb ct_rb), sl_rb⟩)
    (c_rb : PySem.W.codeIn K cd_rb "requirements_by_name" = true)
    (k_rb : PySem.W.keepIn K (.ref f_rb) = true)
    (a_cu : PySem.W.nsIn K mainGlobals "check_names_used" = some (some (.ref f_cu)))
    (l_cu : K.lookup f_cu = some ⟨oc_cu, od_cu, .func (PySem.W.fnOf "check_names_used" "check_names_used" (defArgs sCu) (defBody sCu) (defScope sCu) .none kV_cu dc_cu pm_cu an_cu cd_cu ct_cu), sl_cu⟩)
    (c_cu : PySem.W.codeIn K cd_cu "check_names_used" = true)
    (k_cu : PySem.W.keepIn K (.ref f_cu) = true)
    (a_box : PySem.W.nsIn K mainGlobals "_law_box" = some (some (.ref f_box)))
    (l_box : K.lookup f_box = some ⟨oc_box, od_box, .func (PySem.W.fnOf "_law_box" "_law_box" (defArgs sBox) (defBody sBox) (defScope sBox) .none kV_box dc_box pm_box an_box cd_box ct_box), sl_box⟩)
    (c_box : PySem.W.codeIn K cd_box "_law_box" = true)
    (k_box : PySem.W.keepIn K (.ref f_box) = true)
    (a_mix : PySem.W.nsIn K mainGlobals "_law_mixed" = some (some (.ref f_mix)))
    (l_mix : K.lookup f_mix = some ⟨oc_mix, od_mix, .func (PySem.W.fnOf "_law_mixed" "_law_mixed" (defArgs sMixed) (defBody sMixed) (defScope sMixed) .none kV_mix dc_mix pm_mix an_mix cd_mix ct_mix), sl_mix⟩)
    (c_mix : PySem.W.codeIn K cd_mix "_law_mixed" = true)
    (k_mix : PySem.W.keepIn K (.ref f_mix) = true)
    (a_take : PySem.W.nsIn K mainGlobals "_law_take" = some (some (.ref f_take)))
    (l_take : K.lookup f_take = some ⟨oc_take, od_take, .func (PySem.W.fnOf "_law_take" "_law_take" (defArgs sTake) (defBody sTake) (defScope sTake) .none kV_take dc_take pm_take an_take cd_take ct_take), sl_take⟩)
    (c_take : PySem.W.codeIn K cd_take "_law_take" = true)
    (k_take : PySem.W.keepIn K (.ref f_take) = true)
    (a_nam : PySem.W.nsIn K mainGlobals "_law_names" = some (some (.ref f_nam)))
    (l_nam : K.lookup f_nam = some ⟨oc_nam, od_nam, .func (PySem.W.fnOf "_law_names" "_law_names" (defArgs sNames) (defBody sNames) (defScope sNames) .none kV_nam dc_nam pm_nam an_nam cd_nam ct_nam), sl_nam⟩)
    (c_nam : PySem.W.codeIn K cd_nam "_law_names" = true)
    (k_nam : PySem.W.keepIn K (.ref f_nam) = true)
    (a_som : PySem.W.nsIn K mainGlobals "_law_some" = some (some (.ref f_som)))
    (l_som : K.lookup f_som = some ⟨oc_som, od_som, .func (PySem.W.fnOf "_law_some" "_law_some" (defArgs sSome) (defBody sSome) (defScope sSome) .none kV_som dc_som pm_som an_som cd_som ct_som), sl_som⟩)
    (c_som : PySem.W.codeIn K cd_som "_law_some" = true)
    (k_som : PySem.W.keepIn K (.ref f_som) = true)
    (a_cnt : PySem.W.nsIn K mainGlobals "_law_count" = some (some (.ref f_cnt)))
    (l_cnt : K.lookup f_cnt = some ⟨oc_cnt, od_cnt, .func (PySem.W.fnOf "_law_count" "_law_count" (defArgs sCount) (defBody sCount) (defScope sCount) .none kV_cnt dc_cnt pm_cnt an_cnt cd_cnt ct_cnt), sl_cnt⟩)
    (c_cnt : PySem.W.codeIn K cd_cnt "_law_count" = true)
    (k_cnt : PySem.W.keepIn K (.ref f_cnt) = true)
    (a_lis : PySem.W.nsIn K mainGlobals "_law_listed" = some (some (.ref f_lis)))
    (l_lis : K.lookup f_lis = some ⟨oc_lis, od_lis, .func (PySem.W.fnOf "_law_listed" "_law_listed" (defArgs sLis) (defBody sLis) (defScope sLis) .none kV_lis dc_lis pm_lis an_lis cd_lis ct_lis), sl_lis⟩)
    (c_lis : PySem.W.codeIn K cd_lis "_law_listed" = true)
    (k_lis : PySem.W.keepIn K (.ref f_lis) = true)
    (a_req : PySem.W.nsIn K mainGlobals "_law_requirement" = some (some (.ref f_req)))
    (l_req : K.lookup f_req = some ⟨oc_req, od_req, .func (PySem.W.fnOf "_law_requirement" "_law_requirement" (defArgs sReq) (defBody sReq) (defScope sReq) .none kV_req dc_req pm_req an_req cd_req ct_req), sl_req⟩)
    (c_req : PySem.W.codeIn K cd_req "_law_requirement" = true)
    (k_req : PySem.W.keepIn K (.ref f_req) = true)
    (a_rows : PySem.W.nsIn K mainGlobals "_law_rows" = some (some (.ref f_rows)))
    (l_rows : K.lookup f_rows = some ⟨oc_rows, od_rows, .func (PySem.W.fnOf "_law_rows" "_law_rows" (defArgs sRows) (defBody sRows) (defScope sRows) .none kV_rows dc_rows pm_rows an_rows cd_rows ct_rows), sl_rows⟩)
    (c_rows : PySem.W.codeIn K cd_rows "_law_rows" = true)
    (k_rows : PySem.W.keepIn K (.ref f_rows) = true)
    (a_lni : PySem.W.nsIn K mainGlobals "_law_names_in" = some (some (.ref f_lni)))
    (l_lni : K.lookup f_lni = some ⟨oc_lni, od_lni, .func (PySem.W.fnOf "_law_names_in" "_law_names_in" (defArgs sLni) (defBody sLni) (defScope sLni) .none kV_lni dc_lni pm_lni an_lni cd_lni ct_lni), sl_lni⟩)
    (c_lni : PySem.W.codeIn K cd_lni "_law_names_in" = true)
    (k_lni : PySem.W.keepIn K (.ref f_lni) = true)
    (a_lnm : PySem.W.nsIn K mainGlobals "_law_is_name" = some (some (.ref f_lnm)))
    (l_lnm : K.lookup f_lnm = some ⟨oc_lnm, od_lnm, .func (PySem.W.fnOf "_law_is_name" "_law_is_name" (defArgs sLn) (defBody sLn) (defScope sLn) .none kV_lnm dc_lnm pm_lnm an_lnm cd_lnm ct_lnm), sl_lnm⟩)
    (c_lnm : PySem.W.codeIn K cd_lnm "_law_is_name" = true)
    (k_lnm : PySem.W.keepIn K (.ref f_lnm) = true)
    (a_th : PySem.W.nsIn K mainGlobals "_law_is_threshold" = some (some (.ref f_th)))
    (l_th : K.lookup f_th = some ⟨oc_th, od_th, .func (PySem.W.fnOf "_law_is_threshold" "_law_is_threshold" (defArgs sTh) (defBody sTh) (defScope sTh) .none kV_th dc_th pm_th an_th cd_th ct_th), sl_th⟩)
    (c_th : PySem.W.codeIn K cd_th "_law_is_threshold" = true)
    (k_th : PySem.W.keepIn K (.ref f_th) = true)
    (a_ldu : PySem.W.nsIn K mainGlobals "_law_due" = some (some (.ref f_ldu)))
    (l_ldu : K.lookup f_ldu = some ⟨oc_ldu, od_ldu, .func (PySem.W.fnOf "_law_due" "_law_due" (defArgs sDu) (defBody sDu) (defScope sDu) .none kV_ldu dc_ldu pm_ldu an_ldu cd_ldu ct_ldu), sl_ldu⟩)
    (c_ldu : PySem.W.codeIn K cd_ldu "_law_due" = true)
    (k_ldu : PySem.W.keepIn K (.ref f_ldu) = true)
    (a_chg : PySem.W.nsIn K mainGlobals "_law_changed" = some (some (.ref f_chg)))
    (l_chg : K.lookup f_chg = some ⟨oc_chg, od_chg, .func (PySem.W.fnOf "_law_changed" "_law_changed" (defArgs sCh) (defBody sCh) (defScope sCh) .none kV_chg dc_chg pm_chg an_chg cd_chg ct_chg), sl_chg⟩)
    (c_chg : PySem.W.codeIn K cd_chg "_law_changed" = true)
    (k_chg : PySem.W.keepIn K (.ref f_chg) = true)
    (a_made : PySem.W.nsIn K mainGlobals "_law_made" = some (some (.ref f_made)))
    (l_made : K.lookup f_made = some ⟨oc_made, od_made, .func (PySem.W.fnOf "_law_made" "_law_made" (defArgs sMa) (defBody sMa) (defScope sMa) .none kV_made dc_made pm_made an_made cd_made ct_made), sl_made⟩)
    (c_made : PySem.W.codeIn K cd_made "_law_made" = true)
    (k_made : PySem.W.keepIn K (.ref f_made) = true)
    (a_law : PySem.W.nsIn K mainGlobals "law" = some (some (.ref f_law)))
    (l_law : K.lookup f_law = some ⟨oc_law, od_law, .func (PySem.W.fnOf "law" "law" (defArgs sLaw) (defBody sLaw) (defScope sLaw) .none kV_law dc_law pm_law an_law cd_law ct_law), sl_law⟩)
    (c_law : PySem.W.codeIn K cd_law "law" = true)
    (k_law : PySem.W.keepIn K (.ref f_law) = true)
    (a_ini : PySem.W.findIn K (.ref C) "__init__" = some (some (.ref f_ini)))
    (i_ini : PySem.W.isFn K (.ref f_ini) = true)
    (l_ini : K.lookup f_ini = some ⟨oc_ini, od_ini, .func (PySem.W.fnOf "__init__" "Network.__init__" (defArgs sNi) (defBody sNi) (defScope sNi) (.ref dT) kV_ini dc_ini pm_ini an_ini cd_ini ct_ini), sl_ini⟩)
    (c_ini : PySem.W.codeIn K cd_ini "Network.__init__" = true)
    (k_ini : PySem.W.keepIn K (.ref f_ini) = true)
    (y_dT : K.lookup dT = some ⟨ocT, odT, .seq #[.ref eA] nT, slT⟩)
    (y_let : PySem.W.nsIn K mainGlobals "LETTERS" = some (some (.str abc tA)))
    (y_lon : PySem.W.nsIn K mainGlobals "LONGEST_NAME" = some (some (.int 8 tB)))
    (y_mn : PySem.W.nsIn K mainGlobals "MOST_NAMES" = some (some (.int 12 tC)))
    (y_md : PySem.W.nsIn K mainGlobals "MOST_DIFFERENT_NAMES" = some (some (.int 8 tD)))
    (w_pg : PySem.W.plainGet K C Str.empty = true)
    (w_hd : PySem.W.hasDictIn K C = true)
    (w_po : PySem.W.plainOver K C = true)
    (w_sa : PySem.W.findIn K (.ref C) "__setattr__" = some (some (.builtin "object.__setattr__")))
    (w_mk : PySem.W.makesIn K C = true)
    (w_kc : PySem.W.keepIn K (.ref C) = true)
    (w_nR : PySem.W.findIn K (.ref C) "requirements" = some none)
    (z_isi : PySem.W.nsIn K mainGlobals "isinstance" = some none)
    (z_str : PySem.W.nsIn K mainGlobals "str" = some none)
    (z_len : PySem.W.nsIn K mainGlobals "len" = some none)
    (z_tup : PySem.W.nsIn K mainGlobals "tuple" = some none)
    (z_lst : PySem.W.nsIn K mainGlobals "list" = some none)
    (z_srt : PySem.W.nsIn K mainGlobals "sorted" = some none)
    (z_set : PySem.W.nsIn K mainGlobals "set" = some none)
    (z_rng : PySem.W.nsIn K mainGlobals "range" = some none)
    (z_int : PySem.W.nsIn K mainGlobals "int" = some none)
    (z_bool : PySem.W.nsIn K mainGlobals "bool" = some none)
    (z_sum : PySem.W.nsIn K mainGlobals "sum" = some none)
    (z_min : PySem.W.nsIn K mainGlobals "min" = some none)
    (z_max : PySem.W.nsIn K mainGlobals "max" = some none)
    (z_all : PySem.W.nsIn K mainGlobals "all" = some none)
    (z_any : PySem.W.nsIn K mainGlobals "any" = some none)
    (z_dict : PySem.W.nsIn K mainGlobals "dict" = some none) :
    ∃ fd : FuncData, (∀ (s : Shared) (v : Value), BindsTo s fd ⟨[v], []⟩ [("_law_script", v)]) ∧ ∀ base : Heap, K.In base → base.Ns mainGlobals mg → FnOk l.prog w K mg base CX0 9 fa fd ["_law_script"] (spLaw K) := by
  have e := hfa.symm.trans (PySem.W.mg_of X G a_law)
  cases e
  have T0 : Blt mg := ⟨PySem.W.mg_none_of X G z_isi, PySem.W.mg_none_of X G z_str, PySem.W.mg_none_of X G z_len, PySem.W.mg_none_of X G z_tup, PySem.W.mg_none_of X G z_lst, PySem.W.mg_none_of X G z_srt, PySem.W.mg_none_of X G z_set, PySem.W.mg_none_of X G z_rng, PySem.W.mg_none_of X G z_int, PySem.W.mg_none_of X G z_bool, PySem.W.mg_none_of X G z_sum, PySem.W.mg_none_of X G z_min, PySem.W.mg_none_of X G z_max⟩
  have T : Bq mg := ⟨T0, PySem.W.mg_none_of X G z_all, ⟨_, PySem.W.mg_of X G y_let, _, rfl⟩, ⟨_, PySem.W.mg_of X G y_lon, _, rfl⟩, ⟨_, PySem.W.mg_of X G y_mn, _, rfl⟩, ⟨_, PySem.W.mg_of X G y_md, _, rfl⟩⟩
  have TN : Bn mg := ⟨PySem.W.mg_none_of X G z_any, PySem.W.mg_none_of X G z_dict⟩
  have TX : Txt K mg C := ⟨⟨w_pg, w_hd, w_po, w_sa⟩, w_nR, PySem.W.mg_of X G aC⟩
  have F_ns := fun_mk (st := sNs) l_ns c_ns k_ns
  have g_ns : mg "node_set" = some (.ref _) := PySem.W.mg_of X G a_ns
  have b_ns := F_ns.binds (ps := ["names"]) fun _ _ _ _ _ _ us hl => match us, hl with | [_], _ => rfl
  have F_isn := fun_mk (st := sIn) l_isn c_isn k_isn
  have g_isn : mg "is_name" = some (.ref _) := PySem.W.mg_of X G a_isn
  have b_isn := F_isn.binds (ps := ["value"]) fun _ _ _ _ _ _ us hl => match us, hl with | [_], _ => rfl
  have F_who := fun_mk (st := sWh) l_who c_who k_who
  have g_who : mg "is_whole_number" = some (.ref _) := PySem.W.mg_of X G a_who
  have b_who := F_who.binds (ps := ["value"]) fun _ _ _ _ _ _ us hl => match us, hl with | [_], _ => rfl
  have F_ct := fun_mk (st := sCt) l_ct c_ct k_ct
  have g_ct : mg "is_counted_tuple" = some (.ref _) := PySem.W.mg_of X G a_ct
  have b_ct := F_ct.binds (ps := ["value"]) fun _ _ _ _ _ _ us hl => match us, hl with | [_], _ => rfl
  have F_hd := fun_mk (st := sHd) l_hd c_hd k_hd
  have g_hd : mg "has_duplicates" = some (.ref _) := PySem.W.mg_of X G a_hd
  have b_hd := F_hd.binds (ps := ["parts"]) fun _ _ _ _ _ _ us hl => match us, hl with | [_], _ => rfl
  have F_sr := fun_mk (st := sSr) l_sr c_sr k_sr
  have g_sr : mg "is_simple_requirement" = some (.ref _) := PySem.W.mg_of X G a_sr
  have b_sr := F_sr.binds (ps := ["value"]) fun _ _ _ _ _ _ us hl => match us, hl with | [_], _ => rfl
  have F_ir := fun_mk (st := sIr) l_ir c_ir k_ir
  have g_ir : mg "is_requirement" = some (.ref _) := PySem.W.mg_of X G a_ir
  have b_ir := F_ir.binds (ps := ["value"]) fun _ _ _ _ _ _ us hl => match us, hl with | [_], _ => rfl
  have F_nwr := fun_mk (st := sNwr) l_nwr c_nwr k_nwr
  have g_nwr : mg "names_with_repetition" = some (.ref _) := PySem.W.mg_of X G a_nwr
  have b_nwr := F_nwr.binds (ps := ["requirement"]) fun _ _ _ _ _ _ us hl => match us, hl with | [_], _ => rfl
  have F_nin := fun_mk (st := sNin) l_nin c_nin k_nin
  have g_nin : mg "names_in" = some (.ref _) := PySem.W.mg_of X G a_nin
  have b_nin := F_nin.binds (ps := ["requirement"]) fun _ _ _ _ _ _ us hl => match us, hl with | [_], _ => rfl
  have F_rb := fun_mk (st := sRb) l_rb c_rb k_rb
  have g_rb : mg "requirements_by_name" = some (.ref _) := PySem.W.mg_of X G a_rb
  have b_rb := F_rb.binds (ps := ["rows"]) fun _ _ _ _ _ _ us hl => match us, hl with | [_], _ => rfl
  have F_cu := fun_mk (st := sCu) l_cu c_cu k_cu
  have g_cu : mg "check_names_used" = some (.ref _) := PySem.W.mg_of X G a_cu
  have b_cu := F_cu.binds (ps := ["requirements"]) fun _ _ _ _ _ _ us hl => match us, hl with | [_], _ => rfl
  have F_box := fun_mk (st := sBox) l_box c_box k_box
  have g_box : mg "_law_box" = some (.ref _) := PySem.W.mg_of X G a_box
  have b_box := F_box.binds (ps := ["_law_script"]) fun _ _ _ _ _ _ us hl => match us, hl with | [_], _ => rfl
  have F_mix := fun_mk (st := sMixed) l_mix c_mix k_mix
  have g_mix : mg "_law_mixed" = some (.ref _) := PySem.W.mg_of X G a_mix
  have b_mix := F_mix.binds (ps := ["_law_cell", "_law_k"]) fun _ _ _ _ _ _ us hl => match us, hl with | [_, _], _ => rfl
  have F_take := fun_mk (st := sTake) l_take c_take k_take
  have g_take : mg "_law_take" = some (.ref _) := PySem.W.mg_of X G a_take
  have b_take := F_take.binds (ps := ["_law_box_here", "_law_size"]) fun _ _ _ _ _ _ us hl => match us, hl with | [_, _], _ => rfl
  have F_nam := fun_mk (st := sNames) l_nam c_nam k_nam
  have g_nam : mg "_law_names" = some (.ref _) := PySem.W.mg_of X G a_nam
  have b_nam := F_nam.binds (ps := ["_law_box_here", "_law_many"]) fun _ _ _ _ _ _ us hl => match us, hl with | [_, _], _ => rfl
  have F_som := fun_mk (st := sSome) l_som c_som k_som
  have g_som : mg "_law_some" = some (.ref _) := PySem.W.mg_of X G a_som
  have b_som := F_som.binds (ps := ["_law_box_here", "_law_values"]) fun _ _ _ _ _ _ us hl => match us, hl with | [_, _], _ => rfl
  have F_cnt := fun_mk (st := sCount) l_cnt c_cnt k_cnt
  have g_cnt : mg "_law_count" = some (.ref _) := PySem.W.mg_of X G a_cnt
  have b_cnt := F_cnt.binds (ps := ["_law_box_here", "_law_many"]) fun _ _ _ _ _ _ us hl => match us, hl with | [_, _], _ => rfl
  have F_lis := fun_mk (st := sLis) l_lis c_lis k_lis
  have g_lis : mg "_law_listed" = some (.ref _) := PySem.W.mg_of X G a_lis
  have b_lis := F_lis.binds (ps := ["_law_parts"]) fun _ _ _ _ _ _ us hl => match us, hl with | [_], _ => rfl
  have F_req := fun_mk (st := sReq) l_req c_req k_req
  have g_req : mg "_law_requirement" = some (.ref _) := PySem.W.mg_of X G a_req
  have b_req := F_req.binds (ps := ["_law_box_here", "_law_names_here"]) fun _ _ _ _ _ _ us hl => match us, hl with | [_, _], _ => rfl
  have F_rows := fun_mk (st := sRows) l_rows c_rows k_rows
  have g_rows : mg "_law_rows" = some (.ref _) := PySem.W.mg_of X G a_rows
  have b_rows := F_rows.binds (ps := ["_law_box_here", "_law_most"]) fun _ _ _ _ _ _ us hl => match us, hl with | [_, _], _ => rfl
  have F_lni := fun_mk (st := sLni) l_lni c_lni k_lni
  have g_lni : mg "_law_names_in" = some (.ref _) := PySem.W.mg_of X G a_lni
  have b_lni := F_lni.binds (ps := ["_law_requirement_here"]) fun _ _ _ _ _ _ us hl => match us, hl with | [_], _ => rfl
  have F_lnm := fun_mk (st := sLn) l_lnm c_lnm k_lnm
  have g_lnm : mg "_law_is_name" = some (.ref _) := PySem.W.mg_of X G a_lnm
  have b_lnm := F_lnm.binds (ps := ["_law_value"]) fun _ _ _ _ _ _ us hl => match us, hl with | [_], _ => rfl
  have F_th := fun_mk (st := sTh) l_th c_th k_th
  have g_th : mg "_law_is_threshold" = some (.ref _) := PySem.W.mg_of X G a_th
  have b_th := F_th.binds (ps := ["_law_value", "_law_deep"]) fun _ _ _ _ _ _ us hl => match us, hl with | [_, _], _ => rfl
  have F_ldu := fun_mk (st := sDu) l_ldu c_ldu k_ldu
  have g_ldu : mg "_law_due" = some (.ref _) := PySem.W.mg_of X G a_ldu
  have b_ldu := F_ldu.binds (ps := ["_law_rows_here"]) fun _ _ _ _ _ _ us hl => match us, hl with | [_], _ => rfl
  have F_chg := fun_mk (st := sCh) l_chg c_chg k_chg
  have g_chg : mg "_law_changed" = some (.ref _) := PySem.W.mg_of X G a_chg
  have b_chg := F_chg.binds (ps := ["_law_box_here", "_law_rows_here"]) fun _ _ _ _ _ _ us hl => match us, hl with | [_, _], _ => rfl
  have F_made := fun_mk (st := sMa) l_made c_made k_made
  have g_made : mg "_law_made" = some (.ref _) := PySem.W.mg_of X G a_made
  have b_made := F_made.binds (ps := ["_law_rows_here"]) fun _ _ _ _ _ _ us hl => match us, hl with | [_], _ => rfl
  have F_law := fun_mk (st := sLaw) l_law c_law k_law
  have g_law : mg "law" = some (.ref _) := PySem.W.mg_of X G a_law
  have b_law := F_law.binds (ps := ["_law_script"]) fun _ _ _ _ _ _ us hl => match us, hl with | [_], _ => rfl
  have F_ini : FunD K "__init__" "Network.__init__" (defArgs sNi) (defBody sNi) (defScope sNi) [.ref eA] [] f_ini (PySem.W.fnOf "__init__" "Network.__init__" (defArgs sNi) (defBody sNi) (defScope sNi) (.ref dT) kV_ini dc_ini pm_ini an_ini cd_ini ct_ini) :=
    ⟨⟨_, _, _, _, _, _, _, _, _, _, rfl, l_ini, c_ini, .inr ⟨by simp, dT, _, [.ref eA], nT, rfl, y_dT, rfl, .cons rfl .nil⟩, .inl rfl⟩, k_ini⟩
  obtain ⟨ds, vds, b_ini⟩ := F_ini.binds1 (ps := ["self", "rows"]) 2 1 (by simp) rfl (fun T kV doc pm an cdv ct us its h1 h2 => match us, its, h1, h2 with | [_, _], [_], _, _ => ⟨_, rfl, rfl⟩)
  have eds : ds = [] := by
    cases vds
    rfl
  subst eds
  have TW : FourC K mg ⟨En, Ed, Er, Eu⟩ CM f_ni f_di f_ri f_ui := ⟨⟨⟨⟨nm_n, q_n, N_n, bs_n, bm_n, sn_n, sub_n, ab_n, col_n, dd_n, m0_n, m1_n, m2_n, m3_n, m5_n, x_n, r_n⟩, sa_n, ex_n, ty_n, kp_n⟩, ⟨ga_n, gg_n, ex_n, hd_nn⟩, PySem.W.mg_of X G ag_n, in_n, ti_n⟩, ⟨⟨⟨nm_d, q_d, N_d, bs_d, bm_d, sn_d, sub_d, ab_d, col_d, dd_d, m0_d, m1_d, m2_d, m3_d, m5_d, x_d, r_d⟩, sa_d, ex_d, ty_d, kp_d⟩, ⟨ga_d, gg_d, ex_d, hd_dd⟩, PySem.W.mg_of X G ag_d, in_d, ti_d⟩, ⟨⟨⟨nm_r, q_r, N_r, bs_r, bm_r, sn_r, sub_r, ab_r, col_r, dd_r, m0_r, m1_r, m2_r, m3_r, m5_r, x_r, r_r⟩, sa_r, ex_r, ty_r, kp_r⟩, ⟨ga_r, gg_r, ex_r, hd_rr⟩, PySem.W.mg_of X G ag_r, in_r, ti_r⟩, ⟨⟨⟨nm_u, q_u, N_u, bs_u, bm_u, sn_u, sub_u, ab_u, col_u, dd_u, m0_u, m1_u, m2_u, m3_u, m5_u, x_u, r_u⟩, sa_u, ex_u, ty_u, kp_u⟩, ⟨ga_u, gg_u, ex_u, hd_uu⟩, PySem.W.mg_of X G ag_u, in_u, ti_u⟩, PySem.W.mg_of X G ag_m, no_n, no_d, no_r, no_u, exm_by ex_n ic_n ty_n s_nn, exm_by ex_n ic_n ty_n s_dn, exm_by ex_d ic_d ty_d s_dd, exm_by ex_n ic_n ty_n s_rn, exm_by ex_d ic_d ty_d s_rd, exm_by ex_r ic_r ty_r s_rr, exm_by ex_n ic_n ty_n s_un, exm_by ex_d ic_d ty_d s_ud, exm_by ex_r ic_r ty_r s_ur, exm_by ex_u ic_u ty_u s_uu⟩
  have F_ni := fun_mk (st := sE3) l_ni c_ni k_ni
  have b_ni := F_ni.binds (ps := ["self", "value"]) fun _ _ _ _ _ _ us hl => match us, hl with | [_, _], _ => rfl
  have F_di := fun_mk (st := sE4) l_di c_di k_di
  have b_di := F_di.binds (ps := ["self", "name"]) fun _ _ _ _ _ _ us hl => match us, hl with | [_, _], _ => rfl
  have F_ri := fun_mk (st := sE5) l_ri c_ri k_ri
  have b_ri := F_ri.binds (ps := ["self", "name"]) fun _ _ _ _ _ _ us hl => match us, hl with | [_, _], _ => rfl
  have F_ui := fun_mk (st := sE6) l_ui c_ui k_ui
  have b_ui := F_ui.binds (ps := ["self", "name"]) fun _ _ _ _ _ _ us hl => match us, hl with | [_, _], _ => rfl
  refine ⟨PySem.W.fnOf "law" "law" (defArgs sLaw) (defBody sLaw) (defScope sLaw) .none kV_law dc_law pm_law an_law cd_law ct_law, fun s v => .of_eq rfl, fun base _ _ => ?_⟩
  have G_take : FnOk l.prog w K mg base CX0 2 _ _ _ spTake := ok_take (k := 0) F_take F_mix b_mix g_mix T0.len T0.max
  have G_nam : FnOk l.prog w K mg base CX0 3 _ _ _ spNames := ok_names F_nam F_take b_take g_take G_take T0.rng
  have G_som : FnOk l.prog w K mg base CX0 3 _ _ _ spSome := ok_some F_som F_take b_take g_take G_take T0.rng T0.len T0.lst
  have G_cnt : FnOk l.prog w K mg base CX0 3 _ _ _ spCount := ok_count F_cnt F_take b_take g_take G_take T0.min
  have G_lis : FnOk l.prog w K mg base CX0 3 _ _ _ spLis := ok_lis (k := 2) F_lis T0
  have G_req : FnOk l.prog w K mg base CX0 4 _ _ _ spReq := ok_req (k := 3) F_req F_take b_take g_take (G_take.mono (by decide)) F_som b_som g_som G_som F_cnt b_cnt g_cnt G_cnt F_lis b_lis g_lis G_lis (by decide) T0
  have G_box : FnOk l.prog w K mg base CX0 1 _ _ _ (spBox K) := ok_box (k := 0) F_box
  have G_nwr : FnOk l.prog w K mg base CX0 2 _ _ _ (spNwr fun _ => True) := ok_nwr_all F_nwr b_nwr g_nwr T0
  have G_ns : FnOk l.prog w K mg base CX0 2 _ _ _ (spNs K) := ok_ns (k := 1) F_ns T0.tup T0.srt T0.set
  have G_nin : FnOk l.prog w K mg base CX0 3 _ _ _ spNin := ok_nin F_nin F_ns b_ns g_ns F_nwr b_nwr g_nwr G_ns G_nwr
  have G_lni : FnOk l.prog w K mg base CX0 1 _ _ _ (spNwr fun _ => True) := ok_lni (k := 0) F_lni T0
  have G_isn : FnOk l.prog w K mg base CX0 1 _ _ _ (spIn K) := ok_isname (k := 0) F_isn T
  have G_ct : FnOk l.prog w K mg base CX0 2 _ _ _ spCt := ok_counted (k := 0) F_ct T F_who b_who g_who
  have G_hd : FnOk l.prog w K mg base CX0 1 _ _ _ (spHd K) := ok_dup (k := 0) F_hd T
  have G_sr : FnOk l.prog w K mg base CX0 3 _ _ _ spSr := ok_simple (k := 2) F_sr T F_ct b_ct g_ct G_ct F_isn b_isn g_isn (G_isn.mono (by decide)) F_hd b_hd g_hd (G_hd.mono (by decide))
  have G_ir : FnOk l.prog w K mg base CX0 4 _ _ _ spIr := ok_isreq (k := 3) F_ir T F_ct b_ct g_ct (G_ct.mono (by decide)) F_isn b_isn g_isn (G_isn.mono (by decide)) F_sr b_sr g_sr G_sr F_hd b_hd g_hd (G_hd.mono (by decide)) F_nwr b_nwr g_nwr (G_nwr.mono (by decide))
  have G_rows : FnOk l.prog w K mg base CX0 5 _ _ _ spRows := ok_rows (k := 4) F_rows F_take b_take g_take (G_take.mono (by decide)) F_nam b_nam g_nam (G_nam.mono (by decide)) F_req b_req g_req (G_req.mono (by decide)) T0
  have G_isnD : FnOk l.prog w K mg base CX0 1 _ _ _ spInD := ok_isnameD (k := 0) F_isn T
  have G_ctD : FnOk l.prog w K mg base CX0 2 _ _ _ spCtD := ok_countedD (k := 0) F_ct T F_who b_who g_who
  have G_hdS : FnOk l.prog w K mg base CX0 1 _ _ _ (spHdS K) := ok_dupS (k := 0) F_hd T
  have G_irB : FnOk l.prog w K mg base CX0 4 _ _ _ spIrB := ok_isreqB (k := 3) F_ir T F_ct b_ct g_ct (G_ctD.mono (by decide)) F_isn b_isn g_isn (G_isnD.mono (by decide)) F_sr b_sr g_sr (G_sr.mono (by decide)) F_hd b_hd g_hd (G_hdS.mono (by decide))
  have G_irA : FnOk l.prog w K mg base CX0 4 _ _ _ (fun vs H Q E => spIr vs H Q E ∨ spIrB vs H Q E) := FnOk.or G_ir G_irB
  have G_ni : FnOk l.prog w K mg base CX0 1 _ _ _ (spEx1 "value" En) := ok_e3 (k := 0) F_ni TW.N.oex TW.nN
  have G_di : FnOk l.prog w K mg base CX0 1 _ _ _ (spEx1 "name" Ed) := ok_e4 (k := 0) F_di TW.D.oex TW.nD
  have G_ri : FnOk l.prog w K mg base CX0 1 _ _ _ (spEx1 "name" Er) := ok_e5 (k := 0) F_ri TW.R.oex TW.nR
  have G_ui : FnOk l.prog w K mg base CX0 1 _ _ _ (spEx1 "name" Eu) := ok_e6 (k := 0) F_ui TW.U.oex TW.nU
  have G_rbX : FnOk l.prog w K mg base (L2.CX l.prog w) 5 _ _ _ (spRbX K ⟨En, Ed, Er, Eu⟩) := ok_bynameX (k := 3) F_rb T F_isn b_isn g_isn (G_isnD.mono (by decide)) F_ir b_ir g_ir (G_irA.mono (by decide)) TW.N b_ni (G_ni.mono (by decide)) TW.D b_di (G_di.mono (by decide)) TW.R b_ri (G_ri.mono (by decide))
  have G_cuX : FnOk l.prog w K mg base (L2.CX l.prog w) 5 _ _ _ (spCuX ⟨En, Ed, Er, Eu⟩) := ok_usedX (k := 3) F_cu T F_nin b_nin g_nin (G_nin.mono (by decide)) TW.U b_ui (G_ui.mono (by decide))
  have G_iniX : FnOk l.prog w K mg base (L2.CX l.prog w) 6 _ _ _ (spNiX K C ⟨En, Ed, Er, Eu⟩) := ok_netinitX (k := 5) F_ini T TX F_rb b_rb g_rb (G_rbX.mono (by decide)) F_cu b_cu g_cu (G_cuX.mono (by decide))
  have G_made : FnOk l.prog w K mg base CX0 8 _ _ _ (spMa K) := ok_made (k := 6) F_made T TX TW ⟨w_mk, a_ini, i_ini, w_kc⟩ b_ini G_iniX
  have G_lnm : FnOk l.prog w K mg base CX0 1 _ _ _ spInD := ok_lname (k := 0) F_lnm T
  have G_th0 : FnOk l.prog w K mg base CX0 2 _ _ _ (spTh false) := ok_th (k := 1) F_th T b_th g_th (fn_none 1 (sp := fun _ _ _ _ => False) fun _ _ _ _ h => h) (fun e => by cases e) F_lnm b_lnm g_lnm G_lnm
  have G_th1 : FnOk l.prog w K mg base CX0 3 _ _ _ (spTh true) := ok_th (k := 2) F_th T b_th g_th G_th0 (fun _ => rfl) F_lnm b_lnm g_lnm (G_lnm.mono (by decide))
  have G_ldu : FnOk l.prog w K mg base CX0 4 _ _ _ (spDu K) := ok_due (k := 3) F_ldu T F_lnm b_lnm g_lnm (G_lnm.mono (by decide)) F_th b_th g_th G_th1 F_lni b_lni g_lni (G_lni.mono (by decide))
  have G_chg : FnOk l.prog w K mg base CX0 3 _ _ _ spCh := ok_changed (k := 2) F_chg T F_take b_take g_take G_take
  exact ok_law (k := 8) F_law T F_box b_box g_box (G_box.mono (by decide)) F_take b_take g_take (G_take.mono (by decide)) F_rows b_rows g_rows (G_rows.mono (by decide)) F_chg b_chg g_chg (G_chg.mono (by decide)) F_ldu b_ldu g_ldu (G_ldu.mono (by decide)) F_made b_made g_made (G_made.mono (by decide))
end Moot
open PySem PySem.W PyProof.Rows
set_option maxRecDepth 100000 in
set_option maxHeartbeats 0 in
theorem PySem.Challenge.cw_oathmoot_k07_networks_refused_holds : PySem.Challenge.rw_oathmoot_k07_networks_refused.Holds := by
  w_on; o_law; k_head; (case hw => w_witness2)
  k_fill
  refine L2.walk_of (l := PySem.Challenge.rw_oathmoot_k07_networks_refused) (n := 63) (k := 9) (x := "_law_script") (CX := fun _ => L2.CX0) (sp := fun w => Moot.spLaw _) rfl (by decide) rfl ⟨rfl, by decide, by decide⟩ (fun w h Y => PySem.W.kIn_of Y) ?F (fun _ _ a ns hl _ hS => ⟨a, ns, rfl, hS, hl, fun _ => rfl⟩) (fun _ _ _ _ _ h => h)
  case F =>
    intro w mg fa h KX G hmg
    refine' Moot.all_mk KX G hmg ?aC ?ag_n ?x_n ?r_n ?sa_n ?ga_n ?gg_n ?ex_n ?ty_n ?kp_n ?hd_nn ?ic_n ?no_n ?in_n ?ti_n ?l_ni ?c_ni ?k_ni ?ag_d ?x_d ?r_d ?sa_d ?ga_d ?gg_d ?ex_d ?ty_d ?kp_d ?hd_dd ?ic_d ?no_d ?in_d ?ti_d ?l_di ?c_di ?k_di ?ag_r ?x_r ?r_r ?sa_r ?ga_r ?gg_r ?ex_r ?ty_r ?kp_r ?hd_rr ?ic_r ?no_r ?in_r ?ti_r ?l_ri ?c_ri ?k_ri ?ag_u ?x_u ?r_u ?sa_u ?ga_u ?gg_u ?ex_u ?ty_u ?kp_u ?hd_uu ?ic_u ?no_u ?in_u ?ti_u ?l_ui ?c_ui ?k_ui ?ag_m ?s_nn ?s_dn ?s_dd ?s_rn ?s_rd ?s_rr ?s_un ?s_ud ?s_ur ?s_uu ?a_ns ?l_ns ?c_ns ?k_ns ?a_isn ?l_isn ?c_isn ?k_isn ?a_who ?l_who ?c_who ?k_who ?a_ct ?l_ct ?c_ct ?k_ct ?a_hd ?l_hd ?c_hd ?k_hd ?a_sr ?l_sr ?c_sr ?k_sr ?a_ir ?l_ir ?c_ir ?k_ir ?a_nwr ?l_nwr ?c_nwr ?k_nwr ?a_nin ?l_nin ?c_nin ?k_nin ?a_rb ?l_rb ?c_rb ?k_rb ?a_cu ?l_cu ?c_cu ?k_cu ?a_box ?l_box ?c_box ?k_box ?a_mix ?l_mix ?c_mix ?k_mix ?a_take ?l_take ?c_take ?k_take ?a_nam ?l_nam ?c_nam ?k_nam ?a_som ?l_som ?c_som ?k_som ?a_cnt ?l_cnt ?c_cnt ?k_cnt ?a_lis ?l_lis ?c_lis ?k_lis ?a_req ?l_req ?c_req ?k_req ?a_rows ?l_rows ?c_rows ?k_rows ?a_lni ?l_lni ?c_lni ?k_lni ?a_lnm ?l_lnm ?c_lnm ?k_lnm ?a_th ?l_th ?c_th ?k_th ?a_ldu ?l_ldu ?c_ldu ?k_ldu ?a_chg ?l_chg ?c_chg ?k_chg ?a_made ?l_made ?c_made ?k_made ?a_law ?l_law ?c_law ?k_law ?a_ini ?i_ini ?l_ini ?c_ini ?k_ini ?y_dT ?y_let ?y_lon ?y_mn ?y_md ?w_pg ?w_hd ?w_po ?w_sa ?w_mk ?w_kc ?w_nR ?z_isi ?z_str ?z_len ?z_tup ?z_lst ?z_srt ?z_set ?z_rng ?z_int ?z_bool ?z_sum ?z_min ?z_max ?z_all ?z_any ?z_dict
    (case aC => k_is)
    (case ag_n => k_is); (case x_n => k_is); (case r_n => decide +kernel); (case sa_n => k_is); (case ga_n => k_is); (case gg_n => k_is)
    (case ex_n => k_is); (case ty_n => k_is); (case kp_n => k_is); (case hd_nn => k_is); (case ic_n => k_is); (case no_n => k_is)
    (case in_n => k_is); (case ti_n => k_is); (case l_ni => k_is); (case c_ni => k_is); (case k_ni => k_is); (case ag_d => k_is)
    (case x_d => k_is); (case r_d => decide +kernel); (case sa_d => k_is); (case ga_d => k_is); (case gg_d => k_is); (case ex_d => k_is)
    (case ty_d => k_is); (case kp_d => k_is); (case hd_dd => k_is); (case ic_d => k_is); (case no_d => k_is); (case in_d => k_is)
    (case ti_d => k_is); (case l_di => k_is); (case c_di => k_is); (case k_di => k_is); (case ag_r => k_is); (case x_r => k_is)
    (case r_r => decide +kernel); (case sa_r => k_is); (case ga_r => k_is); (case gg_r => k_is); (case ex_r => k_is); (case ty_r => k_is)
    (case kp_r => k_is); (case hd_rr => k_is); (case ic_r => k_is); (case no_r => k_is); (case in_r => k_is); (case ti_r => k_is)
    (case l_ri => k_is); (case c_ri => k_is); (case k_ri => k_is); (case ag_u => k_is); (case x_u => k_is); (case r_u => decide +kernel)
    (case sa_u => k_is); (case ga_u => k_is); (case gg_u => k_is); (case ex_u => k_is); (case ty_u => k_is); (case kp_u => k_is)
    (case hd_uu => k_is); (case ic_u => k_is); (case no_u => k_is); (case in_u => k_is); (case ti_u => k_is); (case l_ui => k_is)
    (case c_ui => k_is); (case k_ui => k_is); (case ag_m => k_is); (case s_nn => first | rfl | k_is); (case s_dn => k_is); (case s_dd => first | rfl | k_is)
    (case s_rn => k_is); (case s_rd => k_is); (case s_rr => first | rfl | k_is); (case s_un => k_is); (case s_ud => k_is); (case s_ur => k_is)
    (case s_uu => first | rfl | k_is)
    (case a_ns => k_is); (case l_ns => k_is); (case c_ns => k_is); (case k_ns => k_is); (case a_isn => k_is); (case l_isn => k_is); (case c_isn => k_is)
    (case k_isn => k_is); (case a_who => k_is); (case l_who => k_is); (case c_who => k_is); (case k_who => k_is); (case a_ct => k_is); (case l_ct => k_is); (case c_ct => k_is)
    (case k_ct => k_is); (case a_hd => k_is); (case l_hd => k_is); (case c_hd => k_is); (case k_hd => k_is); (case a_sr => k_is); (case l_sr => k_is); (case c_sr => k_is)
    (case k_sr => k_is); (case a_ir => k_is); (case l_ir => k_is); (case c_ir => k_is); (case k_ir => k_is); (case a_nwr => k_is); (case l_nwr => k_is); (case c_nwr => k_is)
    (case k_nwr => k_is); (case a_nin => k_is); (case l_nin => k_is); (case c_nin => k_is); (case k_nin => k_is); (case a_rb => k_is); (case l_rb => k_is); (case c_rb => k_is)
    (case k_rb => k_is); (case a_cu => k_is); (case l_cu => k_is); (case c_cu => k_is); (case k_cu => k_is); (case a_box => k_is); (case l_box => k_is); (case c_box => k_is)
    (case k_box => k_is); (case a_mix => k_is); (case l_mix => k_is); (case c_mix => k_is); (case k_mix => k_is); (case a_take => k_is); (case l_take => k_is); (case c_take => k_is)
    (case k_take => k_is); (case a_nam => k_is); (case l_nam => k_is); (case c_nam => k_is); (case k_nam => k_is); (case a_som => k_is); (case l_som => k_is); (case c_som => k_is)
    (case k_som => k_is); (case a_cnt => k_is); (case l_cnt => k_is); (case c_cnt => k_is); (case k_cnt => k_is); (case a_lis => k_is); (case l_lis => k_is); (case c_lis => k_is)
    (case k_lis => k_is); (case a_req => k_is); (case l_req => k_is); (case c_req => k_is); (case k_req => k_is); (case a_rows => k_is); (case l_rows => k_is); (case c_rows => k_is)
    (case k_rows => k_is); (case a_lni => k_is); (case l_lni => k_is); (case c_lni => k_is); (case k_lni => k_is); (case a_lnm => k_is); (case l_lnm => k_is); (case c_lnm => k_is)
    (case k_lnm => k_is); (case a_th => k_is); (case l_th => k_is); (case c_th => k_is); (case k_th => k_is); (case a_ldu => k_is); (case l_ldu => k_is); (case c_ldu => k_is)
    (case k_ldu => k_is); (case a_chg => k_is); (case l_chg => k_is); (case c_chg => k_is); (case k_chg => k_is); (case a_made => k_is); (case l_made => k_is); (case c_made => k_is)
    (case k_made => k_is); (case a_law => k_is); (case l_law => k_is); (case c_law => k_is); (case k_law => k_is); (case a_ini => k_is); (case i_ini => k_is); (case l_ini => k_is)
    (case c_ini => k_is); (case k_ini => k_is); (case y_dT => k_is); (case y_let => k_is); (case y_lon => k_is); (case y_mn => k_is); (case y_md => k_is); (case w_pg => k_is)
    (case w_hd => k_is); (case w_po => k_is); (case w_sa => k_is); (case w_mk => k_is); (case w_kc => k_is); (case w_nR => k_is); (case z_isi => k_is); (case z_str => k_is)
    (case z_len => k_is); (case z_tup => k_is); (case z_lst => k_is); (case z_srt => k_is); (case z_set => k_is); (case z_rng => k_is); (case z_int => k_is); (case z_bool => k_is)
    (case z_sum => k_is); (case z_min => k_is); (case z_max => k_is); (case z_all => k_is); (case z_any => k_is); (case z_dict => k_is)
