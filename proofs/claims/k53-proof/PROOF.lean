import PyProof.Rows.All
import Wide.All
import OpenK.AllK
import Wide.FinOn
import HandS.ForMost
import HandS.Deep
import HandS.More
import HandS.IsInst
import HandS.Flow
import PyProof.ToksMono
import HandS.Replace
import PyProof.Rows.SetFrom
import HandS.List
import HandS.Set
import PyProof.SetRoads
import HandS.TupSets
import KE.KeyNested
import HandS.Codes
import HandS.Walk
import PyProof.TupleOfGen
import HandS.DictComp
import HandS.Conv
import HandS.Defaults
import HandS.Star
import KE.SortKeyHeap
import HandS.SortKw
import HandS.ListItems
import HandS.TupAny
import KE.KDictExact
import KE.KDictList
import HandS.Dict
import HandS.TryOnly
import KE.KDictKeyed
import HandS.Exc
import HandS.TryMany
import HandS.ExcInit
import HandS.ExcField
import HandS.ExcIs
import HandS.WordsExc
import PyProof.P3In
import HandS.CallLocal
import KE.SortData
import HandS.SortRule
import KE.SortCalls
import KE.KRevSl
import HandS.EndTab
import PySem.Challenge.RW_oathmoot_k53_histories_of_any_value
set_option Elab.async false
set_option linter.unusedVariables false
set_option maxRecDepth 100000
set_option maxHeartbeats 8000000
/-! Lists and tuples whose texts are known to bear a token. -/
namespace Moot
open PySem PySem.Spec PyProof.Rows L2
/-- a text with a token, or no text -/
def GdV : Value → Prop
  | .str _ t => t ≠ 0
  | _ => True
def GdS (us : List Value) : Prop := ∀ u ∈ us, GdV u
theorem GdS.append {us vs : List Value} (a : GdS us) (b : GdS vs) : GdS (us ++ vs) := fun u m => (List.mem_append.mp m).elim (a u) (b u)
theorem GdS.one {u : Value} (h : GdV u) : GdS [u] := fun v m => by
  rw [List.mem_singleton.mp m]
  exact h
theorem GdS.take {us : List Value} (a : GdS us) (n : Nat) : GdS (us.take n) := fun u m => a u (List.mem_of_mem_take m)
theorem GdS.drop {us : List Value} (a : GdS us) (n : Nat) : GdS (us.drop n) := fun u m => a u (List.mem_of_mem_drop m)
theorem GdS.erase {us : List Value} (a : GdS us) (n : Nat) : GdS (us.eraseIdx n) := fun u m => a u (List.mem_of_mem_eraseIdx m)
/-- no text at all -/
theorem gd_refs : ∀ {xs : List V} {us : List Value}, Vals xs us → (∀ x ∈ xs, ∃ a, x = V.ref a) → GdS us
  | _, _, .nil, _ => fun u m => by cases m
  | _, _, .cons r t, h => fun u m => by
    rcases List.mem_cons.mp m with e | m
    · obtain ⟨a, rfl⟩ := h _ List.mem_cons_self
      cases r
      rw [e]
      trivial
    · exact gd_refs t (fun x mx => h x (List.mem_cons_of_mem _ mx)) u m
/-- the list's object, its items xs, each text with a token -/
def GdL (o : Obj) (xs : List V) : Prop := ∃ (its : List Value) (n : Nat), o = { cls := .type "list", data := .seq its.toArray n } ∧ Vals xs its ∧ GdS its
/-- the tuple's object -/
def GdT (o : Obj) (xs : List V) : Prop := ∃ (its : List Value) (n : Nat), o.cls = .type "tuple" ∧ o.data = .seq its.toArray n ∧ Vals xs its ∧ GdS its
/-- a list known so -/
def GLs (H : Hp) (l : Addr) (xs : List V) : Prop := ∃ o, GdL o xs ∧ H l = some (.frz o (.lst xs))
def GTp (H : Hp) (l : Addr) (xs : List V) : Prop := ∃ o, GdT o xs ∧ H l = some (.frz o (.tup xs))
theorem GLs.seq {K : PySem.W.Frag} {H : Hp} {l : Addr} {xs : List V} (h : GLs H l xs) : SqL K H l xs := let ⟨o, _, e⟩ := h; .inl (.inr ⟨o, e⟩)
theorem GTp.seq {K : PySem.W.Frag} {H : Hp} {l : Addr} {xs : List V} (h : GTp H l xs) : SqT K H l xs := let ⟨o, _, e⟩ := h; .inl (.inr ⟨o, e⟩)
/-- it was not locked when the def began -/
def Nf (X : Cx) (l : Addr) : Prop := ∀ o u, X.H_0 l ≠ some (.frz o u)
section
variable {X : Cx} {pins : List (Addr × Obj)} {σ : List (Option V)} {H : Hp} {s : Shared} {l : Addr} {xs ys : List V}
/-- a list is told of in another way -/
theorem inv_recast {A B : HO} (I : Inv X pins σ H s) (h : H l = some A) (hA : (∃ xs, A = .lst xs) ∨ ∃ o xs, A = .frz o (.lst xs)) (nf : Nf X l) (new : ObjOk X.prog X.w (upd H l B) s.heap l B) : Inv X pins σ (upd H l B) s := by
  have nt : ∀ b ys, H b = some (.tup ys) → b ≠ l := fun b ys e z => by
    rw [z, h] at e
    rcases hA with ⟨_, rfl⟩ | ⟨_, _, rfl⟩ <;> cases e
  have no : ∀ b y, H b = some (.own y) → b ≠ l := fun b y e z => by
    rw [z, h] at e
    rcases hA with ⟨_, rfl⟩ | ⟨_, _, rfl⟩ <;> cases e
  have nb : ∀ b ps, H b = some (.tbl ps) → b ≠ l := fun b ps e z => by
    rw [z, h] at e
    rcases hA with ⟨_, rfl⟩ | ⟨_, _, rfl⟩ <;> cases e
  have nn : ∀ b, H b = none → b ≠ l := fun b e z => by
    rw [z, h] at e
    cases e
  have hok : HOk X.prog X.w (upd H l B) s.heap := fun b u q => by
    by_cases e : b = l
    · subst e
      rw [upd_same] at q
      cases q
      exact new
    · rw [upd_ne e] at q
      exact (I.hok b u q).stay (fun _ _ _ r => r) (fun c r => by rw [upd_ne (no c b r)]; exact r) fun c zs r => by rw [upd_ne (nt c zs r)]; exact r
  have base : Un X.fs X.ex X.H_0 (upd H l B) X.s_0.heap s.heap := ⟨I.base.keep, I.base.slot, fun b o e n hx => by
      have z := I.base.free b o e n hx
      rw [upd_ne (nn b z)]
      exact z, I.base.there, fun b zs e => by
      have z := I.base.tups b zs e
      rw [upd_ne (nt b zs z)]
      exact z, fun b o u e => by
      by_cases q : b = l
      · subst q
        exact absurd e (nf o u)
      · rw [upd_ne q]
        exact I.base.frzs b o u e, fun b ps e => by
      obtain ⟨more, z⟩ := I.base.tbls b ps e
      exact ⟨more, by rw [upd_ne (nb b _ z)]; exact z⟩⟩
  exact ⟨I.ok, I.os, I.bare, base, I.loc, I.cell, by rw [upd_ne (nn _ I.free)]; exact I.free, fun x c e => by rw [upd_ne (nn _ (I.freeC x c e))]; exact I.freeC x c e,
    fun p hp => let ⟨a, b, c⟩ := I.pin p hp; ⟨a, by rw [upd_ne (nn _ b)]; exact b, c⟩, hok, I.len⟩
theorem inv_melt {o : Obj} (I : Inv X pins σ H s) (h : H l = some (.frz o (.lst xs))) (nf : Nf X l) : Inv X pins σ (upd H l (.lst xs)) s := by
  obtain ⟨_, z, its, n, r, e⟩ := I.hok l _ h
  exact inv_recast I h (.inr ⟨_, _, rfl⟩) nf ⟨z, its, n, r, e⟩
theorem inv_lock {o : Obj} (I : Inv X pins σ H s) (h : H l = some (.lst xs)) (nf : Nf X l) (e : s.heap.get? l = some o) : Inv X pins σ (upd H l (.frz o (.lst xs))) s := by
  obtain ⟨z, its, n, r, e'⟩ := I.hok l _ h
  exact inv_recast I h (.inl ⟨_, rfl⟩) nf ⟨e, z, its, n, r, e'⟩
/-- a known list is rewritten -/
theorem inv_reset {o : Obj} {its its' : List Value} {n : Nat} {f : Array Value → Array Value} {t' : Nat} (I : Inv X pins σ H s) (h : H l = some (.frz o (.lst xs))) (nf : Nf X l)
    (e : s.heap.get? l = some { cls := .type "list", data := .seq its.toArray n }) (hf : f its.toArray = its'.toArray) (hv : Vals ys its') (hz : ys.length ≤ sizeLine) (g : GdS its') :
    ∃ o', GdL o' ys ∧ Inv X pins σ (upd H l (.frz o' (.lst ys))) { s with heap := s.heap.update l (Obj.mapSeq f), toks := t' } := by
  have I1 := inv_melt I h nf
  have I2 := I1.lset (t' := t') upd_same e hf hv hz
  have q := PySem.IsL.update e f
  rw [hf] at q
  have I3 := inv_lock I2 upd_same nf q
  rw [upd_upd, upd_upd] at I3
  exact ⟨_, ⟨its', _, rfl, hv, g⟩, I3⟩
/-- xs.insert(i, y), y no text, into a known list -/
theorem mt_insertG : MtR X "list.insert" (fun x vs H Q => ∃ (l : Addr) (xs : List V) (i : Int) (a : Addr), x = .ref l ∧ vs = [.int i, .ref a] ∧ GLs H l xs ∧ Nf X l ∧ xs.length < sizeLine ∧ 0 ≤ i ∧ i < 2 ^ 63 ∧
    ∀ o', GdL o' (xs.take i.toNat ++ [.ref a] ++ xs.drop i.toNat) → Q .non (upd H l (.frz o' (.lst (xs.take i.toNat ++ [.ref a] ++ xs.drop i.toNat))))) := by
  intro pins s σ H x vs v us Q I rx rv h
  obtain ⟨l, xs, i, a, rfl, rfl, ⟨o, ⟨its, n, rfl, r, g⟩, hH⟩, nf, hz, h0, h1, q⟩ := h
  cases rx
  obtain ⟨u1, u2, rfl, r1, r2⟩ := rv.two
  obtain ⟨t, rfl⟩ := r1
  cases r2
  have e := (I.hok l _ hH).1
  have hl := r.length
  refine call_meets F.slot_list_insert ⟨_, e, rfl⟩ F.entry_list_insert (F.args_list_insert_3 _ _ _) (AutoSeq1.list_insert_list_int_val_1 l its.toArray n i t (.ref a) (by simp [fitsIndex_of h0 h1]) (by rw [List.size_toArray]; omega)) ⟨e, ?_⟩
  have rel : Vals (xs.take i.toNat ++ [.ref a] ++ xs.drop i.toNat) (its.take i.toNat ++ [.ref a] ++ its.drop i.toNat) := ((r.take i.toNat).append (Paired.cons (show RelV (.ref a) (.ref a) from rfl) .nil)).append (r.drop i.toNat)
  have gd : GdS (its.take i.toNat ++ [.ref a] ++ its.drop i.toNat) := ((g.take _).append (GdS.one (u := .ref a) trivial)).append (g.drop _)
  have z : (xs.take i.toNat ++ [V.ref a] ++ xs.drop i.toNat).length ≤ sizeLine := by
    rw [List.length_append, List.length_append, List.length_take, List.length_drop, List.length_singleton]
    omega
  have hf : (fun xs : Array Value => have k := if i < 0 then (i + (xs.size : Int)).toNat else min i.toNat xs.size; (xs.extract 0 k).push (.ref a) ++ xs.extract k) its.toArray = (its.take i.toNat ++ [Value.ref a] ++ its.drop i.toNat).toArray := by
    dsimp only
    rw [PySem.W.kl_ins_eq, if_neg (by omega), List.size_toArray, PySem.W.kmk_take_min, PySem.W.kmk_drop_min, List.append_assoc]
    rfl
  obtain ⟨o', g', I'⟩ := inv_reset (f := fun xs : Array Value => have k := if i < 0 then (i + (xs.size : Int)).toNat else min i.toNat xs.size; (xs.extract 0 k).push (.ref a) ++ xs.extract k) (t' := s.toks) I hH nf e hf rel z gd
  exact ⟨.non, _, I', rfl, q _ g'⟩
/-- list(xs) of a known list is a known list -/
theorem call_listG : CallR X (.type "list") (fun xs H Q => ∃ p ys, xs = [.ref p] ∧ GLs H p ys ∧ ∀ l o, H l = none → GdL o ys → Q (.ref l) (upd H l (.frz o (.lst ys)))) := by
  intro pins s σ H xs us Q I r h
  obtain ⟨p, ys, rfl, ⟨o, ⟨its, n, rfl, r', g⟩, hH⟩, q⟩ := h
  obtain ⟨u, rfl, rx⟩ := vals1 r
  cases rx
  obtain ⟨e, hz, _⟩ := I.hok p _ hH
  have hlen := r'.length
  refine call_list_seq p (.inl rfl) e rfl rfl (fun h' c' kp e' => ?_) (by simp only [List.size_toArray] <;> omega)
  refine ⟨.ref s.heap.objs.size, _, I.laid (t' := s.toks) kp (Nat.le_refl _) (show ObjOk X.prog X.w _ h' _ (.frz _ (.lst ys)) from ⟨e', hz, its, c', r', e'⟩), rfl, q _ _ (I.hok.fresh (Nat.le_refl _)) ⟨its, c', rfl, r', g⟩⟩
/-- tuple(xs) of a known list, or of a list without texts, is a known tuple -/
theorem call_tupleG : CallR X (.type "tuple") (fun xs H Q => ∃ p ys, xs = [.ref p] ∧ (GLs H p ys ∨ (SqL X.K H p ys ∧ ∀ x ∈ ys, ∃ a, x = V.ref a)) ∧ ∀ l o, H l = none → GdT o ys → Q (.ref l) (upd H l (.frz o (.tup ys)))) := by
  intro pins s σ H xs us Q I r h
  obtain ⟨p, ys, rfl, hq, q⟩ := h
  obtain ⟨u, rfl, rx⟩ := vals1 r
  cases rx
  have key : ∃ its : List Value, Vals ys its ∧ GdS its ∧ s.heap.IsList p its.toArray ∧ ys.length ≤ sizeLine := by
    rcases hq with ⟨o, ⟨its, n, rfl, r', g⟩, hH⟩ | ⟨hq, refs⟩
    · obtain ⟨e, hz, _⟩ := I.hok p _ hH
      exact ⟨its, r', g, ⟨_, e, rfl, n, rfl⟩, hz⟩
    · obtain ⟨its, r', pl, hz⟩ := I.list hq
      exact ⟨its, r', gd_refs r' refs, pl.isList, hz⟩
  obtain ⟨its, r', g, il, hz⟩ := key
  have hlen := r'.length
  refine call_tuple_list il (fun h' kp => ?_) (by simp only [List.size_toArray] <;> omega)
  have I1 : Inv X pins σ H { s with heap := h' } := I.kept (t' := s.toks) kp
  have I2 : Inv X pins σ (upd H h'.objs.size (.frz { cls := .type "tuple", data := .seq its.toArray } (.tup ys))) { s with heap := h'.push { cls := .type "tuple", data := .seq its.toArray } } :=
    I1.laid (t' := s.toks) (fun b o e => Heap.get?_push_of_some _ e) (Nat.le_refl _) (show ObjOk X.prog X.w _ _ _ (.frz _ (.tup ys)) from ⟨Heap.get?_push_size _ rfl, hz, its, r', IsTup.new _ _⟩)
  exact ⟨.ref h'.objs.size, _, I2, rfl, q _ _ (I1.hok.fresh (Nat.le_refl _)) ⟨its, 0, rfl, rfl, r', g⟩⟩
end
end Moot
/-! Expressions whose texts bear tokens; comprehensions that keep them. -/
namespace Moot
open PySem PySem.Spec PyProof.Rows L2
theorem thnT {α : Type} {M : Model} {A : Around} {c : Sem α} {Q R : α → Shared → Prop} {E : Value → Shared → Prop} {s : Shared} (h : wpAny M A c Q E s) (f : ∀ a s', s.toks ≤ s'.toks → Q a s' → R a s') : wpAny M A c R E s :=
  wpAny_mono (PySem.wpAny_toks h) (fun a s' z => f a s' z.1 z.2) fun _ _ z => z.2
/-- what comes of an expression, a text bearing a token -/
def GP (X : Cx) (pins : List (Addr × Obj)) (σ : L2.St) (Q : VK) (u : Value) (s' : Shared) : Prop := ∃ v H', Inv X pins σ H' s' ∧ RelV v u ∧ GdV u ∧ Q v H'
structure PEK (n : Nat) (X : Cx) (e : Expr) (t : TE) : Prop where
  run : ∀ (pins : List (Addr × Obj)) (s : Shared) (σ : L2.St) (H : Hp) (Q : VK), n ≤ s.toks → Inv X pins σ H s → t σ H Q → wpAny (model X.prog X.w) X.A (eval e X.env) (GP X pins σ Q) X.xe s
section
variable {X : Cx}
/-- a sign of a text -/
theorem pek_ixStr {a b : Expr} {ta tb : TE} {pos : Pos} (ha : PE X a ta) (hb : PE X b tb) (hs : PlainIx b) : PEK 1 X (.Subscript a b pos) (tOp rIxS ta tb) := by
  refine ⟨fun pins s σ H Q k0 I h => Subscript_ (thnT (ha.run pins s σ H _ I h) fun v s1 k1 ⟨x, H1, I1, r1, q1⟩ => thnT (hb.run pins s1 σ H1 _ I1 q1) fun u s2 k2 ⟨y, H2, I2, r2, q2⟩ => ?_)⟩
  obtain ⟨z, i, c, rfl, rfl, hz, he, q⟩ := q2
  obtain ⟨t, rfl⟩ := r1
  obtain ⟨t', rfl⟩ := r2
  obtain ⟨j, h1, h2, h3, h4, h5⟩ := atI_get he
  have hl : z.cps.toList.length = z.length := by simp [Str.length]
  rw [hl] at h1 h4 h5
  have hn := line63
  have lo : decide (i < -(2 ^ 63 : Int)) = false := decide_eq_false (by omega)
  have hi : decide (i ≥ 2 ^ 63) = false := decide_eq_false (by omega)
  refine tail_any (typeIs_str s2 z t) slot_str_getitem.lookup (getItem_str (c := c) (by rw [lo, hi]; rfl) (by rw [h1]; simpa using h2) ?_) (hs _ _)
  exact ⟨.str ⟨#[c]⟩, H2, I2.tok _, ⟨_, rfl⟩, (show s2.toks ≠ 0 by omega), q⟩
/-- xs.pop(i) of a known list -/
theorem pek_popG {nn : Nat} {o e : Expr} {to : TE} {t : TA} {apos cpos : Pos} (ho : PE X o to) (ha : PA X [e] t) (hbase : attributeBase o "pop" X.env (eval o X.env) = eval o X.env := by rfl)
    (hfew : ((backTo cpos (starEach [e] X.env)).all (fun x => !x.1) && (backToKw cpos (keywordEach [] X.env)).all (fun x => x.1.isSome) && decide ([e].length + ([] : List Keyword).length + (if ([] : List Keyword).isEmpty then 0 else 1) < 30)) = true := by rfl)
    (hline : (apos.endLine == cpos.line) = true := by rfl) (hs : starEach [e] X.env = [(false, eval e X.env)] := by rfl) :
    PEK nn X (.Call (.Attribute o "pop" apos) [e] [] cpos) (fun σ H Q => to σ H fun x H1 => tyV X.K "list" x H1 ∧ t σ H1 fun vs H2 => ∃ l xs i k y, x = .ref l ∧ vs = [.int i] ∧ GLs H2 l xs ∧ Nf X l ∧ -(2 ^ 63) ≤ i ∧ i < 2 ^ 63 ∧ seqIndex? i xs.length = some k ∧ xs[k]? = some y ∧
      ∀ o', GdL o' (xs.eraseIdx k) → Q y (upd H2 l (.frz o' (.lst (xs.eraseIdx k))))) := by
  refine ⟨fun pins s σ H Q k0 I h => ?_⟩
  refine wpAny_Call_method_late hbase hfew hline rfl (thn (ho.run pins s σ H _ I h) fun v s1 ⟨x, H1, I1, r1, ty, q1⟩ => ?_)
  obtain ⟨h1, h2⟩ := tyV_is I1 r1 ty
  refine ⟨"list", "list.pop", F.plainAttrs_list, F.slot_list_pop, F.type_list_pop, h1, h2, ?_⟩
  have hA := ha.run cpos pins s1 σ H1 _ I1 q1
  rw [hs] at hA ⊢
  refine Calls.callWith_builtin rfl (Calls.evalArgs_plain (thn hA fun us s2 ⟨vs, H2, I2, r2, q2⟩ => ?_))
  obtain ⟨l, xs, i, k, y, rfl, rfl, ⟨ob, ⟨its, n, rfl, r, g⟩, hH⟩, nf, b1, b2, hk, hy, q⟩ := q2
  cases r1
  obtain ⟨u, rfl, ru⟩ := r2.one
  obtain ⟨tk, rfl⟩ := ru
  obtain ⟨hget, hz, _⟩ := I2.hok l _ hH
  have hl := r.length
  obtain ⟨uy, hw, ry⟩ := r.get hy
  refine call_meets F.slot_list_pop ⟨_, hget, rfl⟩ F.entry_list_pop (F.args_list_pop_2 _ _)
    (MeetsSeq.list_pop_at l its.toArray n i tk k uy (fitsIndex_both b1 b2) (by rw [List.size_toArray, ← hl]; exact hk) (by rw [← Array.getElem?_toList]; exact hw) (by rw [List.size_toArray]; omega)) ⟨hget, ?_⟩
  have hf : its.toArray.eraseIdxIfInBounds k = (its.eraseIdx k).toArray := by rw [List.eraseIdxIfInBounds_toArray]
  obtain ⟨o', g', I'⟩ := inv_reset (f := fun a : Array Value => a.eraseIdxIfInBounds k) (t' := s2.toks) I2 hH nf hget hf (r.eraseIdx k) (by have := len_erase xs k; omega) (g.erase k)
  exact ⟨y, _, I', ry, g uy (List.mem_of_getElem? hw), q _ g'⟩
/-- sep.join(xs) of a known list of texts -/
theorem pek_join {x : Str} {a : Expr} {ta : TE} {j : Nat} {c1 apos cpos : Pos} (ha : PEK 1 X a ta) (hbase : attributeBase (.Constant (.str x) j c1) "join" X.env (eval (.Constant (.str x) j c1) X.env) = eval (.Constant (.str x) j c1) X.env := by rfl)
    (hfew : ((backTo cpos (starEach [a] X.env)).all (fun x => !x.1) && (backToKw cpos (keywordEach [] X.env)).all (fun x => x.1.isSome) && decide ([a].length + ([] : List Keyword).length + (if ([] : List Keyword).isEmpty then 0 else 1) < 30)) = true := by rfl)
    (hline : (apos.endLine == cpos.line) = true := by rfl) (hs : starEach [a] X.env = [(false, eval a X.env)] := by rfl) {pins : List (Addr × Obj)} {s : Shared} {σ : L2.St} {H : Hp} {Q : VK} (I : Inv X pins σ H s)
    (h : ta σ H fun v H1 => ∃ p ys, v = .ref p ∧ GLs H1 p (ys.map V.str) ∧ (ys.map (·.length)).sum + ys.length * x.length ≤ 16777216 ∧ Q (.str (Txt.join x ys)) H1) :
    wpAny (model X.prog X.w) X.A (eval (.Call (.Attribute (.Constant (.str x) j c1) "join" apos) [a] [] cpos) X.env) (fun u s' => 1 ≤ s'.toks ∧ GP X pins σ Q u s') X.xe s := by
  refine wpAny_Call_method_late hbase hfew hline rfl (Calls.Constant_str ?_)
  refine ⟨"str", "str.join", F.plainAttrs_str, F.slot_str_join, F.type_str_join, typeIs_str _ _ _, (fun _ e => nomatch e), ?_⟩
  rw [hs]
  refine Calls.callWith_builtin rfl (Calls.evalArgs_plain ?_)
  show wpAny _ _ (spliced ((false, eval a X.env) :: [])) _ _ _
  refine Calls.spliced_cons (thnT (ha.run pins _ σ H _ (show 1 ≤ s.toks + 1 by omega) (I.tok (s.toks + 1)) h) fun v s1 k1 ⟨y, H1, I1, r1, _, q1⟩ => Calls.spliced_nil ?_)
  have k1 : s.toks + 1 ≤ s1.toks := k1
  obtain ⟨p, ys, rfl, ⟨o, ⟨its, n, rfl, rv, g⟩, hH⟩, hz, q⟩ := q1
  cases r1
  obtain ⟨hget, _⟩ := I1.hok p _ hH
  obtain ⟨l, hv, ht⟩ := strsAre_values (strs_of_vals rv)
  subst hv
  subst ht
  have hok := joinOk_of (sep := x) hz
  unfold JoinOk at hok
  rw [Bool.not_eq_true'] at hok
  have fin : ∀ t k, t ≠ 0 → 1 ≤ k → (1 ≤ ({ s1 with toks := k } : Shared).toks ∧ GP X pins σ Q (.str (Txt.join x (l.map (·.1))) t) { s1 with toks := k }) := fun t k h1 h2 => ⟨h2, .str (Txt.join x (l.map (·.1))), H1, I1.tok k, ⟨t, rfl⟩, h1, q⟩
  refine call_meets F.slot_str_join (typeIs_str _ _ _) F.entry_str_join (F.args_str_join_2 _ _) (meets_str_join_list x _ p l hok) ⟨⟨_, hget, rfl, n, rfl⟩, ?_⟩
  have len := joinFit_length hok
  match l, len, fin, g with
  | [], len, fin, g => exact ⟨len, fin _ _ (show s1.toks ≠ 0 by omega) (show 1 ≤ s1.toks + 1 by omega)⟩
  | [p], len, fin, g => exact fin p.2 s1.toks (g (.str p.1 p.2) List.mem_cons_self) (by omega)
  | _ :: _ :: _, len, fin, g => exact ⟨len, fin _ _ (show s1.toks ≠ 0 by omega) (show 1 ≤ s1.toks + 1 by omega)⟩
end
end Moot
/-! A list comprehension whose new list is known to the object, its texts bearing tokens. -/
namespace Moot
open PySem PySem.Spec PyProof.Rows L2
/-- a walk whose items are of a kind besides -/
def ItemG (P : Program) (w : World) (K : PySem.W.Frag) (tg : Expr) (J : It) (fp : List Addr) (it : Addr) (tn : Nat → Heap → Prop) (nn : Nat) (GU : Value → Prop) : Prop :=
  ∀ (Y : Cx), Y.prog = P → Y.w = w → Y.K = K → Y.calm = true → ∀ (i : Nat) (pins : List (Addr × Obj)) (s : Shared) (σ : L2.St) (H : Hp) (E : Value → Shared → Prop), nn ≤ s.toks → Inv Y pins σ H s → (∀ b ∈ fp, FpOk Y pins H b) → tn i s.heap → J.go i H →
    wpAny (model P w) Y.A (pyNext (.ref it)) (fun r s1 => ∃ u, r = some u ∧
      wpAny (model P w) Y.A (letOwnedTupleGo tg (.ref it) u) (fun _ s2 => ∃ x H', Inv Y pins σ H' s2 ∧ RelV x u ∧ GU u ∧ J.yld i H x H' ∧ tn (i + 1) s2.heap ∧ ∀ b ∈ fp, H' b = none) E s1) E s
def PIEG (X : Cx) (pins : List (Addr × Obj)) (σ : L2.St) (tg : Expr) (nn : Nat) (GU : Value → Prop) (R : It → Hp → Prop) (itv : Value) (s2 : Shared) : Prop :=
  ∃ (it : Addr) (fp : List Addr) (tn : Nat → Heap → Prop) (J : It) (H' : Hp), itv = .ref it ∧ Inv X pins σ H' s2 ∧ Turn X.prog X.w X.K tg J fp it tn ∧ ItemG X.prog X.w X.K tg J fp it tn nn GU ∧ tn 0 s2.heap ∧ (∀ b ∈ fp, FpOk X pins H' b) ∧ R J H'
structure PIG (nn : Nat) (X : Cx) (tg iter : Expr) (GU : Value → Prop) (wi : TI) : Prop where
  run : ∀ (pins : List (Addr × Obj)) (s : Shared) (σ : L2.St) (H : Hp) (R : It → Hp → Prop), Inv X pins σ H s → wi σ H R →
    wpAny (model X.prog X.w) X.A (eval iter X.env) (fun v s1 => wpAny (model X.prog X.w) X.A (pyIter v) (PIEG X pins σ tg nn GU R) X.xe s1) X.xe s
theorem pig_of {nn : Nat} {X : Cx} {tg iter : Expr} {wi : TI} (h : PI X tg iter wi) : PIG nn X tg iter (fun _ => True) wi := by
  refine ⟨fun pins s σ H R I q => thn (h.run pins s σ H R I q) fun v s1 h1 => thn h1 fun itv s2 h2 => ?_⟩
  obtain ⟨it, fp, tn, J, H', e, I', T, st, fo, r⟩ := h2
  refine ⟨it, fp, tn, J, H', e, I', T, ?_, st, fo, r⟩
  intro Y e1 e2 e3 hc i pins s σ H E _ I f t g
  exact thn (T.item Y e1 e2 e3 hc i pins s σ H E I f t g) fun r s1 ⟨u, hu, z⟩ => ⟨u, hu, thn z fun _ s2 ⟨x, H', a, b, c, d, e⟩ => ⟨x, H', a, b, trivial, c, d, e⟩⟩
theorem wipe_in {σ : L2.St} {i : Nat} (hi : i < σ.length) : ∀ {vs : List Nat}, i ∈ vs → (wipe σ vs)[i]? = some none
  | [], h => by cases h
  | v :: vs, h => by
    unfold wipe
    by_cases e : v = i
    · subst e
      rw [List.getElem?_set_self (by rw [wipe_length]; exact hi)]
    · rw [List.getElem?_set_ne e]
      exact wipe_in hi ((List.mem_cons.mp h).resolve_left fun z => e z.symm)
theorem wipe_twice (σ : L2.St) (vs : List Nat) : wipe (wipe σ vs) vs = wipe σ vs := by
  refine List.ext_getElem? fun i => ?_
  by_cases m : i ∈ vs
  · by_cases hi : i < σ.length
    · rw [wipe_in hi m, wipe_in (by rw [wipe_length]; exact hi) m]
    · rw [List.getElem?_eq_none (by rw [wipe_length, wipe_length]; omega), List.getElem?_eq_none (by rw [wipe_length]; omega)]
  · rw [wipe_out m]
/-- one turn of the block: the target, the tests, the item -/
def TurnOk (nn : Nat) (Y : Cx) (tg : Expr) (ifs : List Expr) (elt : Expr) (GU : Value → Prop) (vs : List Nat) (tv : V → L2.St → Hp → Addr → (Hp → Prop) → Prop) : Prop :=
  ∀ (pins : List (Addr × Obj)) (s : Shared) (σ : L2.St) (H : Hp) (x : V) (u : Value) (D : Addr) (Nx : Hp → Prop), nn ≤ s.toks → Inv Y pins σ H s → RelV x u → GU u → tv x σ H D Nx →
    wpAny (model Y.prog Y.w) Y.A (assign tg Y.env u) (fun _ s2 => wpAny (model Y.prog Y.w) Y.A (forIn ifs true fun c r => if r = true then do let ok ← isTrue c Y.env (eval c Y.env); pure (ForInStep.yield ok) else pure (ForInStep.yield r)) (fun b s3 =>
      if b = true then wpAny (model Y.prog Y.w) Y.A (eval elt Y.env) (fun z s4 => ∃ (σ4 : L2.St) (y : V) (H4 : Hp) (acc : List V), Inv Y pins σ4 H4 s4 ∧ wipe σ4 vs = wipe σ vs ∧ RelV y z ∧ GdV z ∧ GLs H4 D acc ∧ acc.length < sizeLine ∧
        ∀ o', GdL o' (acc ++ [y]) → Nx (upd H4 D (.frz o' (.lst (acc ++ [y]))))) (fun _ _ => False) s3
      else ∃ (σ3 : L2.St) (H3 : Hp), Inv Y pins σ3 H3 s3 ∧ wipe σ3 vs = wipe σ vs ∧ Nx H3) (fun _ _ => False) s2) (fun _ _ => False) s
/-- the reading: D the new list -/
def tLcG (wi : TI) (tv : V → L2.St → Hp → Addr → (Hp → Prop) → Prop) (vs : List Nat) : TE := fun σ H Q => wi σ H fun J H1 => ∀ D, H1 D = none → ∀ o0, GdL o0 [] → ∃ W : Nat → Nat → Hp → Prop, (∃ m, W 0 m (upd H1 D (.frz o0 (.lst [])))) ∧ ∀ i m H, W i m H →
  (J.stop i H ∧ Q (.ref D) H) ∨ (J.go i H ∧ ∃ Nx : Hp → Prop, (∀ H', Nx H' → ∃ m', m' < m ∧ W (i + 1) m' H') ∧ ∀ x H', J.yld i H x H' → tv x (wipe σ vs) H' D Nx)
/-- an item more in the known list -/
theorem app_g {X : Cx} {pins : List (Addr × Obj)} {σ : L2.St} {H : Hp} {s : Shared} {E : Value → Shared → Prop} {D : Addr} {xs : List V} {y : V} {v : Value} {Q : Value → Shared → Prop} (I : Inv X pins σ H s) (g : GLs H D xs) (nf : Nf X D) (hz : xs.length < sizeLine) (r : RelV y v) (gv : GdV v)
    (h : ∀ s' o', s'.toks = s.toks → GdL o' (xs ++ [y]) → Inv X pins σ (upd H D (.frz o' (.lst (xs ++ [y])))) s' → Q .none s') : wpAny (model X.prog X.w) X.A (call (.builtin "list.append") [.ref D, v]) Q E s := by
  obtain ⟨o, ⟨its, n, rfl, ri, gi⟩, hH⟩ := g
  obtain ⟨hget, _⟩ := I.hok D _ hH
  have hl := ri.length
  refine append_at (hsz := by rw [List.size_toArray]; omega) hget fun h' sb ho' => ?_
  have I1 := inv_melt I hH nf
  have rv : Vals (xs ++ [y]) (its ++ [v]) := ri.append (.cons r .nil)
  have e' : h'.get? D = some { cls := .type "list", data := .seq (its ++ [v]).toArray (n + 1) } := by
    rw [ho']
    simp
  have I2 : Inv X pins σ (upd (upd H D (.lst xs)) D (.lst (xs ++ [y]))) { s with heap := h' } := I1.write (t' := s.toks) (by rw [upd_same]; trivial) (.inl rfl) (fun b u hb q => (sb.2 b hb).trans q) ⟨_, ho'⟩ ⟨by rw [List.length_append]; exact hz, its ++ [v], n + 1, rv, e'⟩
  have I3 := inv_lock I2 upd_same nf e'
  rw [upd_upd, upd_upd] at I3
  exact h _ _ rfl ⟨its ++ [v], n + 1, rfl, rv, gi.append (GdS.one gv)⟩ I3
section
variable {X : Cx}
theorem lcG_core {nn : Nat} {pins : List (Addr × Obj)} {s : Shared} {σ : L2.St} {H : Hp} {Q : VK} {elt tg iter : Expr} {ifs : List Expr} {scope : Scope} {own : List (Str × Nat)} {pos pos' : Pos} {wi : TI} {GU : Value → Prop} {tv : V → L2.St → Hp → Addr → (Hp → Prop) → Prop} {use : Option (Value → Sem Unit)} {Qf : Value → Shared → Prop}
    (hc : X.calm = true) (hN : X.N.Nodup) (k0 : nn ≤ s.toks) (I : Inv X pins σ H s) (hi : PIG nn X tg iter GU wi) (ok : BlkOk X.N X.env.scope scope own)
    (ht : ∀ (s : Shared) (H : Hp) (C : Addr) (cl : List (Str × Addr)) (fp : List Addr), TurnOk nn (X.blk s H scope (compEnvC scope cl C X.env) fp) tg ifs elt GU (own.map (·.2)) tv)
    (hs : ∀ x, foldedSetIterable iter X.env x = pure x) (h : tLcG wi tv (own.map (·.2)) σ H Q)
    (fin : ∀ D C s' m H', nn ≤ s'.toks → Inv X pins σ H' s' → Q (.ref D) H' → s'.heap.Ns C m → FpOk X pins H' C → compPost (model X.prog X.w) X.A X.xe use Qf (.ref D) C (.ok .next) s') :
    wpAny (model X.prog X.w) X.A (comprehension (.ListComp elt [⟨tg, iter, ifs, 0⟩] scope pos) scope X.env pos' (newList []) false (eval iter X.env) use) Qf X.xe s := by
  have frees : ∀ y ∈ scope.names, y.2 = .free → ∃ c, X.env.cells.lookup y.1 = some c := fun y hy e => (ok.free y hy e).elim (fun k => I.ok.has _ (.inl k)) fun k => I.ok.has _ (.inr k)
  refine wpAny_comprehension_free (use := use) rfl hs (closure_ok frees) ok.kind (fun y hy e => by rw [ok.uniq y hy, e]) (thnT (hi.run pins s σ H _ I h) fun xv s1 k1 hx => thnT hx fun itv s2 k2 h2 => ?_)
  obtain ⟨it, fp, tn, J, H2, rfl, I2, T, G, st2, f2, q⟩ := h2
  refine wpAny_newObj_type (newEnv_comp ?_) (by show 0 ≤ sizeLine; decide)
  obtain ⟨D, hD⟩ : ∃ D, s2.heap.objs.size = D := ⟨_, rfl⟩
  rw [hD]
  have nD : H2 D = none := I2.hok.fresh (Nat.le_of_eq hD)
  obtain ⟨s3, es3⟩ : ∃ s3 : Shared, ({ s2 with heap := s2.heap.push { cls := .type "list", data := .seq ([] : List Value).toArray } } : Shared) = s3 := ⟨_, rfl⟩
  have heap3 : s3.heap = s2.heap.push { cls := .type "list", data := .seq ([] : List Value).toArray } := by rw [← es3]
  have tok3 : s3.toks = s2.toks := by rw [← es3]
  have at3 : s3.heap.get? D = some { cls := .type "list", data := .seq ([] : List Value).toArray } := by
    rw [heap3, ← hD]
    exact Heap.get?_push_size _ rfl
  have I3 : Inv X pins σ (upd H2 D (.lst [])) s3 := by
    rw [← es3]
    rw [← es3] at at3
    exact I2.laid (t' := s2.toks) (fun b o e => Heap.get?_push_of_some _ e) (Nat.le_of_eq hD) ⟨Nat.zero_le _, [], 0, .nil, at3⟩
  have lt2 : ∀ b ∈ fp, b < s2.heap.objs.size := fun b hb => let ⟨_, e, _⟩ := T.obj _ _ st2 b hb; Heap.lt_size e
  have neD : ∀ b ∈ fp, b ≠ D := fun b hb => by
    rw [← hD]
    exact Nat.ne_of_lt (lt2 b hb)
  have f3 : ∀ b ∈ fp, FpOk X pins (upd H2 D (.lst [])) b ∧ b < s3.heap.objs.size := fun b hb =>
    ⟨⟨by rw [upd_ne (neD b hb)]; exact (f2 b hb).1, (f2 b hb).2⟩, by rw [heap3, Heap.size_push]; exact Nat.lt_succ_of_lt (lt2 b hb)⟩
  have st3 : tn 0 s3.heap := T.keep _ _ _ st2 fun b _ o e => by
    rw [heap3]
    exact Heap.get?_push_of_some _ e
  have I4 := block_start I3 ok hN f3
  have tu := ht s3 (upd H2 D (.lst [])) s3.heap.objs.size (cellsFrom (s3.heap.objs.size + 1) scope.names (cloFrom X.env.cells scope.names [])) fp
  obtain ⟨W, ⟨m0, w0⟩, turn⟩ := q D nD { cls := .type "list", data := .seq ([] : List Value).toArray } ⟨[], 0, rfl, .nil, fun u m => by cases m⟩
  rw [es3]
  show codeAny _ _ (.compStart (.ListComp elt [⟨tg, iter, ifs, 0⟩] scope pos) 0 (.ref it) (.ref D) (compEnvC scope (cellsFrom (s3.heap.objs.size + 1) scope.names (cloFrom X.env.cells scope.names [])) s3.heap.objs.size X.env)) (compPost (model X.prog X.w) X.A X.xe use Qf (.ref D) s3.heap.objs.size) { s3 with heap := pushCells (s3.heap.push { cls := .type "dict", data := .dict #[] }) scope.names }
  obtain ⟨ce, hce⟩ : ∃ ce, compEnvC scope (cellsFrom (s3.heap.objs.size + 1) scope.names (cloFrom X.env.cells scope.names [])) s3.heap.objs.size X.env = ce := ⟨_, rfl⟩
  have cL : ce.locals = s3.heap.objs.size := by rw [← hce]; rfl
  rw [hce] at I4 tu ⊢
  obtain ⟨s4, es4⟩ : ∃ s4 : Shared, ({ s3 with heap := pushCells (s3.heap.push { cls := .type "dict", data := .dict #[] }) scope.names } : Shared) = s4 := ⟨_, rfl⟩
  rw [es4] at I4 ⊢
  have keep4 : ∀ b o, s3.heap.get? b = some o → s4.heap.get? b = some o := fun b o e => by
    rw [← es4]
    exact pushCells_keeps _ _ _ _ (Heap.get?_push_of_some _ e)
  have tok4 : s4.toks = s3.toks := by rw [← es4]
  have st4 : tn 0 s4.heap := T.keep _ _ _ st3 fun b _ o e => keep4 b o e
  obtain ⟨H3, eH3⟩ : ∃ H3, upd H2 D (.lst []) = H3 := ⟨_, rfl⟩
  have atD : H3 D = some (.lst []) := by rw [← eH3]; exact upd_same
  have toF : upd H2 D (.frz { cls := .type "list", data := .seq ([] : List Value).toArray } (.lst [])) = upd H3 D (.frz { cls := .type "list", data := .seq ([] : List Value).toArray } (.lst [])) := by rw [← eH3, upd_upd]
  rw [toF] at w0
  rw [eH3] at I3 I4 tu f3
  have nf : Nf (X.blk s3 H3 scope ce fp) D := fun o u e => by
    have e : H3 D = some (.frz o u) := e
    rw [atD] at e
    cases e
  have I4f := inv_lock I4 atD nf (keep4 _ _ at3)
  have nfp : ∀ b ∈ fp, (upd H3 D (.frz { cls := .type "list", data := .seq ([] : List Value).toArray } (.lst []))) b = none := fun b hb => by
    rw [upd_ne (neD b hb)]
    exact (f3 b hb).1.1
  have own' : ∀ {σ' : L2.St} {H' : Hp} {s' : Shared}, Inv (X.blk s3 H3 scope ce fp) [] σ' H' s' → (∀ b ∈ fp, H' b = none) → ∀ b ∈ fp, FpOk (X.blk s3 H3 scope ce fp) [] H' b := fun {σ' H' s'} I' hn b hb =>
    ⟨hn b hb, (I'.ok.exf b hb).1, I'.ok.exfs b hb, .inl hb, fun x c e => (I'.ok.exf b hb).2 x c e, fun p hp => absurd (show p ∈ ([] : List (Addr × Obj)) ++ [] from hp) (by simp)⟩
  have loop : codeAny (model X.prog X.w) X.A (.compLoop (.ListComp elt [⟨tg, iter, ifs, 0⟩] scope pos) 0 (.ref it) (.ref D) ce) (compPost (model X.prog X.w) X.A X.xe use Qf (.ref D) s3.heap.objs.size) s4 := by
    refine compLoop_any (fun n s' => nn ≤ s'.toks ∧ ∃ i H', Inv (X.blk s3 H3 scope ce fp) [] (wipe σ (own.map (·.2))) H' s' ∧ tn i s'.heap ∧ (∀ b ∈ fp, H' b = none) ∧ W i n H') ?_ m0 ⟨by omega, 0, _, I4f, st4, nfp, w0⟩
    rintro n s5 ⟨k5, i, H5, I5, st5, n5, w5⟩
    rcases turn i n H5 w5 with ⟨stop, qq⟩ | ⟨go, Nx, hNx, step⟩
    · refine thnF (wpAny_mono (PySem.wpAny_toks (T.done (X.blk s3 H3 scope ce fp) rfl rfl rfl hc i [] s5 _ H5 (fun _ _ => False) I5 (own' I5 n5) st5 stop)) (fun _ _ z => z) fun _ _ z => z.2) fun r s6 ⟨k6, hr, I6⟩ => ?_
      subst hr
      have back : Inv X pins σ H5 s6 := I3.call' (ch := fp) I6.os I6.base I6.hok I6.bare fun b hb => ⟨(f3 b hb).1.2.2.2.1, (f3 b hb).1.2.1, (f3 b hb).1.2.2.2.2.1, (f3 b hb).1.2.2.2.2.2⟩
      have none5 : H5 s3.heap.objs.size = none := by
        have z : H5 ce.locals = none := I6.free
        rwa [cL] at z
      obtain ⟨m, hm, _⟩ := I6.loc
      have hm : s6.heap.Ns ce.locals m := hm
      rw [cL] at hm
      exact fin D s3.heap.objs.size s6 m H5 (by omega) back qq hm (I3.fpOk (Nat.le_refl _) none5)
    · refine thnF (wpAny_mono (PySem.wpAny_toks (G (X.blk s3 H3 scope ce fp) rfl rfl rfl hc i [] s5 _ H5 (fun _ _ => False) k5 I5 (own' I5 n5) st5 go)) (fun _ _ z => z) fun _ _ z => z.2) fun r s6 ⟨k6, u, hr, h6⟩ => ?_
      subst hr
      refine thnF (wpAny_mono (PySem.wpAny_toks h6) (fun _ _ z => z) fun _ _ z => z.2) fun _ s7 ⟨k7, x, H7, I7, r7, gu, y7, st7, n7⟩ => ?_
      have I7' := I7.pinned (own' I7 n7) (T.obj _ _ st7)
      have endT : ∀ {s' : Shared} {σ' : L2.St} {H' : Hp}, nn ≤ s'.toks → Inv (X.blk s3 H3 scope ce fp) ([] ++ pinsAt fp s7.heap) σ' H' s' → wipe σ' (own.map (·.2)) = wipe (wipe σ (own.map (·.2))) (own.map (·.2)) → Nx H' →
          ∃ m, m < n ∧ nn ≤ s'.toks ∧ ∃ i H', Inv (X.blk s3 H3 scope ce fp) [] (wipe σ (own.map (·.2))) H' s' ∧ tn i s'.heap ∧ (∀ b ∈ fp, H' b = none) ∧ W i m H' := fun {s' σ' H'} k' I' hw nx => by
        obtain ⟨m', hm, w'⟩ := hNx H' nx
        have pin' : ∀ b ∈ fp, ∀ o, s7.heap.get? b = some o → s'.heap.get? b = some o ∧ H' b = none := fun b hb o e =>
          have z := I'.pin (b, o) (List.mem_append_right _ (List.mem_append_right _ (mem_pinsAt hb e)))
          ⟨z.1, z.2.1⟩
        have ww : wipe (wipe σ (own.map (·.2))) (own.map (·.2)) = wipe σ (own.map (·.2)) := wipe_twice _ _
        rw [ww] at hw
        have hl : (wipe σ (own.map (·.2))).length = σ'.length := by rw [← hw, wipe_length]
        refine ⟨m', hm, k', i + 1, H', (I'.unpinned (pins := [])).weak hl (fun j v e => ?_), T.keep _ _ _ st7 fun b hb o e => (pin' b hb o e).1, fun b hb => ?_, w'⟩
        · rw [← hw] at e
          exact (wipe_some e).1
        · obtain ⟨o, e, _⟩ := T.obj _ _ st7 b hb
          exact (pin' b hb o e).2
      have one := tu _ s7 _ H7 x u D Nx (by omega) I7' r7 gu (step x H7 y7)
      refine thnF (wpAny_mono (PySem.wpAny_toks one) (fun _ _ z => z) fun _ _ z => z.2) fun _ s8 ⟨k8, q8⟩ => ?_
      refine thnF (wpAny_mono (PySem.wpAny_toks q8) (fun _ _ z => z) fun _ _ z => z.2) fun b s9 ⟨k9, q9⟩ => ?_
      cases b with
      | false =>
        simp only [Bool.false_eq_true, if_false] at q9 ⊢
        obtain ⟨σ9, H9, I9, hw9, nx⟩ := q9
        exact endT (by omega) I9 hw9 nx
      | true =>
        simp only [if_true] at q9 ⊢
        refine thnF (wpAny_mono (PySem.wpAny_toks q9) (fun _ _ z => z) fun _ _ z => z.2) fun z s10 ⟨k10, σ10, y, H10, acc, I10, hw10, r10, g10, gl, hz10, nx⟩ => ?_
        exact app_g (X := X.blk s3 H3 scope ce fp) I10 gl nf hz10 r10 g10 fun s11 o' k11 g11 I11 => endT (by omega) I11 hw10 (nx o' g11)
  exact codeAny_compStart_list loop (T.self X.A 0 _ _ _ st4 loop)
end
end Moot
/-! A run has one end: two things that are true of a run's end are true together. -/
namespace Moot
open PySem
theorem runs_one {M : Model} {Γ : Ctx} {p : Pos} {t : Sem Fin} {fs : List Frame} {s s' : Shared} {e : End} (h : Runs M Γ p t fs s e s') : ∀ {e2 : End} {s2 : Shared}, Runs M Γ p t fs s e2 s2 → e = e2 ∧ s' = s2 := by
  induction h with
  | done => intro e2 s2 g; cases g; exact ⟨rfl, rfl⟩
  | raise => intro e2 s2 g; cases g; exact ⟨rfl, rfl⟩
  | again _ _ ih => intro e2 s2 g; cases g with | again _ g => exact ih g
  | rule _ ih => intro e2 s2 g; cases g with | rule g => exact ih g
  | «at» _ ih => intro e2 s2 g; cases g with | «at» g => exact ih g
  | load ho _ ih =>
    intro e2 s2 g
    cases g with
    | load ho' g =>
      rw [ho] at ho'
      cases ho'
      exact ih g
  | update _ _ ih => intro e2 s2 g; cases g with | update _ g => exact ih g
  | loadIfAlive _ ih => intro e2 s2 g; cases g with | loadIfAlive g => exact ih g
  | point _ ih => intro e2 s2 g; cases g with | point g => exact ih g
  | alloc _ ih => intro e2 s2 g; cases g with | alloc g => exact ih g
  | fresh _ ih => intro e2 s2 g; cases g with | fresh g => exact ih g
  | ask _ ih => intro e2 s2 g; cases g with | ask g => exact ih g
  | choose _ _ ih => intro e2 s2 g; cases g with | choose _ g => exact ih g
  | os _ ih => intro e2 s2 g; cases g with | os g => exact ih g
  | handled _ ih => intro e2 s2 g; cases g with | handled g => exact ih g
  | genState hs _ ih =>
    intro e2 s2 g
    cases g with
    | genState hs' g =>
      rw [hs] at hs'
      cases hs'
      exact ih g
  | stack _ ih => intro e2 s2 g; cases g with | stack g => exact ih g
  | thread _ ih => intro e2 s2 g; cases g with | thread g => exact ih g
  | newGen _ ih => intro e2 s2 g; cases g with | newGen g => exact ih g
  | call _ _ ih1 ih2 =>
    intro e2 s2 g
    cases g with
    | call g1 g2 =>
      obtain ⟨a, b⟩ := ih1 g1
      cases a
      subst b
      exact ih2 g2
    | callSusp g1 => exact nomatch (ih1 g1).1
  | callSusp _ ih1 =>
    intro e2 s2 g
    cases g with
    | call g1 g2 => exact nomatch (ih1 g1).1
    | callSusp g1 =>
      obtain ⟨a, b⟩ := ih1 g1
      cases a
      exact ⟨rfl, b⟩
  | yield => intro e2 s2 g; cases g; exact ⟨rfl, rfl⟩
  | resumeFresh hg _ _ _ ih1 ih2 =>
    intro e2 s2 g
    cases g with
    | resumeFresh hg' g1 _ g2 =>
      rw [hg] at hg'
      cases hg'
      obtain ⟨a, b⟩ := ih1 g1
      subst a b
      exact ih2 g2
    | resumeSuspended hg' _ _ _ => rw [hg] at hg'; cases hg'
    | resumeJustStarted _ hv _ => exact absurd rfl hv
    | resumeRunning hg' _ => rw [hg] at hg'; cases hg'
    | resumeFinished hg' _ => rw [hg] at hg'; cases hg'
  | resumeSuspended hg _ _ _ ih1 ih2 =>
    intro e2 s2 g
    cases g with
    | resumeSuspended hg' g1 _ g2 =>
      rw [hg] at hg'
      cases hg'
      obtain ⟨a, b⟩ := ih1 g1
      subst a b
      exact ih2 g2
    | resumeFresh hg' _ _ _ => rw [hg] at hg'; cases hg'
    | resumeJustStarted hg' _ _ => rw [hg] at hg'; cases hg'
    | resumeThrowFresh hg' _ => rw [hg] at hg'; cases hg'
    | resumeRunning hg' _ => rw [hg] at hg'; cases hg'
    | resumeFinished hg' _ => rw [hg] at hg'; cases hg'
  | resumeJustStarted hg hv _ ih =>
    intro e2 s2 g
    cases g with
    | resumeFresh _ _ _ _ => exact absurd rfl hv
    | resumeSuspended hg' _ _ _ => rw [hg] at hg'; cases hg'
    | resumeJustStarted _ _ g => exact ih g
    | resumeRunning hg' _ => rw [hg] at hg'; cases hg'
    | resumeFinished hg' _ => rw [hg] at hg'; cases hg'
  | resumeThrowFresh hg _ ih =>
    intro e2 s2 g
    cases g with
    | resumeSuspended hg' _ _ _ => rw [hg] at hg'; cases hg'
    | resumeThrowFresh _ g => exact ih g
    | resumeRunning hg' _ => rw [hg] at hg'; cases hg'
    | resumeFinished hg' _ => rw [hg] at hg'; cases hg'
  | resumeRunning hg _ ih =>
    intro e2 s2 g
    cases g with
    | resumeFresh hg' _ _ _ => rw [hg] at hg'; cases hg'
    | resumeSuspended hg' _ _ _ => rw [hg] at hg'; cases hg'
    | resumeJustStarted hg' _ _ => rw [hg] at hg'; cases hg'
    | resumeThrowFresh hg' _ => rw [hg] at hg'; cases hg'
    | resumeRunning _ g => exact ih g
    | resumeFinished hg' _ => rw [hg] at hg'; cases hg'
  | resumeFinished hg _ ih =>
    intro e2 s2 g
    cases g with
    | resumeFresh hg' _ _ _ => rw [hg] at hg'; cases hg'
    | resumeSuspended hg' _ _ _ => rw [hg] at hg'; cases hg'
    | resumeJustStarted hg' _ _ => rw [hg] at hg'; cases hg'
    | resumeThrowFresh hg' _ => rw [hg] at hg'; cases hg'
    | resumeRunning hg' _ => rw [hg] at hg'; cases hg'
    | resumeFinished _ g => exact ih g
  | segRet _ _ ih1 ih2 =>
    intro e2 s2 g
    cases g with
    | segRet g1 g2 =>
      obtain ⟨a, b⟩ := ih1 g1
      cases a
      subst b
      exact ih2 g2
    | segSuspOut _ g1 => exact nomatch (ih1 g1).1
    | segSuspGen _ g1 _ _ => exact nomatch (ih1 g1).1
  | segGen _ _ ih1 ih2 =>
    intro e2 s2 g
    cases g with
    | segGen g1 g2 =>
      obtain ⟨a, b⟩ := ih1 g1
      cases a
      subst b
      exact ih2 g2
    | segSuspOut _ g1 => exact nomatch (ih1 g1).1
    | segSuspGen _ g1 _ _ => exact nomatch (ih1 g1).1
  | segSuspOut hs _ ih1 =>
    intro e2 s2 g
    cases g with
    | segRet g1 _ => exact nomatch (ih1 g1).1
    | segGen g1 _ => exact nomatch (ih1 g1).1
    | segSuspOut _ g1 =>
      obtain ⟨a, b⟩ := ih1 g1
      cases a
      exact ⟨rfl, b⟩
    | segSuspGen hs' _ _ _ => rw [hs] at hs'; cases hs'
  | segSuspGen hs _ _ _ ih1 ih2 =>
    intro e2 s2 g
    cases g with
    | segRet g1 _ => exact nomatch (ih1 g1).1
    | segGen g1 _ => exact nomatch (ih1 g1).1
    | segSuspOut hs' _ => rw [hs] at hs'; cases hs'
    | segSuspGen hs' g1 _ g2 =>
      rw [hs] at hs'
      cases hs'
      obtain ⟨a, b⟩ := ih1 g1
      cases a
      subst b
      exact ih2 g2
theorem returns_one {M : Model} {Γ : Ctx} {p : Pos} {s s1 s2 : Shared} {r1 r2 : Result} (h : Returns M Γ p s r1 s1) (g : Returns M Γ p s r2 s2) : r1 = r2 ∧ s1 = s2 := by
  obtain ⟨a, b⟩ := runs_one h g
  cases a
  exact ⟨rfl, b⟩
theorem wakes_one {M : Model} {Γ : Ctx} {p : Pos} {g : Nat} {r : Resume} {s s1 s2 : Shared} {a b : GenResult} (h : Wakes M Γ p g r s a s1) (h2 : Wakes M Γ p g r s b s2) : a = b ∧ s1 = s2 := by
  unfold Wakes at h h2
  split at h
  · exact h.elim
  · rename_i e
    simp only [e] at h2
    split at h
    · obtain ⟨e1, t1, x1, _, rfl, rfl⟩ := h
      obtain ⟨e2, t2, x2, _, rfl, rfl⟩ := h2
      obtain ⟨u, v⟩ := runs_one x1 x2
      subst u v
      exact ⟨rfl, rfl⟩
    · rename_i hne
      split at h2
      · rename_i z
        first
          | (injection z with z; exact (hne z).elim)
          | exact (hne rfl).elim
      · exact ⟨h.1.trans h2.1.symm, h.2.trans h2.2.symm⟩
      · rename_i z; cases z
    · exact ⟨h.1.trans h2.1.symm, h.2.trans h2.2.symm⟩
  · rename_i e
    simp only [e] at h2
    obtain ⟨e1, t1, x1, _, rfl, rfl⟩ := h
    obtain ⟨e2, t2, x2, _, rfl, rfl⟩ := h2
    obtain ⟨u, v⟩ := runs_one x1 x2
    subst u v
    exact ⟨rfl, rfl⟩
  · rename_i e
    simp only [e] at h2
    exact ⟨h.1.trans h2.1.symm, h.2.trans h2.2.symm⟩
  · rename_i e
    simp only [e] at h2
    exact ⟨h.1.trans h2.1.symm, h.2.trans h2.2.symm⟩
theorem wp_both {α : Type} (M : Model) (Γ : Ctx) (t : Sem α) : ∀ (Q R : α → Pos → Shared → Prop) (E F : Value → Pos → Shared → Prop) (p : Pos) (s : Shared), Sem.wp M Γ t Q E p s → Sem.wp M Γ t R F p s →
    Sem.wp M Γ t (fun a p' s' => Q a p' s' ∧ R a p' s') (fun e p' s' => E e p' s' ∧ F e p' s') p s := by
  induction t with
  | pure a => intro Q R E F p s h g; exact ⟨h, g⟩
  | raise e => intro Q R E F p s h g; exact ⟨h, g⟩
  | unsupported _ => intro Q R E F p s h g; exact h
  | finish _ => intro Q R E F p s h g; exact h
  | rule _ k ih => intro Q R E F p s h g; exact ih () Q R E F p s h g
  | «at» p' k ih => intro Q R E F p s h g; exact ih () Q R E F p' s h g
  | load a _ k ih =>
    intro Q R E F p s h g
    obtain ⟨o, ho, h⟩ := h
    obtain ⟨o', ho', g⟩ := g
    rw [ho] at ho'
    cases ho'
    exact ⟨o, ho, ih o Q R E F p s h g⟩
  | update a _ f k ih => intro Q R E F p s h g; exact ⟨h.1, ih () Q R E F p _ h.2 g.2⟩
  | loadIfAlive a k ih => intro Q R E F p s h g; exact ih _ Q R E F p s h g
  | point _ k ih => intro Q R E F p s h g; exact ih () Q R E F p s h g
  | register _ _ => intro Q R E F p s h g; exact h
  | alloc o k ih => intro Q R E F p s h g; exact ih _ Q R E F p _ h g
  | fresh k ih => intro Q R E F p s h g; exact ih _ Q R E F p _ h g
  | ask k ih => intro Q R E F p s h g; exact ih _ Q R E F p s h g
  | choose src m k ih => intro Q R E F p s h g; exact ⟨h.1, ih _ Q R E F p _ h.2 g.2⟩
  | os q _ k ih => intro Q R E F p s h g; exact ih _ Q R E F p _ h g
  | call c hd _ _ k ih =>
    intro Q R E F p s h g
    obtain ⟨r, s', hr, h⟩ := h
    obtain ⟨r2, s2, hr2, g⟩ := g
    obtain ⟨a, b⟩ := returns_one hr hr2
    subst a b
    exact ⟨r, s', hr, ih r Q R E F p s' h g⟩
  | handled own k ih => intro Q R E F p s h g; exact ih _ Q R E F p s h g
  | genState x k ih =>
    intro Q R E F p s h g
    obtain ⟨st, hs, h⟩ := h
    obtain ⟨st', hs', g⟩ := g
    rw [hs] at hs'
    cases hs'
    exact ⟨st, hs, ih _ Q R E F p s h g⟩
  | newGen c k ih => intro Q R E F p s h g; exact ih _ Q R E F p _ h g
  | resume x r _ k ih =>
    intro Q R E F p s h g
    obtain ⟨res, s', hw, h⟩ := h
    obtain ⟨res2, s2, hw2, g⟩ := g
    obtain ⟨a, b⟩ := wakes_one hw hw2
    subst a b
    exact ⟨res, s', hw, ih res Q R E F p s' h g⟩
  | yield _ _ _ _ => intro Q R E F p s h g; exact h
  | stack k ih => intro Q R E F p s h g; exact ih _ Q R E F p s h g
  | fork _ _ => intro Q R E F p s h g; exact h
  | thread k ih => intro Q R E F p s h g; exact ih _ Q R E F p s h g
  | await _ _ _ _ _ => intro Q R E F p s h g; exact h
theorem wpAny_both {α : Type} {M : Model} {A : Around} {t : Sem α} {Q R : α → Shared → Prop} {E F : Value → Shared → Prop} {s : Shared} (h : wpAny M A t Q E s) (g : wpAny M A t R F s) : wpAny M A t (fun a s' => Q a s' ∧ R a s') (fun e s' => E e s' ∧ F e s') s :=
  fun Γ p hΓ => wp_both M Γ t _ _ _ _ p s (h Γ p hΓ) (g Γ p hΓ)
end Moot
/-! Comprehensions as values; names drawn letter by letter. -/
namespace Moot
open PySem PySem.Spec PyProof.Rows L2
section
variable {X : Cx}
/-- the turn by its three rules -/
def tvOf (g : TG) (te : TE) (vs : List Nat) : V → L2.St → Hp → Addr → (Hp → Prop) → Prop := fun x σ H D Nx => g x σ H fun σ2 H2 => wipe σ2 vs = wipe σ vs ∧ te σ2 H2 fun y H4 =>
  ∃ acc, GLs H4 D acc ∧ acc.length < sizeLine ∧ ∀ o', GdL o' (acc ++ [y]) → Nx (upd H4 D (.frz o' (.lst (acc ++ [y]))))
theorem turn_of {nn : Nat} {Y : Cx} {tg elt : Expr} {g : TG} {te : TE} {vs : List Nat} (xe : Y.xe = fun _ _ => False) (hg : PG Y tg g) (he : PEK nn Y elt te) : TurnOk nn Y tg [] elt (fun _ => True) vs (tvOf g te vs) := by
  intro pins s σ H x u D Nx k0 I r _ h
  have h1 := hg.run pins s σ H x u _ I r h
  rw [xe] at h1
  refine thnT h1 fun _ s2 k2 ⟨σ2, H2, I2, hw, q2⟩ => wpAny_tests_nil ?_
  rw [if_pos rfl]
  have h2 := he.run pins s2 σ2 H2 _ (by omega) I2 q2
  rw [xe] at h2
  exact thn h2 fun z s4 ⟨y, H4, I4, r4, g4, acc, a1, a2, a3⟩ => ⟨σ2, y, H4, acc, I4, hw, r4, g4, a1, a2, a3⟩
/-- as a value -/
theorem pek_lcG {nn : Nat} {elt tg iter : Expr} {ifs : List Expr} {scope : Scope} {own : List (Str × Nat)} {pos : Pos} {wi : TI} {GU : Value → Prop} {tv : V → L2.St → Hp → Addr → (Hp → Prop) → Prop} (hc : X.calm = true) (hN : X.N.Nodup) (hi : PIG nn X tg iter GU wi) (ok : BlkOk X.N X.env.scope scope own)
    (ht : ∀ (s : Shared) (H : Hp) (C : Addr) (cl : List (Str × Addr)) (fp : List Addr), TurnOk nn (X.blk s H scope (compEnvC scope cl C X.env) fp) tg ifs elt GU (own.map (·.2)) tv) (hs : ∀ x, foldedSetIterable iter X.env x = pure x := by intro _; rfl) :
    PEK nn X (.ListComp elt [⟨tg, iter, ifs, 0⟩] scope pos) (tLcG wi tv (own.map (·.2))) := by
  refine ⟨fun pins s σ H Q k0 I h => ?_⟩
  rw [eval_ListComp]
  refine lcG_core hc hN k0 I hi ok ht hs h fun D C s' m H' _ I' q hn f => ⟨m, hn, fun h'' sb => ?_⟩
  obtain ⟨f0, f1, f2, f3, f4, f5⟩ := f
  exact ⟨.ref D, H', I'.turned (t' := s'.toks) (fun b o hb e => (sb.2 b hb).trans e) f0 f1 f3 f4 f5, rfl, trivial, q⟩
/-- where nothing is asked of the tokens given out -/
theorem PEK.pe {e : Expr} {t : TE} (h : PEK 0 X e t) : PE X e t := ⟨fun pins s σ H Q I q => thn (h.run pins s σ H Q (Nat.zero_le _) I q) fun _ _ ⟨v, H', a, b, _, d⟩ => ⟨v, H', a, b, d⟩⟩
/-- a text's signs, each with a token -/
theorem pig_str {tg e : Expr} {te : TE} (he : PE X e te) : PIG 1 X tg e GdV (iStr te) := by
  refine ⟨fun pins s σ H R I h => thn (he.run pins s σ H _ I h) fun v s1 ⟨y, H1, I1, r1, x, ex, q⟩ => ?_⟩
  subst ex
  obtain ⟨t, rfl⟩ := r1
  have items : ∀ (P : Program) (w : World) (K : PySem.W.Frag) (it : Addr) (ty : String), (ty = "str_ascii_iterator" ∨ ty = "str_iterator") → ItemG P w K tg (Its x) [it] it (fun i h => h.IsStrIter it ty x t i) 1 GdV := by
    intro P w K it ty hty Y e1 e2 e3 hc i pins s σ H E k0 I hf st go
    subst e1 e2 e3
    obtain ⟨f0, f1, f2, f3, f4, f5⟩ := hf it (by simp)
    have hno : ["enumerate", "zip", "dict_itemiterator", "dict_reverseitemiterator", "odict_iterator", "itertools.zip_longest", "itertools.pairwise"].contains ty = false := by
      rcases hty with e | e <;> rw [e] <;> decide
    have go : i < x.cps.size := go
    have fin : ∀ h', h'.IsStrIter it ty x t (i + 1) → Heap.SameBut it s.heap h' → (fun (r : Option Value) (s1 : Shared) => ∃ u, r = some u ∧ wpAny (model Y.prog Y.w) Y.A (letOwnedTupleGo tg (.ref it) u) (fun _ s2 => ∃ x' H', Inv Y pins σ H' s2 ∧ RelV x' u ∧ GdV u ∧ (Its x).yld i H x' H' ∧ s2.heap.IsStrIter it ty x t (i + 1) ∧ ∀ b ∈ [it], H' b = none) E s1)
        (some (.str ⟨#[x.cps[i]]⟩ s.toks)) { s with heap := h', toks := s.toks + 1 } := fun h' st' sb => by
      have I1 : Inv Y pins σ H { s with heap := h', toks := s.toks + 1 } := I.turned (fun b o hb e => (sb.2 b hb).trans e) f0 f1 f3 f4 f5
      obtain ⟨oi, e, cc, dd⟩ := id st'
      exact ⟨_, rfl, go_of (s := { s with heap := h', toks := s.toks + 1 }) e cc dd hno ⟨.str ⟨#[x.cps[i]]⟩, H, I1, ⟨_, rfl⟩, (show s.toks ≠ 0 by omega), ⟨rfl, _, by simp [go], rfl⟩, st', fun b hb => (hf b hb).1⟩⟩
    rcases hty with e | e
    · subst e
      exact wpAny_pyNext_ascii_item st (c := x.cps[i]) (by simp [go]) fin
    · subst e
      exact wpAny_pyNext_wide_item st (c := x.cps[i]) (by simp [go]) fin
  have one : ∀ (o : Obj) (ty : String), (ty = "str_ascii_iterator" ∨ ty = "str_iterator") → (s1.heap.push o).IsStrIter s1.heap.objs.size ty x t 0 → PIEG X pins σ tg 1 GdV R (.ref s1.heap.objs.size) { s1 with heap := s1.heap.push o } := fun o ty hty st => by
    refine ⟨s1.heap.objs.size, [s1.heap.objs.size], _, Its x, H1, rfl, I1.kept (t' := s1.toks) fun b ob e => Heap.get?_push_of_some _ e, turn_str _ x t ty hty.symm.symm, items _ _ _ _ ty hty, st, fun b hb => ?_, q⟩
    have e : b = s1.heap.objs.size := by simpa using hb
    subst e
    exact I1.fpOk (Nat.le_refl _) (I1.hok.fresh (Nat.le_refl _))
  cases ha : x.cps.all (· < 128)
  · exact wpAny_pyIter_wide ha (one _ "str_iterator" (.inr rfl) ⟨_, Heap.get?_push_size _ rfl, rfl, rfl⟩)
  · exact wpAny_pyIter_ascii ha (one _ "str_ascii_iterator" (.inl rfl) ⟨_, Heap.get?_push_size _ rfl, rfl, rfl⟩)
end
end Moot
namespace Moot
open PySem PySem.Spec PyProof.Rows L2
theorem inV_txt (z : Str) (xs : List Str) : inV (.str z) (xs.map V.str) = decide (z ∈ xs) := by
  unfold inV
  rw [List.any_map, Bool.eq_iff_iff, List.any_eq_true, decide_eq_true_eq]
  constructor
  · rintro ⟨y, m, e⟩
    have : y = z := by simpa [eqV] using e
    exact this ▸ m
  · intro m
    exact ⟨z, m, by simp [eqV]⟩
theorem flat_txts (xs : List Str) : (xs.map V.str).all flatV = true := by
  rw [List.all_map]
  exact List.all_eq_true.mpr fun _ _ => rfl
section
variable {Y : Cx} {pins : List (Addr × Obj)} {σ : L2.St} {H : Hp} {s : Shared}
/-- a local's own value -/
theorem raw_local {y : Str} {pos : Pos} {m : Str → Option Value} {u : Value} {Q E : Value → Shared → Prop} (ok : Y.Ok) (hk : Y.env.scope.names.lookup y = some .local) (hn : s.heap.Ns Y.env.locals m) (hm : m y = some u) (h : Q u s)
    (hd : (y == ("__debug__" : Str)) = false := by decide) : wpAny (model Y.prog Y.w) Y.A (eval (.Name y pos) Y.env) Q E s := wpAny_Name (wpAny_loadName_local ok.kind hk hn hm h) hd
/-- a local is stored: which value it has is known -/
theorem store_both {i : Nat} {y : Str} {v : V} {u : Value} {E : Value → Shared → Prop} (I : Inv Y pins σ H s) (hN : Y.N.Nodup) (hi : Y.N[i]? = some y) (hk : Y.env.scope.names.lookup y = some .local) (r : RelV v u) :
    wpAny (model Y.prog Y.w) Y.A (storeName Y.env y u) (fun _ s' => Inv Y pins (σ.set i (some v)) H s' ∧ ∃ m, s'.heap.Ns Y.env.locals m ∧ m y = some u) E s := by
  obtain ⟨m, hn, _⟩ := I.loc
  have hcls : (Y.env.scope.kind == .class || (Y.env.scope.kind == .module && Y.env.locals != Y.env.globals)) = false := by rw [I.ok.kind]; rfl
  exact wpAny_mono (wpAny_both (store_ok (Q := fun _ s' => Inv Y pins (σ.set i (some v)) H s') (E := E) I hN hi (.inl hk) r (fun _ I' => I') (.inr hk))
    (wpAny_storeName_local (Q := fun _ s' => ∃ m, s'.heap.Ns Y.env.locals m ∧ m y = some u) (E := E) hk hn (fun h' hn' _ => ⟨_, hn', by simp⟩) hcls)) (fun _ _ z => z) fun _ _ z => z.1
/-- y not in f, y a local text, f a list of texts: nothing changes -/
theorem raw_notin {j : Nat} {y f z : Str} {t : Tok} {l : Addr} {zs : List Str} {p2 p3 p4 : Pos} {whole : Sem Value} {m : Str → Option Value} {Q : Bool → Shared → Prop} {E : Value → Shared → Prop} (I : Inv Y pins σ H s) (hk : Y.env.scope.names.lookup y = some .local) (hn : s.heap.Ns Y.env.locals m) (hm : m y = some (.str z t))
    (hj : Y.N[j]? = some f) (hf : Vis Y.env.scope f) (hσ : σ[j]? = some (some (.ref l))) (hl : SqL Y.K H l (zs.map V.str)) (h : Q (!decide (z ∈ zs)) s)
    (hdy : (y == ("__debug__" : Str)) = false := by decide) (hdf : (f == ("__debug__" : Str)) = false := by decide) (hcf : (f == ("__classdict__" : Str)) = false := by decide) :
    wpAny (model Y.prog Y.w) Y.A (isTrue (.Compare (.Name y p2) [.NotIn] [.Name f p3] p4) Y.env whole) Q E s := by
  refine wpAny_isTrue_Compare1 (raw_local I.ok hk hn hm (raw_name hj hf I hσ (fun u r => ?_) hdf hcf) hdy) rfl
  cases r
  obtain ⟨its, r, pl, hz⟩ := I.list hl
  refine SeqAt.notIn_listAt (eqU (.str z)) pl.isList (fun w hw => mem_eqAt (x := .str z) ⟨t, rfl⟩ rfl r (flat_txts zs) w (by simpa using hw)) (wpAny_truthy_bool ?_)
  rw [show its.toArray.any (eqU (.str z)) = its.any (eqU (.str z)) by simp, any_eqU r (flat_txts zs), show ((zs.map V.str).any fun y => eqV y (V.str z)) = decide (z ∈ zs) from inV_txt z zs]
  exact h
/-- [y for y in .. if y not in f] -/
def tvNotIn (K : PySem.W.Frag) (i j : Nat) : V → L2.St → Hp → Addr → (Hp → Prop) → Prop := fun x σ H D Nx => ∃ (z : Str) (l : Addr) (zs : List Str), x = .str z ∧ (σ.set i (some x))[j]? = some (some (.ref l)) ∧ SqL K H l (zs.map V.str) ∧
  (z ∈ zs → Nx H) ∧ (z ∉ zs → ∃ acc, GLs H D acc ∧ acc.length < sizeLine ∧ ∀ o', GdL o' (acc ++ [.str z]) → Nx (upd H D (.frz o' (.lst (acc ++ [.str z])))))
theorem turn_notin {nn i j : Nat} {y f : Str} {p1 p2 p3 p4 p5 : Pos} (hN : Y.N.Nodup) (hi : Y.N[i]? = some y) (hk : Y.env.scope.names.lookup y = some .local) (hj : Y.N[j]? = some f) (hf : Vis Y.env.scope f)
    (hdy : (y == ("__debug__" : Str)) = false := by decide) (hdf : (f == ("__debug__" : Str)) = false := by decide) (hcf : (f == ("__classdict__" : Str)) = false := by decide) :
    TurnOk nn Y (.Name y p1) [.Compare (.Name y p2) [.NotIn] [.Name f p3] p4] (.Name y p5) GdV [i] (tvNotIn Y.K i j) := by
  intro pins s σ H x u D Nx _ I r g h
  obtain ⟨z, l, zs, rfl, hσ, hl, q1, q2⟩ := h
  obtain ⟨t, rfl⟩ := r
  refine wpAny_assign_Name (thn (store_both I hN hi hk (v := .str z) ⟨t, rfl⟩) fun _ s2 ⟨I2, m, hn, hm⟩ => wpAny_tests_one (raw_notin I2 hk hn hm hj hf hσ hl ?_ hdy hdf hcf))
  have ws : wipe (σ.set i (some (.str z))) [i] = wipe σ [i] := by
    show (σ.set i (some (.str z))).set i none = σ.set i none
    rw [List.set_set]
  by_cases c : z ∈ zs
  · rw [decide_eq_true c]
    exact (if_neg (by decide)).mpr ⟨_, H, I2, ws, q1 c⟩
  · rw [decide_eq_false c]
    obtain ⟨acc, a1, a2, a3⟩ := q2 c
    exact (if_pos rfl).mpr (raw_local I2.ok hk hn hm ⟨_, .str z, H, acc, I2, ws, ⟨t, rfl⟩, g, a1, a2, a3⟩ hdy)
end
end Moot
namespace Moot
open PySem PySem.Spec PyProof.Rows L2
section
variable {X : Cx}
/-- behind the name: it, or the first letter that is free, is put behind the others -/
def Put (i jf : Nat) (tl : TE) (X : Cx) (D : Ends) (σ : L2.St) (z : Str) (H1 : Hp) : Prop := ∃ (l : Addr) (zs : List Str), (σ.set i (some (.str z)))[jf]? = some (some (.ref l)) ∧ GLs H1 l (zs.map V.str) ∧ Nf X l ∧ zs.length < sizeLine ∧
  (z ∉ zs → ∀ o', GdL o' (zs.map V.str ++ [.str z]) → D.nx (σ.set i (some (.str z))) (upd H1 l (.frz o' (.lst (zs.map V.str ++ [.str z]))))) ∧
  (z ∈ zs → tl (σ.set i (some (.str z))) H1 fun v H2 => ∃ (D2 : Addr) (c : Str) (r : List V), v = .ref D2 ∧ GLs H2 D2 (.str c :: r) ∧ GLs H2 l (zs.map V.str) ∧
    ∀ o', GdL o' (zs.map V.str ++ [.str c]) → D.nx (σ.set i (some (.str z))) (upd H2 l (.frz o' (.lst (zs.map V.str ++ [.str c])))))
def tJoinPut (i jf : Nat) (ta tl : TE) (X : Cx) : TS := fun D σ H => ta σ H fun v H1 => ∃ (p : Addr) (ys : List Str), v = .ref p ∧ GLs H1 p (ys.map V.str) ∧ (ys.map (·.length)).sum + ys.length * Str.empty.length ≤ 16777216 ∧ Put i jf tl X D σ (Txt.join Str.empty ys) H1
theorem pss_joinPut {i jf : Nat} {nm f : Str} {a L : Expr} {ta tl : TE} {j j2 : Nat} {pa c1 apos cpos posA q1 q2 q3 q4 q5 q6 q7 q8 q9 q10 posB : Pos} (hN : X.N.Nodup) (hi : X.N[i]? = some nm) (hk : X.env.scope.names.lookup nm = some .local) (hj : X.N[jf]? = some f) (hf : Vis X.env.scope f)
    (ha : PEK 1 X a ta) (hL : PEK 1 X L tl)
    (hsA : swapsWith (.Call (.Attribute (.Constant (.str Str.empty) j c1) "join" apos) [a] [] cpos) (some (.Name nm pa)) posA.line X.env = pure false := by rfl)
    (hsB : swapsWith (.Call (.Attribute (.Name f q1) "append" q2) [.IfExp (.Compare (.Name nm q3) [.NotIn] [.Name f q4] q5) (.Name nm q6) (.Subscript L (.Constant (.int 0) j2 q7) q8) q9] [] q10) none posB.line X.env = pure false := by rfl)
    (hb1 : attributeBase (.Constant (.str Str.empty) j c1) "join" X.env (eval (.Constant (.str Str.empty) j c1) X.env) = eval (.Constant (.str Str.empty) j c1) X.env := by rfl)
    (hf1 : ((backTo cpos (starEach [a] X.env)).all (fun x => !x.1) && (backToKw cpos (keywordEach [] X.env)).all (fun x => x.1.isSome) && decide ([a].length + ([] : List Keyword).length + (if ([] : List Keyword).isEmpty then 0 else 1) < 30)) = true := by rfl)
    (hl1 : (apos.endLine == cpos.line) = true := by rfl) (hs1 : starEach [a] X.env = [(false, eval a X.env)] := by rfl)
    (hb2 : attributeBase (.Name f q1) "append" X.env (eval (.Name f q1) X.env) = eval (.Name f q1) X.env := by rfl)
    (hf2 : ((backTo q10 (starEach [.IfExp (.Compare (.Name nm q3) [.NotIn] [.Name f q4] q5) (.Name nm q6) (.Subscript L (.Constant (.int 0) j2 q7) q8) q9] X.env)).all (fun x => !x.1) && (backToKw q10 (keywordEach [] X.env)).all (fun x => x.1.isSome) && decide ([Expr.IfExp (.Compare (.Name nm q3) [.NotIn] [.Name f q4] q5) (.Name nm q6) (.Subscript L (.Constant (.int 0) j2 q7) q8) q9].length + ([] : List Keyword).length + (if ([] : List Keyword).isEmpty then 0 else 1) < 30)) = true := by rfl)
    (hl2 : (q2.endLine == q10.line) = true := by rfl)
    (hs2 : starEach [.IfExp (.Compare (.Name nm q3) [.NotIn] [.Name f q4] q5) (.Name nm q6) (.Subscript L (.Constant (.int 0) j2 q7) q8) q9] X.env = [(false, eval (.IfExp (.Compare (.Name nm q3) [.NotIn] [.Name f q4] q5) (.Name nm q6) (.Subscript L (.Constant (.int 0) j2 q7) q8) q9) X.env)] := by rfl)
    (hix : PlainIx (.Constant (.int 0) j2 q7) := by exact fun _ _ => rfl)
    (hdy : (nm == ("__debug__" : Str)) = false := by decide) (hdf : (f == ("__debug__" : Str)) = false := by decide) (hcf : (f == ("__classdict__" : Str)) = false := by decide) :
    PSs X [.Assign [.Name nm pa] (.Call (.Attribute (.Constant (.str Str.empty) j c1) "join" apos) [a] [] cpos) posA,
      .Expr (.Call (.Attribute (.Name f q1) "append" q2) [.IfExp (.Compare (.Name nm q3) [.NotIn] [.Name f q4] q5) (.Name nm q6) (.Subscript L (.Constant (.int 0) j2 q7) q8) q9] [] q10) posB] (tJoinPut i jf ta tl X) := by
  refine ⟨fun pins s σ H D I h => ?_⟩
  refine wpAny_execs_cons (wpAny_Assign_Name (thn (pek_join (Q := fun v H1 => match v with | .str z => Put i jf tl X D σ z H1 | _ => False) ha hb1 hf1 hl1 hs1 I h) fun u s1 ⟨k1, v, H1, I1, r1, g1, q1⟩ => ?_) hsA)
  cases v with
  | str z =>
    obtain ⟨t, rfl⟩ := r1
    obtain ⟨l, zs, hσ, gl, nf, few, out, inn⟩ := q1
    refine thnT (store_both I1 hN hi hk (v := .str z) ⟨t, rfl⟩) fun _ s2 k2 ⟨I2, m, hn, hm⟩ => ?_
    show wpAny _ _ (execs [_] _) _ _ s2
    refine wpAny_execs_cons (wpAny_Expr_any ?_ I2.quiet hsB)
    show wpAny _ _ (eval _ _) (fun _ s' => wpAny _ _ (execs [] _) _ _ s') _ s2
    refine wpAny_Call_method_late hb2 hf2 hl2 rfl (raw_name hj hf I2 hσ (fun u r => ?_) hdf hcf)
    cases r
    obtain ⟨h1, h2⟩ := tyV_is (T := "list") I2 (show RelV (.ref l) (.ref l) from rfl) (.inl ⟨rfl, _, gl.seq⟩)
    refine ⟨"list", "list.append", F.plainAttrs_list, F.slot_list_append, F.type_list_append, h1, h2, ?_⟩
    rw [hs2]
    refine Calls.callWith_builtin rfl (Calls.evalArgs_plain ?_)
    show wpAny _ _ (spliced ((false, eval _ X.env) :: [])) _ _ _
    refine Calls.spliced_cons (wpAny_IfExp (raw_notin I2 hk hn hm hj hf hσ gl.seq ?_ hdy hdf hcf))
    have lz : (zs.map V.str).length < sizeLine := by rw [List.length_map]; exact few
    by_cases c : z ∈ zs
    · rw [decide_eq_true c]
      refine (if_neg (by decide)).mpr (Subscript_ (thnT (hL.run pins s2 _ H1 _ (by omega) I2 (inn c)) fun v3 s3 k3 ⟨x3, H3, I3, r3, _, D2, cc, r, e3, gD, gl3, q3⟩ => wpAny_Constant_int ?_))
      subst e3
      cases r3
      obtain ⟨oD, ⟨its, n, rfl, rv, gi⟩, hD⟩ := gD
      obtain ⟨getD, _⟩ := I3.hok D2 _ hD
      cases rv with
      | cons rc rr =>
        obtain ⟨tc, rfl⟩ := rc
        rename_i us
        refine item_listR (s := { s3 with toks := s3.toks + 1 }) (items := (Value.str cc tc :: us).toArray) ⟨_, getD, rfl, n, rfl⟩ (Int.le_refl 0) (by decide) rfl (Calls.spliced_nil ?_) (hix _ _)
        refine app_g (I3.tok (s3.toks + 1)) gl3 nf lz (y := .str cc) ⟨tc, rfl⟩ (gi _ List.mem_cons_self) fun s' o' _ g' I' => wpAny_execs_nil ⟨_, _, I', q3 o' g'⟩
    · rw [decide_eq_false c]
      refine (if_pos rfl).mpr (raw_local I2.ok hk hn hm (Calls.spliced_nil ?_) hdy)
      exact app_g I2 gl nf lz (y := .str z) ⟨t, rfl⟩ g1 fun s' o' _ g' I' => wpAny_execs_nil ⟨_, _, I', out c o' g'⟩
  | _ => exact q1.elim
end
end Moot
namespace Moot
open PySem PySem.Spec PyProof.Rows L2
section
variable {X : Cx}
/-- from here on an empty list is known to the object -/
theorem pss_known {rest : List Stmt} {u : TS} (h : PSs X rest u) : PSs X rest (fun D σ H => ∃ l, H l = some (.lst []) ∧ Nf X l ∧ ∀ o, GdL o [] → u D σ (upd H l (.frz o (.lst [])))) := by
  refine ⟨fun pins s σ H D I q => ?_⟩
  obtain ⟨l, hl, nf, q⟩ := q
  obtain ⟨_, its, n, r, e⟩ := I.hok l _ hl
  cases r
  exact h.run pins s σ _ D (inv_lock I hl nf e) (q _ ⟨[], n, rfl, .nil, fun u m => by cases m⟩)
end
end Moot
namespace Moot
open PySem PySem.Spec PyProof.Rows L2
section
variable {tv : V → L2.St → Hp → Addr → (Hp → Prop) → Prop} {vs : List Nat} {σ : L2.St} {H1 : Hp} {D : Addr} {Qd : Hp → Prop} {o0 : Obj}
/-- a known comprehension over a walk of n things -/
theorem lcG_by {J : It} {n : Nat} (Pv : Nat → Hp → Prop) (h0 : Pv 0 (upd H1 D (.frz o0 (.lst [])))) (go : ∀ i H, i < n → Pv i H → J.go i H) (stop : ∀ H, Pv n H → J.stop n H)
    (hs : ∀ i x H H', i < n → Pv i H → J.yld i H x H' → tv x (wipe σ vs) H' D (Pv (i + 1))) (hd : ∀ H, Pv n H → Qd H) :
    ∃ W : Nat → Nat → Hp → Prop, (∃ m, W 0 m (upd H1 D (.frz o0 (.lst [])))) ∧ ∀ i m H, W i m H → (J.stop i H ∧ Qd H) ∨ (J.go i H ∧ ∃ Nx : Hp → Prop, (∀ H', Nx H' → ∃ m', m' < m ∧ W (i + 1) m' H') ∧ ∀ x H', J.yld i H x H' → tv x (wipe σ vs) H' D Nx) := by
  refine ⟨fun i m H => m = n - i ∧ i ≤ n ∧ Pv i H, ⟨n, by simp, Nat.zero_le _, h0⟩, ?_⟩
  rintro i m H ⟨rfl, hi, p⟩
  by_cases lt : i < n
  · exact .inr ⟨go i H lt p, Pv (i + 1), fun H' p' => ⟨n - (i + 1), by omega, rfl, lt, p'⟩, fun x H' y => hs i x H H' lt p y⟩
  · have e : i = n := by omega
    subst e
    exact .inl ⟨stop H p, hd H p⟩
theorem lcG_range {lo : Int} {n : Nat} (Pv : Nat → Hp → Prop) (h0 : Pv 0 (upd H1 D (.frz o0 (.lst [])))) (hs : ∀ i H, i < n → Pv i H → tv (.int (lo + i)) (wipe σ vs) H D (Pv (i + 1))) (hd : ∀ H, Pv n H → Qd H) :
    ∃ W : Nat → Nat → Hp → Prop, (∃ m, W 0 m (upd H1 D (.frz o0 (.lst [])))) ∧ ∀ i m H, W i m H → ((Itr lo n).stop i H ∧ Qd H) ∨ ((Itr lo n).go i H ∧ ∃ Nx : Hp → Prop, (∀ H', Nx H' → ∃ m', m' < m ∧ W (i + 1) m' H') ∧ ∀ x H', (Itr lo n).yld i H x H' → tv x (wipe σ vs) H' D Nx) :=
  lcG_by Pv h0 (fun _ _ lt _ => lt) (fun _ _ => Nat.le_refl _) (fun i x H H' lt p y => by
    obtain ⟨e, y⟩ := y
    subst e y
    exact hs i _ lt p) hd
theorem lcG_str {z : Str} (Pv : Nat → Hp → Prop) (h0 : Pv 0 (upd H1 D (.frz o0 (.lst [])))) (hs : ∀ i c H, z.cps[i]? = some c → Pv i H → tv (.str ⟨#[c]⟩) (wipe σ vs) H D (Pv (i + 1))) (hd : ∀ H, Pv z.cps.size H → Qd H) :
    ∃ W : Nat → Nat → Hp → Prop, (∃ m, W 0 m (upd H1 D (.frz o0 (.lst [])))) ∧ ∀ i m H, W i m H → ((Its z).stop i H ∧ Qd H) ∨ ((Its z).go i H ∧ ∃ Nx : Hp → Prop, (∀ H', Nx H' → ∃ m', m' < m ∧ W (i + 1) m' H') ∧ ∀ x H', (Its z).yld i H x H' → tv x (wipe σ vs) H' D Nx) :=
  lcG_by Pv h0 (fun _ _ lt _ => lt) (fun _ _ => Nat.le_refl _) (fun i x H H' lt p y => by
    obtain ⟨e, c, hc, y⟩ := y
    subst e y
    exact hs i c _ hc p) hd
end
end Moot
/-! Lists that change, each text in them with a token. -/
namespace Moot
open PySem PySem.Spec PyProof.Rows L2
def TLx (l : Addr) (xs : List V) : HO := .ext fun h => xs.length ≤ sizeLine ∧ ∃ (its : List Value) (n : Nat), Vals xs its ∧ GdS its ∧ h.get? l = some { cls := .type "list", data := .seq its.toArray n }
theorem tlx_ok {P : Program} {w : World} {H : Hp} {h : Heap} {l : Addr} {xs : List V} {its : List Value} {n : Nat} (z : xs.length ≤ sizeLine) (r : Vals xs its) (g : GdS its) (e : h.get? l = some { cls := .type "list", data := .seq its.toArray n }) : ObjOk P w H h l (TLx l xs) := by
  refine ⟨⟨z, its, n, r, g, e⟩, ⟨_, e⟩, ?_⟩
  rintro h1 h2 ⟨z, its, n, r, g, e⟩ k
  exact ⟨z, its, n, r, g, k _ e⟩
section
variable {X : Cx}
/-- list(xs) of a known list -/
theorem call_listX : CallR X (.type "list") (fun xs H Q => ∃ p ys, xs = [.ref p] ∧ GLs H p ys ∧ ∀ l, H l = none → Q (.ref l) (upd H l (TLx l ys))) := by
  intro pins s σ H xs us Q I r h
  obtain ⟨p, ys, rfl, ⟨o, ⟨its, n, rfl, r', g⟩, hH⟩, q⟩ := h
  obtain ⟨u, rfl, rx⟩ := vals1 r
  cases rx
  obtain ⟨e, hz, _⟩ := I.hok p _ hH
  have hlen := r'.length
  refine call_list_seq p (.inl rfl) e rfl rfl (fun h' c' kp e' => ?_) (by simp only [List.size_toArray] <;> omega)
  exact ⟨.ref s.heap.objs.size, _, I.laid (t' := s.toks) kp (Nat.le_refl _) (tlx_ok hz r' g e'), rfl, q _ (I.hok.fresh (Nat.le_refl _))⟩
/-- len(xs) of such a list -/
def rLenX : List V → Hp → VK → Prop := fun vs H Q => ∃ (l : Addr) (xs : List V), vs = [.ref l] ∧ H l = some (TLx l xs) ∧ Q (.int xs.length) H
theorem call_lenX : CallR X (.builtin "len") rLenX := by
  intro pins s σ H vs us Q I r h
  obtain ⟨l, xs, rfl, hl, q⟩ := h
  obtain ⟨u, rfl, rx⟩ := vals1 r
  cases rx
  obtain ⟨⟨z, its, n, rv, _, e⟩, _⟩ := I.hok l _ hl
  have lens := rv.length
  have hn := line63
  refine len_list (items := its.toArray) ⟨_, e, rfl, n, rfl⟩ (by simp only [List.size_toArray]; omega) ⟨.int xs.length, H, I.tok _, ⟨_, by rw [List.size_toArray, lens]⟩, q⟩
/-- xs.pop(i) of such a list -/
theorem pek_popX {nn : Nat} {o e : Expr} {to : TE} {t : TA} {apos cpos : Pos} (ho : PE X o to) (ha : PA X [e] t) (hbase : attributeBase o "pop" X.env (eval o X.env) = eval o X.env := by rfl)
    (hfew : ((backTo cpos (starEach [e] X.env)).all (fun x => !x.1) && (backToKw cpos (keywordEach [] X.env)).all (fun x => x.1.isSome) && decide ([e].length + ([] : List Keyword).length + (if ([] : List Keyword).isEmpty then 0 else 1) < 30)) = true := by rfl)
    (hline : (apos.endLine == cpos.line) = true := by rfl) (hs : starEach [e] X.env = [(false, eval e X.env)] := by rfl) :
    PEK nn X (.Call (.Attribute o "pop" apos) [e] [] cpos) (fun σ H Q => to σ H fun x H1 => ∃ l ys, x = .ref l ∧ H1 l = some (TLx l ys) ∧ t σ H1 fun vs H2 => ∃ xs i k y, vs = [.int i] ∧ H2 l = some (TLx l xs) ∧ -(2 ^ 63) ≤ i ∧ i < 2 ^ 63 ∧ seqIndex? i xs.length = some k ∧ xs[k]? = some y ∧
      Q y (upd H2 l (TLx l (xs.eraseIdx k)))) := by
  refine ⟨fun pins s σ H Q k0 I h => ?_⟩
  refine wpAny_Call_method_late hbase hfew hline rfl (thn (ho.run pins s σ H _ I h) fun v s1 ⟨x, H1, I1, r1, l, ys, ex, hl1, q1⟩ => ?_)
  subst ex
  cases r1
  obtain ⟨⟨_, _, _, _, _, e1⟩, _⟩ := I1.hok l _ hl1
  refine ⟨"list", "list.pop", F.plainAttrs_list, F.slot_list_pop, F.type_list_pop, ⟨_, e1, rfl⟩, (fun a e2 => by cases e2; exact ⟨_, e1, rfl⟩), ?_⟩
  have hA := ha.run cpos pins s1 σ H1 _ I1 q1
  rw [hs] at hA ⊢
  refine Calls.callWith_builtin rfl (Calls.evalArgs_plain (thn hA fun us s2 ⟨vs, H2, I2, r2, q2⟩ => ?_))
  obtain ⟨xs, i, k, y, rfl, hH, b1, b2, hk, hy, q⟩ := q2
  obtain ⟨u, rfl, ru⟩ := r2.one
  obtain ⟨tk, rfl⟩ := ru
  obtain ⟨⟨hz, its, n, r, g, hget⟩, _⟩ := I2.hok l _ hH
  have hl := r.length
  obtain ⟨uy, hw, ry⟩ := r.get hy
  refine call_meets F.slot_list_pop ⟨_, hget, rfl⟩ F.entry_list_pop (F.args_list_pop_2 _ _)
    (MeetsSeq.list_pop_at l its.toArray n i tk k uy (fitsIndex_both b1 b2) (by rw [List.size_toArray, ← hl]; exact hk) (by rw [← Array.getElem?_toList]; exact hw) (by rw [List.size_toArray]; omega)) ⟨hget, ?_⟩
  have hf : its.toArray.eraseIdxIfInBounds k = (its.eraseIdx k).toArray := by rw [List.eraseIdxIfInBounds_toArray]
  have at' := PySem.IsL.update hget (fun a : Array Value => a.eraseIdxIfInBounds k)
  rw [hf] at at'
  have I' : Inv X pins σ (upd H2 l (TLx l (xs.eraseIdx k))) { s2 with heap := s2.heap.update l (Obj.mapSeq fun a : Array Value => a.eraseIdxIfInBounds k), toks := s2.toks } :=
    I2.write (x := l) (e := l) (by rw [hH]; exact trivial) (.inl rfl) (fun b' u hb hu => (Heap.get?_update_other s2.heap _ (Ne.symm hb)).trans hu) ⟨_, at'⟩ (tlx_ok (by have := len_erase xs k; omega) (r.eraseIdx k) (g.erase k) at')
  exact ⟨y, _, I', ry, g uy (List.mem_of_getElem? hw), q⟩
/-- xs + ys, each a list in any way -/
theorem op_catS : OpR X (binaryOp .Add) (fun x y H Q => ∃ l b xs zs, x = .ref l ∧ y = .ref b ∧ Rd H l (.lst xs) ∧ Rd H b (.lst zs) ∧ xs.length + zs.length ≤ sizeLine ∧ ∀ p, H p = none → Q (.ref p) (upd H p (.lst (xs ++ zs)))) := by
  intro pins s σ H x y v u Q I rx ry h
  obtain ⟨l, b, xs, zs, rfl, rfl, hl, hb, hz, q⟩ := h
  cases rx
  cases ry
  obtain ⟨_, its, n, r, e⟩ := hl.ok I.hok
  obtain ⟨_, its2, n2, r2, e2⟩ := hb.ok I.hok
  have l1 := r.length
  have l2 := r2.length
  refine PySem.P.add_list e e2 ?_ (by rw [List.size_toArray, List.size_toArray]; omega)
  have ea : its.toArray ++ its2.toArray = (its ++ its2).toArray := by simp
  rw [ea]
  exact ⟨.ref _, _, I.lnew (t' := s.toks) (r.append r2) (by rw [List.length_append]; omega), rfl, q _ I.fresh⟩
theorem GLs.rd {H : Hp} {l : Addr} {xs : List V} (h : GLs H l xs) : Rd H l (.lst xs) := let ⟨o, _, e⟩ := h; .inr ⟨o, e⟩
end
end Moot
/-! Sets of keys of any one kind, filled and then walked in whatever order the world has. -/
namespace Moot
open PySem PySem.Spec PyProof.Rows L2
section
variable {P : Program} {w : World} {T : Type} [DecidableEq T]
/-- what is known of a set's entries and of its table -/
structure Laid (knd : KeyKind P w T) (S : T → Bool) (es : Array (Int × Value)) (t : SetTable) : Prop where
  el : ElemsOf knd es.toList
  mem : ∀ k, S k = true ↔ ∃ e ∈ es.toList, knd.is k e.2 = true
  one : es.toList.Pairwise fun e f => ∀ k, knd.is k e.2 = true → knd.is k f.2 = true → False
  few : es.size < scanBound
  fit : t.fits es.size = true
  ris : Ris t.place.toList
  led : w.params.followText "set-order" = true ∨ t.led = true
/-- a set of n keys stands at a, S tells which -/
def Stands (knd : KeyKind P w T) (h : Heap) (a : Addr) (S : T → Bool) (n : Nat) : Prop :=
  ∃ o es ep t, h.get? a = some o ∧ o.ExactSet ∧ o.data = .set es ep t ∧ es.size = n ∧ Laid knd S es t
variable {knd : KeyKind P w T} {S : T → Bool} {es es' : Array (Int × Value)} {t t' : SetTable}
/-- entries in another order, in a table that still rises -/
theorem Laid.moved (L : Laid knd S es t) (p : es'.toList.Perm es.toList) (f : t'.fits es'.size = true) (r : Ris t'.place.toList) (l : t'.led = t.led) : Laid knd S es' t' := by
  have z : es'.size = es.size := by
    have q := p.length_eq
    simpa using q
  refine ⟨L.el.perm p, fun k => (L.mem k).trans ⟨?_, ?_⟩, ?_, by rw [z]; exact L.few, f, r, ?_⟩
  · rintro ⟨e, m, i⟩
    exact ⟨e, p.mem_iff.mpr m, i⟩
  · rintro ⟨e, m, i⟩
    exact ⟨e, p.mem_iff.mp m, i⟩
  · exact (p.pairwise_iff fun {e f} q k a b => q k b a).mpr L.one
  · rw [l]
    exact L.led
/-- a key more -/
theorem Laid.more (L : Laid knd S es t) {k : T} {x : Value} (hk : knd.is k x = true) (hx : x.scannable = true) (new : ∀ e ∈ es.toList, knd.is k e.2 = false)
    (p : es'.toList.Perm (es.push (knd.hash k, x)).toList) (room : es.size + 1 < scanBound) (f : t'.fits es'.size = true) (r : Ris t'.place.toList) (l : t'.led = t.led) :
    Laid knd (fun j => S j || decide (j = k)) es' t' := by
  rw [Array.toList_push] at p
  have z : es'.size = es.size + 1 := by
    have q := p.length_eq
    simpa using q
  have inj : ∀ j, knd.is j x = true → j = k := fun j h => knd.inj x j k h hk
  refine ⟨(L.el.push hk hx).perm p, fun j => ?_, ?_, by rw [z]; exact room, f, r, by rw [l]; exact L.led⟩
  · rw [Bool.or_eq_true, decide_eq_true_eq, L.mem j]
    constructor
    · rintro (⟨e, m, i⟩ | rfl)
      · exact ⟨e, p.mem_iff.mpr (List.mem_append_left _ m), i⟩
      · exact ⟨_, p.mem_iff.mpr (List.mem_append_right _ List.mem_cons_self), hk⟩
    · rintro ⟨e, m, i⟩
      rcases List.mem_append.mp (p.mem_iff.mp m) with m | m
      · exact .inl ⟨e, m, i⟩
      · rw [List.mem_singleton.mp m] at i
        exact .inr (inj j i)
  · refine (p.pairwise_iff fun {e f} q k a b => q k b a).mpr ?_
    refine List.pairwise_append.mpr ⟨L.one, List.pairwise_singleton _ _, fun e m e2 m2 j a b => ?_⟩
    rw [List.mem_singleton.mp m2] at b
    have c := new e m
    rw [inj j b] at a
    rw [a] at c
    cases c
section
variable {A : Around} {E : Value → Shared → Prop} {s : Shared} {a : Addr} {n : Nat} {k : T} {x : Value}
/-- the table with one mark taken off is as good -/
theorem Laid.off (L : Laid knd S es t) (b : Bool) : Laid knd S es (if b = true then t else { t with plain := false }) := by
  cases b with
  | true => exact L
  | false => exact ⟨L.el, L.mem, L.one, L.few, SetTable.fits_plain_off L.fit, L.ris, L.led⟩
/-- entries are stored, and laid anew where the table has grown too full -/
theorem stow {g : Bool → Sem Unit} (quiet : ∀ (b : Bool) (s₁ : Shared) (Q₁ : Unit → Shared → Prop), Q₁ () s₁ → wpAny (model P w) A (g b) Q₁ E s₁)
    {o : Obj} {es₀ : Array (Int × Value)} {ep : Nat} {t₀ : SetTable} (ho : s.heap.get? a = some o) (hex : o.ExactSet) (hd : o.data = .set es₀ ep t₀) (L : Laid knd S es t) {full : Bool} {Q : Option Bool → Shared → Prop}
    (q : ∀ h', Heap.SameBut a s.heap h' → Stands knd h' a S es.size → Q (some true) { s with heap := h' }) :
    wpAny (model P w) A (storeSet a es t >>= fun _ => if full = true then (match relayAll t es (SetTable.grown es.size) with | (es2, t2, gave) => g gave >>= fun _ => storeSet a es2 t2 >>= fun _ => pure (some true)) else pure (some true)) Q E s := by
  have first := store_at (es' := es) (t' := t) ho hd
  have same := Heap.SameBut.update s.heap a (Obj.putSet es t)
  apply wpAny_bind
  apply wpAny_storeSet_of ho hd _ (fits_of_scanBound L.few)
  cases full with
  | false => exact wpAny_pure (q _ same ⟨_, es, _, t, first, hex, rfl, rfl, L⟩)
  | true =>
    have p := relayAll_perm t es (SetTable.grown es.size)
    have L2 := L.moved p (relayAll_fits t es _) (relayAll_ris t es _) (relayAll_led t es _)
    have z : (relayAll t es (SetTable.grown es.size)).1.size = es.size := by simpa using p.length_eq
    rw [if_pos rfl]
    revert L2 z
    rcases relayAll t es (SetTable.grown es.size) with ⟨es2, t2, gave⟩
    intro L2 z
    apply wpAny_bind
    apply quiet
    apply wpAny_bind
    apply wpAny_storeSet_of first rfl _ (fits_of_scanBound L2.few)
    exact wpAny_pure (q _ (same.trans (Heap.SameBut.update _ a _)) ⟨_, es2, _, t2, store_at first rfl, hex, rfl, z, L2⟩)
theorem add_key {Q : Bool → Shared → Prop} (R : Stands knd s.heap a S n) (hk : knd.is k x = true) (hx : x.scannable = true) (room : n + 1 < scanBound)
    (q : ∀ h', Heap.SameBut a s.heap h' → Stands knd h' a (fun j => S j || decide (j = k)) (if S k = true then n else n + 1) → Q (!S k) { s with heap := h' }) :
    wpAny (model P w) A (setAddHashed a x (knd.hash k)) Q E s := by
  obtain ⟨o, es, ep, t, ho, hex, hd, rfl, L⟩ := R
  unfold setAddHashed setAddHashedIn
  apply wpAny_holding
  apply wpAny_bind
  apply wpAny_setState_of ho hd L.fit
  show wpAny _ _ (if byScan x es = true then _ else _) _ _ _
  rw [byScan_of hx L.few L.el, if_pos rfl]
  unfold setAddByScan
  apply wpAny_bind
  apply wpAny_bind
  apply wpAny_rule
  apply wpAny_bind
  apply wpAny_setScan_of hk ho hd L.fit L.el
  cases met : List.findIdx? (fun e => knd.is k e.2) es.toList with
  | some j =>
    obtain ⟨lt, hit, _⟩ := List.findIdx?_eq_some_iff_getElem.mp met
    have old : S k = true := (L.mem k).mpr ⟨_, List.getElem_mem lt, hit⟩
    have same : (fun j => S j || decide (j = k)) = S := funext fun i => by
      by_cases e : i = k
      · rw [e, old, Bool.true_or]
      · rw [decide_eq_false e, Bool.or_false]
    have r := q s.heap (Heap.SameBut.refl a s.heap)
    rw [same, old] at r
    exact wpAny_pure (wpAny_pure (r ⟨o, es, ep, t, ho, hex, hd, rfl, L⟩))
  | none =>
    have new : ∀ e ∈ es.toList, knd.is k e.2 = false := List.findIdx?_eq_none_iff.mp met
    have no : S k = false := by
      cases c : S k with
      | false => rfl
      | true =>
        obtain ⟨e, m, i⟩ := (L.mem k).mp c
        rw [new e m] at i
        cases i
    have p := layNew_perm t es (knd.hash k) x
    have L1 := L.more hk hx new p room (layNew_fits t es (knd.hash k) x) (layNew_ris t es (knd.hash k) x L.ris) (layNew_led t es (knd.hash k) x)
    have z : (layNew t es (knd.hash k) x).1.size = es.size + 1 := by simpa using p.length_eq
    rw [no] at q
    dsimp only
    clear p
    generalize layNew t es (knd.hash k) x = Z at L1 z ⊢
    obtain ⟨es1, t1, dm, gave⟩ := Z
    dsimp only at L1 z ⊢
    have fin : ∀ h', Heap.SameBut a s.heap h' → Stands knd h' a (fun j => S j || decide (j = k)) es1.size → Q true { s with heap := h' } := fun h' sb r => q h' sb (z ▸ r)
    apply wpAny_bind
    have calm : ∀ {s₁ : Shared} {Q₁ : Unit → Shared → Prop}, Q₁ () s₁ → ∀ b : Bool, wpAny (model P w) A (match b with | true => rule "set.scan.the-table-gave-way" | false => pure ()) Q₁ E s₁ := fun h b => by
      cases b with
      | true => exact wpAny_rule h
      | false => exact wpAny_pure h
    refine calm ?_ gave
    have step : ∀ b : Bool, _ := fun b => stow (A := A) (E := E) (s := s) (Q := fun r s₁ => wpAny (model P w) A (match r with | some added => pure added | none => setAddHashedIn a x (knd.hash k) 99999) Q E s₁)
      (fun b s₁ Q₁ h => calm h b) ho hex hd (L1.off b) (full := !dm && (if b = true then t1 else { t1 with plain := false }).tooFull) fun h' sb r => wpAny_pure (fin h' sb r)
    split
    · rw [hashByValue_scannable 8 hx]
      exact wpAny_bind (wpAny_pure (step _))
    · exact wpAny_bind (wpAny_pure (step true))
end
end
end Moot
namespace Moot
open PySem PySem.Spec PyProof.Rows L2
section
variable {P : Program} {w : World} {T : Type} [DecidableEq T] {knd : KeyKind P w T} {A : Around} {E : Value → Shared → Prop} {s : Shared}
/-- the new set, empty -/
def setNew (w : World) : Obj := { cls := .type "set", dict := none, data := .set #[] 0 (.fresh 0 0 (!w.params.followText "set-order")) }
theorem setNew_stands (h : Heap) : Stands knd (h.push (setNew w)) h.objs.size (fun _ => false) 0 := by
  refine ⟨setNew w, #[], 0, _, Heap.get?_push_size _ rfl, ⟨rfl, rfl, rfl⟩, rfl, rfl, ?_⟩
  refine ⟨fun e m => by simp at m, fun k => by simp, by simp, by decide, rfl, List.Pairwise.nil, ?_⟩
  show _ ∨ (!w.params.followText "set-order") = true
  cases w.params.followText "set-order" <;> simp
/-- set.__new__(set, x) -/
theorem new_of (x : Value) {Q : Value → Shared → Prop} (q : Q (.ref s.heap.objs.size) { s with heap := s.heap.push (setNew w) }) :
    codeAny (model P w) A (.call (.builtin "set.__new__") ⟨[.type "set", x], []⟩) (wants Q E) s := by
  apply codeAny_of_tree
  show wpAny _ A.in1 (checkBuiltinCall "set.__new__" ⟨[.type "set", x], []⟩ >>= fun _ => again (.builtin "set.__new__" ⟨[.type "set", x], []⟩)) _ _ s
  apply wpAny_bind
  apply wpAny_of_eq (PySem.F.newCall_set_1 x)
  refine wpAny_pure ⟨plainId_quiet PySem.F.plain_set_new _, codeAny_builtin PySem.F.entry_set_new ?_⟩
  rw [Around.under_plainId PySem.F.plain_set_new _]
  unfold Builtin.«set.__new__» Builtin.Frozenset.newClass
  have self := sub_set_self
  rcases s with ⟨hp, gs, dr, tk, os⟩
  dsimp only at q ⊢
  wp_walk
  apply wpAny_askSetting
  apply wpAny_pure
  show wpAny _ _ (newObj (Value.type "set") (.set #[] 0 (SetTable.fresh 0 0 !w.params.followText "set-order"))) _ _ _
  unfold newObj
  exact wpAny_bind (wpAny_alloc (wpAny_pure (wpAny_pure q)))
/-- the same set in a heap that keeps it -/
theorem Stands.kept {h h' : Heap} {a : Addr} {S : T → Bool} {n : Nat} (R : Stands knd h a S n) (k : ∀ o, h.get? a = some o → h'.get? a = some o) : Stands knd h' a S n := by
  obtain ⟨o, es, ep, t, ho, r⟩ := R
  exact ⟨o, es, ep, t, k o ho, r⟩
theorem Stands.says {h : Heap} {a : Addr} {S S' : T → Bool} {n n' : Nat} (R : Stands knd h a S n) (e : ∀ k, S k = S' k) (en : n = n') : Stands knd h a S' n' := by
  have f : S = S' := funext e
  subst f en
  exact R
section
variable {R : Result → Shared → Prop} {I : Addr} {fp wr : List Addr} {G : Array GenState → Array GenState → Prop} {n : Nat} {Pv : Nat → Value → Prop} {St : Nat → Shared → Prop}
/-- each thing that an iterator yields goes into the set -/
theorem fill (W : WalksS P w A.in1 I fp wr G n Pv St) {a : Addr} (out : a ∉ fp) {xs : List T} (len : xs.length = n) (few : n + 1 < scanBound)
    (val : ∀ i v, Pv i v → ∃ k, xs[i]? = some k ∧ knd.is k v = true ∧ v.scannable = true) :
    ∀ (left i m : Nat) (s : Shared), i + left = n → m ≤ i → St i s → Stands knd s.heap a (fun k => decide (k ∈ xs.take i)) m →
      (∀ s' m', Moved (a :: wr) G s s' → m' ≤ n → Stands knd s'.heap a (fun k => decide (k ∈ xs)) m' → R (.ok (.ret .none)) s') →
      codeAny (model P w) A (.builtin "set.update.loop" ⟨[.ref a, .ref I], []⟩) R s := by
  have outw : a ∉ wr := fun h => out (W.sub _ h)
  have wider : ∀ b ∈ wr, b ∈ a :: wr := fun b h => List.mem_cons_of_mem _ h
  intro left
  induction left with
  | zero =>
    intro i m s e hm st X r
    obtain rfl : i = n := e
    apply codeAny_builtin PyProof.Rows.F.entry_set_update_loop
    rw [Around.under_plainId PyProof.Rows.F.plain_set_update_loop _]
    show wpAny _ A.in1 (pyNext (.ref I) >>= _) _ _ s
    apply wpAny_bind
    refine W.done s _ _ st fun s' mv => wpAny_pure ?_
    refine r s' m (mv.mono wider) hm ((X.kept fun o => mv.heap a o outw).says (fun k => ?_) rfl)
    rw [List.take_of_length_le (Nat.le_of_eq len)]
  | succ left ih =>
    intro i m s e hm st X r
    have lt : i < n := by omega
    apply codeAny_builtin PyProof.Rows.F.entry_set_update_loop
    rw [Around.under_plainId PyProof.Rows.F.plain_set_update_loop _]
    show wpAny _ A.in1 (pyNext (.ref I) >>= _) _ _ s
    apply wpAny_bind
    refine W.item i s _ _ lt st fun v s' pv st' mv => ?_
    obtain ⟨k, hk, isk, sc⟩ := val i v pv
    have X' := X.kept fun o => mv.heap a o outw
    show wpAny _ A.in1 (holding [v] (setAdd a v) >>= _) _ _ s'
    apply wpAny_bind
    apply wpAny_holding
    unfold setAdd
    apply wpAny_holding
    apply wpAny_bind
    apply knd.pyHash isk
    refine add_key (s := { s' with toks := s'.toks + 1 }) X' isk sc (by omega) fun h' sb Y => ?_
    have Z : Stands knd h' a (fun k => decide (k ∈ xs.take (i + 1))) (if decide (k ∈ xs.take i) = true then m else m + 1) := Y.says (fun j => by
      rw [List.take_add_one, hk]
      simp [List.mem_append]) rfl
    have hm' : (if decide (k ∈ xs.take i) = true then m else m + 1) ≤ i + 1 := by
      split <;> omega
    refine wpAny_pure ⟨plainId_quiet PyProof.Rows.F.plain_set_update_loop _, ?_⟩
    refine ih (i + 1) _ _ (by omega) hm' (W.frame _ s' _ _ st' (Nat.le_succ _) fun b hb o e => ?_) Z fun s'' m' mv' hm'' X'' => ?_
    · rw [sb.2 b fun c => out (c ▸ hb)]
      exact e
    · refine r s'' m' (Moved.trans W.gtrans ((mv.mono wider).then_heap (Nat.le_succ _) fun b o nb e => ?_) mv') hm'' X''
      rw [sb.2 b fun c => nb (c ▸ List.mem_cons_self)]
      exact e
end
end
end Moot
namespace Moot
open PySem PySem.Spec PyProof.Rows L2
section
variable {P : Program} {w : World} {T : Type} [DecidableEq T] {knd : KeyKind P w T} {A : Around} {E : Value → Shared → Prop} {s : Shared}
/-- what set(xs) leaves -/
def Filled (knd : KeyKind P w T) (xs : List T) (s s' : Shared) : Prop :=
  ∃ (h' : Heap) (tk m : Nat), s' = { s with heap := h', toks := tk } ∧ m ≤ xs.length ∧ Stands knd h' s.heap.objs.size (fun k => decide (k ∈ xs)) m ∧ ∀ b o, s.heap.get? b = some o → h'.get? b = some o
/-- set.__init__ of the new set, over a list -/
theorem init_list {l : Addr} {vs : List Value} {xs : List T} (calm : A.handled = none) (hl : s.heap.IsList l vs.toArray) (len : xs.length = vs.length) (few : vs.length + 1 < scanBound)
    (val : ∀ (i : Nat) v, vs[i]? = some v → ∃ k, xs[i]? = some k ∧ knd.is k v = true ∧ v.scannable = true) :
    codeAny (model P w) A (.call (.builtin "set.__init__") ⟨[.ref s.heap.objs.size, .ref l], []⟩) (wants (fun r s' => r = .none ∧ Filled knd xs s s') E) { s with heap := s.heap.push (setNew w) } := by
  have at0 : (s.heap.push (setNew w)).get? s.heap.objs.size = some (setNew w) := Heap.get?_push_size _ rfl
  have ty : Shared.TypeIs { s with heap := s.heap.push (setNew w) } (.ref s.heap.objs.size) "set" := ⟨_, at0, rfl⟩
  refine codeAny_call_builtin PySem.F.called_set.init.plain PySem.F.entry_set_init (check_set_init_1 ty ?_)
  have hl1 : (s.heap.push (setNew w)).IsList l vs.toArray := hl.push _
  have hlo := hl1
  obtain ⟨⟨oc, od, oda, osl⟩, ol, hc, nl, hda⟩ := hlo
  dsimp only at hc hda
  subst hc hda
  have n1 := PySem.F.sub_list_set
  have n2 := PySem.F.sub_list_frozenset
  have n3 : (Value.type "list" == Value.type "dict") = false := by decide
  unfold Builtin.«set.__init__» noKeywords Builtin.Frozenset.updateFrom
  generalize it : pyIter = iter
  wp_walk
  subst it
  apply wpAny_pyIter_list hl1
  apply wpAny_bind
  apply wpAny_runValue
  have size1 : (s.heap.push (setNew w)).objs.size = s.heap.objs.size + 1 := size_push' _ _
  have low : l < s.heap.objs.size := by
    obtain ⟨o, ho, _⟩ := hl
    exact Heap.lt_size ho
  have calm2 : A.in1.in1.handled = none := calm
  have ne : l ≠ (s.heap.push (setNew w)).objs.size := by
    rw [size1]
    exact Nat.ne_of_lt (Nat.lt_succ_of_lt low)
  have out : s.heap.objs.size ∉ [(s.heap.push (setNew w)).objs.size, l] := by
    rw [size1]
    intro m
    rcases List.mem_cons.mp m with c | c
    · exact Nat.ne_of_lt (Nat.lt_succ_self _) c
    · exact Nat.ne_of_gt low (List.mem_singleton.mp c)
  have walk := (Walks.list (prog := P) (w := w) calm2 _ l ne vs.toArray).toS
  refine fill (knd := knd) (xs := xs) walk out (by rw [len]; simp) (by simpa using few) (fun i v h => ?_) vs.toArray.size 0 0 _ (by simp) (Nat.le_refl _) ?_ ?_ fun s' m mv hm X => ?_
  · exact val i v (by simpa using h)
  · exact ⟨⟨_, Heap.get?_push_size _ rfl, rfl, rfl⟩, hl1.push _⟩
  · exact ((setNew_stands s.heap).kept fun o => Heap.get?_push_of_some _).says (fun k => by simp) rfl
  · apply wpAny_pure
    refine wpAny_pure ⟨rfl, s'.heap, s'.toks, m, ?_, by rw [len]; simpa using hm, X, fun b o e => ?_⟩
    · rcases s' with ⟨h', g', d', t', o'⟩
      obtain rfl : g' = s.gens := mv.gens
      obtain rfl : d' = s.drawn := mv.drawn
      obtain rfl : o' = s.os := mv.os
      rfl
    · have lt := Heap.lt_size e
      refine mv.heap b o (fun c => ?_) (Heap.get?_push_of_some _ (Heap.get?_push_of_some _ e))
      rcases List.mem_cons.mp c with c | c
      · exact Nat.ne_of_lt lt c
      · refine Nat.ne_of_lt (Nat.lt_succ_of_lt lt) (Eq.trans (List.mem_singleton.mp c) size1)
/-- set(xs) of a list -/
theorem set_list {l : Addr} {vs : List Value} {xs : List T} (calm : A.handled = none) (hl : s.heap.IsList l vs.toArray) (len : xs.length = vs.length) (few : vs.length + 1 < scanBound)
    (val : ∀ (i : Nat) v, vs[i]? = some v → ∃ k, xs[i]? = some k ∧ knd.is k v = true ∧ v.scannable = true) {Q : Value → Shared → Prop} (q : ∀ s', Filled knd xs s s' → Q (.ref s.heap.objs.size) s') :
    wpAny (model P w) A (call (.type "set") [.ref l]) Q E s := by
  obtain ⟨c, tl, mro⟩ := PySem.F.called_set.mro
  have made := PySem.F.called_set.made
  have sub := PySem.F.called_set.sub
  have f1 := PySem.F.called_set.notType
  have f2 := PySem.F.called_set.canCreate
  have f3 := PySem.F.typeCall_set_1 (.ref l)
  apply wpAny_call
  apply codeAny_of_tree
  show wpAny _ _ (callAny (.type "set") _) _ _ _
  refine wpAny_pure ⟨Code.quiet_builtin _ (by decide +kernel), ?_⟩
  apply codeAny_builtin PySem.F.entry_type_call
  rw [Around.under_plain (weight_type_call_type "set" [.ref l] []) rfl]
  repeat (any_goals (first | assumption | wp_step))
  refine codeAny_mono (new_of (.ref l) (E := E) (Q := fun x s₁ => x = .ref s.heap.objs.size ∧ s₁ = { s with heap := s.heap.push (setNew w) }) ⟨rfl, rfl⟩) ?_
  rintro (e | f) s₁ h
  · exact h
  · cases f with
    | ret x =>
      obtain ⟨rfl, rfl⟩ := h
      have ty : Shared.TypeIs { s with heap := s.heap.push (setNew w) } (.ref s.heap.objs.size) "set" := ⟨_, Heap.get?_push_size _ rfl, rfl⟩
      have g1 := PySem.F.called_set.init.lookup
      have g2 := PySem.F.called_set.init.bind (.ref s.heap.objs.size)
      repeat (any_goals (first | assumption | wp_step))
      refine codeAny_mono (init_list (A := A.in1) (E := E) (knd := knd) calm hl len few val) ?_
      rintro (e | f) s₂ h
      · exact h
      · cases f with
        | ret r =>
          obtain ⟨rfl, F⟩ := h
          exact wpAny_pure (wpAny_pure (q s₂ F))
        | _ => exact h.elim
    | _ => exact h.elim
end
end Moot
namespace Moot
open PySem PySem.Spec PyProof.Rows L2
section
variable {P : Program} {w : World} {A : Around} {E : Value → Shared → Prop} {s : Shared}
/-- the text of an entry -/
def txt (v : Value) : Str := match v with | .str x _ => x | _ => Str.empty
theorem txts_are : ∀ {vs : List Value}, (∀ v ∈ vs, ∃ x t, v = Value.str x t) → StrsAre vs (vs.map txt)
  | [], _ => .nil
  | v :: vs, h => by
    obtain ⟨x, t, rfl⟩ := h v List.mem_cons_self
    exact .cons x t (txts_are fun u m => h u (List.mem_cons_of_mem _ m))
theorem entry_txt {e : Int × Value} (h : ∃ k, (PySem.strKind P w).is k e.2 = true) : (∃ x t, e.2 = Value.str x t) ∧ (PySem.strKind P w).is (txt e.2) e.2 = true := by
  obtain ⟨k, i⟩ := h
  obtain ⟨t, q⟩ := Value.isStrOf_shape (x := k) i
  refine ⟨⟨k, t, q⟩, ?_⟩
  rw [q]
  exact strKind_is P w k t
/-- the texts of a set's entries -/
theorem Laid.txts {S : Str → Bool} {es : Array (Int × Value)} {t : SetTable} (L : Laid (PySem.strKind P w) S es t) :
    (∀ v ∈ es.toList.map (·.2), ∃ x t, v = Value.str x t) ∧ (es.toList.map fun e => txt e.2).Nodup ∧ ∀ k, k ∈ (es.toList.map fun e => txt e.2) ↔ S k = true := by
  have ok : ∀ e ∈ es.toList, (∃ x t, e.2 = Value.str x t) ∧ (PySem.strKind P w).is (txt e.2) e.2 = true := fun e m => by
    obtain ⟨⟨k, i, _⟩, _⟩ := L.el e m
    exact entry_txt ⟨k, i⟩
  refine ⟨fun v m => ?_, ?_, fun k => ?_⟩
  · obtain ⟨e, me, rfl⟩ := List.mem_map.mp m
    exact (ok e me).1
  · refine List.pairwise_map.mpr (List.Pairwise.imp_of_mem (fun {e f} me mf h c => ?_) L.one)
    refine h _ (ok e me).2 ?_
    rw [c]
    exact (ok f mf).2
  · rw [L.mem k, List.mem_map]
    constructor
    · rintro ⟨e, m, rfl⟩
      exact ⟨e, m, (ok e m).2⟩
    · rintro ⟨e, m, i⟩
      exact ⟨e, m, (PySem.strKind P w).inj e.2 _ _ (ok e m).2 i⟩
/-- sorted(a set of texts) -/
theorem sorted_txts {a : Addr} {S : Str → Bool} {n : Nat} {Q : Value → Shared → Prop} (R : Stands (PySem.strKind P w) s.heap a S n) (calm : A.handled = none) (few : n < 64)
    (q : ∀ s' p (out : Array Value) (c : Nat) (ys : List Str), (∀ b o, s.heap.get? b = some o → s'.heap.get? b = some o) → s'.gens = s.gens → s'.os = s.os → s.heap.objs.size ≤ p →
      s'.heap.get? p = some (seqObj "list" out c) → StrsAre out.toList ys → sortedS ys = true → ys.Nodup → (∀ k, k ∈ ys ↔ S k = true) → ys.length = n → Q (.ref p) s') :
    wpAny (model P w) A (call (.builtin "sorted") [.ref a]) Q E s := by
  obtain ⟨o, es, ep, t, ho, hex, hd, rfl, L⟩ := R
  obtain ⟨x1, x2, x3⟩ := L.txts
  apply Calls.call_function_entry kind_sorted plain_sorted entry_sorted (args_sorted1 _)
  unfold Builtin.«sorted»
  apply wpAny_bind (m := checkCount "sorted" 1 1 _)
  apply wpAny_pure
  apply wpAny_bind
  refine collect_set (A := A.in1) calm ⟨o, ho, hex.1, hd⟩ L.fit L.few L.ris L.led fun s1 vs kept grown same1 same2 pm => ?_
  have len : vs.length = es.size := by simpa using pm.length_eq
  have are : StrsAre vs (vs.map txt) := txts_are fun v m => x1 v (pm.mem_iff.mp m)
  have perm : (vs.map txt).Perm (es.toList.map fun e => txt e.2) := by
    have z := pm.map txt
    rwa [List.map_map] at z
  apply wpAny_bind
  refine wpAny_newList ?_ (by rw [len, sizeLine_eq]; omega)
  have here : (s1.heap.push (seqObj "list" vs.toArray 0)).get? s1.heap.objs.size = some (seqObj "list" vs.toArray 0) := Heap.get?_push_size _ rfl
  apply wpAny_bind
  apply wpAny_holding
  refine wpAny_call_entry slot_list_sort ⟨_, here, rfl⟩ entry_list_sort ?_ (args_list_sort _)
  refine list_sort_treeK strKind_oneLt here are.keysOf (fun v₁ v₂ rest e => keyKind_strs (by rw [← e]; exact are)) (by rw [len]; exact few) fun st a1 a2 => ⟨_, rfl, ?_⟩
  obtain ⟨ys, y1, y2, y3⟩ := sorted_out_str are a1 a2
  obtain ⟨c, at'⟩ := sortedHeap_at (vs := vs) (out := (arrOf st).map (·.2)) here
  have all := y2.trans perm
  refine wpAny_pure ⟨_, rfl, q _ s1.heap.objs.size _ c ys (fun b u e => ?_) same1 same2 grown at' y1 y3 (all.nodup_iff.mpr x2) (fun k => all.mem_iff.trans (x3 k)) ?_⟩
  · have z := kept b u e
    have lt := Heap.lt_size z
    show (sortedHeap (s1.heap.push (seqObj "list" vs.toArray 0)) s1.heap.objs.size vs _).get? b = some u
    rw [sortedHeap_old (Nat.ne_of_lt lt) (by rw [size_push']; exact Nat.lt_succ_of_lt lt)]
    exact Heap.get?_push_of_some _ z
  · simpa using all.length_eq
end
/-- the set of texts at a, as a thing of the abstract heap -/
def TxtSet (P : Program) (w : World) (a : Addr) (S : Str → Bool) (n : Nat) : HO := .ext fun h => Stands (PySem.strKind P w) h a S n
theorem txtSet_ok {P : Program} {w : World} {H : Hp} {h : Heap} {a : Addr} {S : Str → Bool} {n : Nat} (R : Stands (PySem.strKind P w) h a S n) : ObjOk P w H h a (TxtSet P w a S n) := by
  obtain ⟨o, _, _, _, ho, _⟩ := id R
  exact ⟨R, ⟨o, ho⟩, fun h1 h2 r k => r.kept k⟩
/-- set(zs), zs a list of fewer than 64 texts -/
def rTxtSet (K : PySem.W.Frag) (P : Program) (w : World) : List V → Hp → VK → Prop := fun vs H Q =>
  ∃ (l : Addr) (zs : List Str), vs = [V.ref l] ∧ SqL K H l (zs.map V.str) ∧ zs.length < 64 ∧ ∀ p m, H p = none → m ≤ zs.length → Q (.ref p) (upd H p (TxtSet P w p (fun k => decide (k ∈ zs)) m))
/-- sorted(S), S such a set -/
def rTxtSorted (P : Program) (w : World) : List V → Hp → VK → Prop := fun vs H Q =>
  ∃ (a : Addr) (S : Str → Bool) (n : Nat), vs = [V.ref a] ∧ H a = some (TxtSet P w a S n) ∧ n < 64 ∧
    ∀ (ys : List Str) (p : Addr), sortedS ys = true → ys.Nodup → (∀ k, k ∈ ys ↔ S k = true) → ys.length = n → H p = none → Q (.ref p) (upd H p (.lst (ys.map V.str)))
section
variable {X : Cx}
theorem cr_txtSet (calm : X.calm = true) : CallR X (.type "set") (rTxtSet X.K X.prog X.w) := by
  intro pins s σ H vs us Q I r h
  obtain ⟨l, zs, rfl, hl, few, q⟩ := h
  rw [Vals.ref1 r]
  obtain ⟨its, rel, pl, _⟩ := I.list hl
  have len : zs.length = its.length := by
    have z := rel.length
    rwa [List.length_map] at z
  refine set_list (knd := PySem.strKind X.prog X.w) (xs := zs) (I.ok.hd calm) pl.isList len (by unfold scanBound; omega) (fun i v e => ?_) fun s' F => ?_
  · have lt : i < zs.length := by
      rw [len]
      exact (List.getElem?_eq_some_iff.mp e).1
    obtain ⟨u, hu, t, rfl⟩ := rel.get (i := i) (x := .str zs[i]) (by simp [lt])
    cases Option.some.inj (e.symm.trans hu)
    exact ⟨zs[i], List.getElem?_eq_getElem lt, strKind_is _ _ _ _, rfl⟩
  · obtain ⟨h', tk, m, rfl, hm, R, kept⟩ := F
    exact ⟨.ref _, _, I.laid (t' := tk) kept (Nat.le_refl _) (txtSet_ok R), rfl, q _ m (I.hok.fresh (Nat.le_refl _)) hm⟩
theorem cr_txtSorted (calm : X.calm = true) : CallR X (.builtin "sorted") (rTxtSorted X.prog X.w) := by
  intro pins s σ H vs us Q I r h
  obtain ⟨a, S, n, rfl, ha, few, q⟩ := h
  have R : Stands (PySem.strKind X.prog X.w) s.heap a S n := (I.hok a _ ha).1
  rw [Vals.ref1 r]
  refine sorted_txts R (I.ok.hd calm) few fun s' p out c ys kept e1 e2 hp here are srt nd mem len => ?_
  have fits : (ys.map V.str).length ≤ sizeLine := by
    rw [List.length_map, len]
    exact small64 few
  have free : H p = none := I.hok.fresh hp
  have J : Inv X pins σ (upd H p (.lst (ys.map V.str))) { s with heap := s'.heap, gens := s'.gens, drawn := s'.drawn, toks := s'.toks } :=
    I.call (ch := []) (Un.laid kept hp free) (I.hok.laid kept hp ⟨fits, out.toList, c, vals_of_strs are, here⟩) (by rw [e1]; exact I.bare) fun _ z => nomatch z
  have same : s' = { s with heap := s'.heap, gens := s'.gens, drawn := s'.drawn, toks := s'.toks } := by
    rcases s' with ⟨h', g', d', t', o'⟩
    cases e2
    rfl
  rw [same]
  exact ⟨.ref p, _, J, rfl, q ys p srt nd mem len free⟩
end
end Moot
namespace Moot
open PySem PySem.Spec PyProof.Rows L2
section
variable {P : Program} {w : World} {T : Type} [DecidableEq T] {knd : KeyKind P w T} {A : Around} {E : Value → Shared → Prop} {s : Shared}
/-- set.__init__ of the new set, over a tuple -/
theorem init_tuple {l : Addr} {vs : List Value} {xs : List T} (calm : A.handled = none) (hl : s.heap.IsTuple l vs.toArray) (len : xs.length = vs.length) (few : vs.length + 1 < scanBound)
    (val : ∀ (i : Nat) v, vs[i]? = some v → ∃ k, xs[i]? = some k ∧ knd.is k v = true ∧ v.scannable = true) :
    codeAny (model P w) A (.call (.builtin "set.__init__") ⟨[.ref s.heap.objs.size, .ref l], []⟩) (wants (fun r s' => r = .none ∧ Filled knd xs s s') E) { s with heap := s.heap.push (setNew w) } := by
  have at0 : (s.heap.push (setNew w)).get? s.heap.objs.size = some (setNew w) := Heap.get?_push_size _ rfl
  have ty : Shared.TypeIs { s with heap := s.heap.push (setNew w) } (.ref s.heap.objs.size) "set" := ⟨_, at0, rfl⟩
  refine codeAny_call_builtin PySem.F.called_set.init.plain PySem.F.entry_set_init (check_set_init_1 ty ?_)
  have hl1 : (s.heap.push (setNew w)).IsTuple l vs.toArray := hl.push _
  have hlo := hl1
  obtain ⟨⟨oc, od, oda, osl⟩, ol, hc, nl, hda⟩ := hlo
  dsimp only at hc hda
  subst hc hda
  have n1 := PySem.F.sub_tuple_set
  have n2 := PySem.F.sub_tuple_frozenset
  have n3 : (Value.type "tuple" == Value.type "dict") = false := by decide
  unfold Builtin.«set.__init__» noKeywords Builtin.Frozenset.updateFrom
  generalize it : pyIter = iter
  wp_walk
  subst it
  apply wpAny_pyIter_tuple hl1
  apply wpAny_bind
  apply wpAny_runValue
  have size1 : (s.heap.push (setNew w)).objs.size = s.heap.objs.size + 1 := size_push' _ _
  have low : l < s.heap.objs.size := by
    obtain ⟨o, ho, _⟩ := hl
    exact Heap.lt_size ho
  have calm2 : A.in1.in1.handled = none := calm
  have ne : l ≠ (s.heap.push (setNew w)).objs.size := by
    rw [size1]
    exact Nat.ne_of_lt (Nat.lt_succ_of_lt low)
  have out : s.heap.objs.size ∉ [(s.heap.push (setNew w)).objs.size, l] := by
    rw [size1]
    intro m
    rcases List.mem_cons.mp m with c | c
    · exact Nat.ne_of_lt (Nat.lt_succ_self _) c
    · exact Nat.ne_of_gt low (List.mem_singleton.mp c)
  have walk := (Walks.tuple (prog := P) (w := w) calm2 _ l ne vs.toArray).toS
  refine fill (knd := knd) (xs := xs) walk out (by rw [len]; simp) (by simpa using few) (fun i v h => ?_) vs.toArray.size 0 0 _ (by simp) (Nat.le_refl _) ?_ ?_ fun s' m mv hm X => ?_
  · exact val i v (by simpa using h)
  · exact ⟨⟨_, Heap.get?_push_size _ rfl, rfl, rfl⟩, hl1.push _⟩
  · exact ((setNew_stands s.heap).kept fun o => Heap.get?_push_of_some _).says (fun k => by simp) rfl
  · apply wpAny_pure
    refine wpAny_pure ⟨rfl, s'.heap, s'.toks, m, ?_, by rw [len]; simpa using hm, X, fun b o e => ?_⟩
    · rcases s' with ⟨h', g', d', t', o'⟩
      obtain rfl : g' = s.gens := mv.gens
      obtain rfl : d' = s.drawn := mv.drawn
      obtain rfl : o' = s.os := mv.os
      rfl
    · have lt := Heap.lt_size e
      refine mv.heap b o (fun c => ?_) (Heap.get?_push_of_some _ (Heap.get?_push_of_some _ e))
      rcases List.mem_cons.mp c with c | c
      · exact Nat.ne_of_lt lt c
      · refine Nat.ne_of_lt (Nat.lt_succ_of_lt lt) (Eq.trans (List.mem_singleton.mp c) size1)
/-- set(xs) of a tuple -/
theorem set_tuple {l : Addr} {vs : List Value} {xs : List T} (calm : A.handled = none) (hl : s.heap.IsTuple l vs.toArray) (len : xs.length = vs.length) (few : vs.length + 1 < scanBound)
    (val : ∀ (i : Nat) v, vs[i]? = some v → ∃ k, xs[i]? = some k ∧ knd.is k v = true ∧ v.scannable = true) {Q : Value → Shared → Prop} (q : ∀ s', Filled knd xs s s' → Q (.ref s.heap.objs.size) s') :
    wpAny (model P w) A (call (.type "set") [.ref l]) Q E s := by
  obtain ⟨c, tl, mro⟩ := PySem.F.called_set.mro
  have made := PySem.F.called_set.made
  have sub := PySem.F.called_set.sub
  have f1 := PySem.F.called_set.notType
  have f2 := PySem.F.called_set.canCreate
  have f3 := PySem.F.typeCall_set_1 (.ref l)
  apply wpAny_call
  apply codeAny_of_tree
  show wpAny _ _ (callAny (.type "set") _) _ _ _
  refine wpAny_pure ⟨Code.quiet_builtin _ (by decide +kernel), ?_⟩
  apply codeAny_builtin PySem.F.entry_type_call
  rw [Around.under_plain (weight_type_call_type "set" [.ref l] []) rfl]
  repeat (any_goals (first | assumption | wp_step))
  refine codeAny_mono (new_of (.ref l) (E := E) (Q := fun x s₁ => x = .ref s.heap.objs.size ∧ s₁ = { s with heap := s.heap.push (setNew w) }) ⟨rfl, rfl⟩) ?_
  rintro (e | f) s₁ h
  · exact h
  · cases f with
    | ret x =>
      obtain ⟨rfl, rfl⟩ := h
      have ty : Shared.TypeIs { s with heap := s.heap.push (setNew w) } (.ref s.heap.objs.size) "set" := ⟨_, Heap.get?_push_size _ rfl, rfl⟩
      have g1 := PySem.F.called_set.init.lookup
      have g2 := PySem.F.called_set.init.bind (.ref s.heap.objs.size)
      repeat (any_goals (first | assumption | wp_step))
      refine codeAny_mono (init_tuple (A := A.in1) (E := E) (knd := knd) calm hl len few val) ?_
      rintro (e | f) s₂ h
      · exact h
      · cases f with
        | ret r =>
          obtain ⟨rfl, F⟩ := h
          exact wpAny_pure (wpAny_pure (q s₂ F))
        | _ => exact h.elim
    | _ => exact h.elim
end
/-- a set holds as many as there are -/
theorem Stands.least {P : Program} {w : World} {T : Type} [DecidableEq T] {knd : KeyKind P w T} {h : Heap} {a : Addr} {S : T → Bool} {n : Nat} (R : Stands knd h a S n) {xs : List T} (nd : xs.Nodup) (all : ∀ k ∈ xs, S k = true) : xs.length ≤ n := by
  obtain ⟨o, es, ep, t, _, _, _, rfl, L⟩ := R
  have pig : ∀ (l : List T) (D : List (Int × Value)), l.Nodup → (∀ k ∈ l, ∃ e ∈ D, knd.is k e.2 = true) → l.length ≤ D.length := by
    intro l
    induction l with
    | nil => intros; exact Nat.zero_le _
    | cons k l ih =>
      intro D nd hD
      obtain ⟨n1, n2⟩ := List.nodup_cons.mp nd
      obtain ⟨e, me, ie⟩ := hD k List.mem_cons_self
      obtain ⟨D1, D2, rfl⟩ := List.append_of_mem me
      have := ih (D1 ++ D2) n2 fun k' mk' => by
        obtain ⟨e', me', ie'⟩ := hD k' (List.mem_cons_of_mem _ mk')
        rcases List.mem_append.mp me' with z | z
        · exact ⟨e', List.mem_append_left _ z, ie'⟩
        · rcases List.mem_cons.mp z with rfl | z
          · exact absurd (knd.inj _ _ _ ie' ie ▸ mk') n1
          · exact ⟨e', List.mem_append_right _ z, ie'⟩
      rw [List.length_append] at this
      rw [List.length_cons, List.length_append, List.length_cons]
      omega
  have := pig xs es.toList nd fun k mk => (L.mem k).mp (all k mk)
  simpa using this
/-- set(zs), zs a list or a tuple of fewer than 64 texts -/
def rTxtSetA (K : PySem.W.Frag) (P : Program) (w : World) : List V → Hp → VK → Prop := fun vs H Q =>
  ∃ (l : Addr) (zs : List Str), vs = [V.ref l] ∧ (SqL K H l (zs.map V.str) ∨ SqT K H l (zs.map V.str)) ∧ zs.length < 64 ∧ ∀ p m, H p = none → m ≤ zs.length → Q (.ref p) (upd H p (TxtSet P w p (fun k => decide (k ∈ zs)) m))
/-- len(S), S such a set -/
def rTxtLen (P : Program) (w : World) : List V → Hp → VK → Prop := fun vs H Q =>
  ∃ (a : Addr) (S : Str → Bool) (n : Nat), vs = [V.ref a] ∧ H a = some (TxtSet P w a S n) ∧ n < 1000 ∧ ((∀ xs : List Str, xs.Nodup → (∀ k ∈ xs, S k = true) → xs.length ≤ n) → Q (.int (n : Int)) H)
section
variable {X : Cx}
theorem cr_txtSetA (calm : X.calm = true) : CallR X (.type "set") (rTxtSetA X.K X.prog X.w) := by
  intro pins s σ H vs us Q I r h
  obtain ⟨l, zs, rfl, hl, few, q⟩ := h
  rcases hl with hl | hl
  · exact cr_txtSet calm pins s σ H _ us Q I r ⟨l, zs, rfl, hl, few, q⟩
  · rw [Vals.ref1 r]
    obtain ⟨its, rel, pl, _⟩ := I.tuple hl
    have len : zs.length = its.length := by
      have z := rel.length
      rwa [List.length_map] at z
    refine set_tuple (knd := PySem.strKind X.prog X.w) (xs := zs) (I.ok.hd calm) pl len (by unfold scanBound; omega) (fun i v e => ?_) fun s' F => ?_
    · have lt : i < zs.length := by
        rw [len]
        exact (List.getElem?_eq_some_iff.mp e).1
      obtain ⟨u, hu, t, rfl⟩ := rel.get (i := i) (x := .str zs[i]) (by simp [lt])
      cases Option.some.inj (e.symm.trans hu)
      exact ⟨zs[i], List.getElem?_eq_getElem lt, strKind_is _ _ _ _, rfl⟩
    · obtain ⟨h', tk, m, rfl, hm, R, kept⟩ := F
      exact ⟨.ref _, _, I.laid (t' := tk) kept (Nat.le_refl _) (txtSet_ok R), rfl, q _ m (I.hok.fresh (Nat.le_refl _)) hm⟩
theorem cr_txtLen : CallR X (.builtin "len") (rTxtLen X.prog X.w) := by
  intro pins s σ H vs us Q I r h
  obtain ⟨a, S, n, rfl, ha, few, q⟩ := h
  have R : Stands (PySem.strKind X.prog X.w) s.heap a S n := (I.hok a _ ha).1
  have le := fun xs nd all => R.least (xs := xs) nd all
  rw [Vals.ref1 r]
  obtain ⟨o, es, ep, t, ho, hex, hd, rfl, L⟩ := R
  exact call_len_set ho hex hd L.fit (by omega) ⟨.int _, H, I.tok _, ⟨_, rfl⟩, q le⟩
end
end Moot
/-! Sets whose members are texts and tuples mixed. -/
namespace Moot
open PySem PySem.Spec PyProof.Rows L2
/-- what a member is: a text with a token, or a tuple -/
def KIs (h : Heap) (k : NestedKey) (v : Value) : Prop := NestedIs h k v ∧ k.depth ≤ 7 ∧ ((∃ x t, v = .str x t ∧ t ≠ 0) ∨ ∃ b, v = .ref b)
section
variable {P : Program} {w : World} {A : Around} {E : Value → Shared → Prop} {s : Shared}
theorem same_self {h : Heap} {k : NestedKey} {v : Value} (m : KIs h k v) {Q : Bool → Shared → Prop} (q : Q true s) : wpAny (model P w) A (isSame v v) Q E s := by
  rcases m.2.2 with ⟨x, t, rfl, ht⟩ | ⟨b, rfl⟩
  · show wpAny _ _ (isSame.created (x == x) t t) _ _ _
    unfold isSame.created
    have e : (t == 0 || t == 0) = false := by simpa using ht
    rw [e]
    simp only [Bool.false_eq_true, if_false, beq_self_eq_true, if_true]
    exact wpAny_pure q
  · exact wpAny_isSame_ref_self q
/-- of no class statement -/
def NoCls (P : Program) (w : World) (n : Nat) (s : Shared) (v : Value) : Prop := ∀ (A : Around) (E : Value → Shared → Prop) (Q : Bool → Shared → Prop), Q false s → wpAny (model P w) A (ofAClassStatement n v) Q E s
/-- whether its hash is by value: some answer -/
def HashBy (P : Program) (w : World) (n : Nat) (s : Shared) (v : Value) : Prop := ∀ (A : Around) (E : Value → Shared → Prop) (Q : Bool → Shared → Prop), (∀ b, Q b s) → wpAny (model P w) A (hashByValue n v) Q E s
theorem noCls_tup {n : Nat} {a : Addr} {o : Obj} {vs : Array Value} {m : Nat} (ho : s.heap.get? a = some o) (hc : o.cls = .type "tuple") (hd : o.data = .seq vs m) (all : ∀ v ∈ vs.toList, NoCls P w n s v) : NoCls P w (n + 1) s (.ref a) := by
  intro A E Q h
  have hT : s.TypeIs (.ref a) "tuple" := ⟨o, ho, hc⟩
  unfold ofAClassStatement
  refine wpAny_bind (wpAny_typeOf hT ?_)
  have e : (("tuple" : String) == "tuple") = true := by decide
  simp only [e, if_true, Bool.not_true, Bool.false_eq_true, if_false]
  try refine wpAny_bind (wpAny_pure ?_)
  try simp only [Bool.not_true, Bool.false_eq_true, if_false]
  refine wpAny_bind (wpAny_seqItems ho hd ?_)
  dsimp only
  refine wpAny_bind ?_
  rw [← Array.forIn_toList]
  refine wpAny_forIn_list _ (fun rest r s' => r.1 = none ∧ s' = s ∧ ∀ v ∈ rest, NoCls P w n s v) _ ?_ ?_ _ _ ⟨rfl, rfl, all⟩
  · rintro v rest r s' ⟨_, rfl, hall⟩
    refine wpAny_bind (hall v List.mem_cons_self _ _ _ ?_)
    simp only [Bool.false_eq_true, if_false]
    exact wpAny_pure ⟨rfl, rfl, fun u hu => hall u (List.mem_cons_of_mem _ hu)⟩
  · rintro ⟨r1, r2⟩ s' ⟨hr, rfl, _⟩
    simp only at hr
    subst hr
    exact wpAny_pure h
theorem hashBy_tupN {n : Nat} {a : Addr} {o : Obj} {vs : Array Value} {m : Nat} (ho : s.heap.get? a = some o) (hc : o.cls = .type "tuple") (hd : o.data = .seq vs m) (all : ∀ v ∈ vs.toList, HashBy P w n s v) : HashBy P w (n + 1) s (.ref a) := by
  intro A E Q h
  have hT : s.TypeIs (.ref a) "tuple" := ⟨o, ho, hc⟩
  unfold hashByValue
  refine wpAny_bind (wpAny_specialOf hT F.slot_tuple_hash.lookup ?_)
  show wpAny _ _ (seqItems? (.ref a) >>= _) _ _ s
  refine wpAny_bind (wpAny_seqItems ho hd ?_)
  refine wpAny_bind ?_
  show wpAny _ _ (forIn vs _ _) _ _ s
  rw [← Array.forIn_toList]
  refine wpAny_forIn_list _ (fun rest r s' => s' = s ∧ ∀ v ∈ rest, HashBy P w n s v) _ ?_ ?_ _ _ ⟨rfl, all⟩
  · rintro v rest r s' ⟨rfl, hall⟩
    refine wpAny_bind (hall v List.mem_cons_self _ _ _ fun b => ?_)
    cases b
    · simp only [Bool.not_false, if_true]
      exact wpAny_pure (wpAny_pure (h _))
    · simp only [Bool.not_true, Bool.false_eq_true, if_false]
      exact wpAny_pure ⟨rfl, fun u hu => hall u (List.mem_cons_of_mem _ hu)⟩
  · rintro ⟨r1, r2⟩ s' ⟨rfl, _⟩
    cases r1 with
    | none => exact wpAny_pure (h _)
    | some b => exact wpAny_pure (h _)
mutual
theorem noCls_key : ∀ (k : NestedKey) (v : Value) (n : Nat) (s : Shared), NestedIs s.heap k v → k.depth ≤ n → NoCls P w n s v
  | .none, _, n, s, x, _ => by cases x; intro A E Q h; cases n <;> exact wpAny_pure h
  | .num i, _, n, s, x, _ => by cases x <;> (intro A E Q h; cases n <;> exact wpAny_pure h)
  | .text y, _, n, s, x, _ => by cases x; intro A E Q h; cases n <;> exact wpAny_pure h
  | .tup ks, _, n, s, x, hn => by
    cases x with
    | tup hg hc hd hk =>
      simp only [NestedKey.depth] at hn
      cases n with
      | zero => omega
      | succ n => exact noCls_tup hg hc hd (noCls_keys ks _ n s hk (by omega))
theorem noCls_keys : ∀ (ks : List NestedKey) (vs : List Value) (n : Nat) (s : Shared), NestedAll s.heap ks vs → NestedKey.depthAll ks ≤ n → ∀ v ∈ vs, NoCls P w n s v
  | [], _, n, s, x, _, v, hv => by cases x; cases hv
  | k :: ks, _, n, s, x, hn, v, hv => by
    cases x with
    | cons x1 x2 =>
      simp only [NestedKey.depthAll] at hn
      rcases List.mem_cons.mp hv with e | hv
      · rw [e]; exact noCls_key k _ n s x1 (by omega)
      · exact noCls_keys ks _ n s x2 (by omega) v hv
end
mutual
theorem hashBy_key : ∀ (k : NestedKey) (v : Value) (n : Nat) (s : Shared), NestedIs s.heap k v → k.depth ≤ n → HashBy P w n s v
  | .none, _, n, s, x, _ => by cases x; intro A E Q h; cases n <;> exact wpAny_pure (h _)
  | .num i, _, n, s, x, _ => by cases x <;> (intro A E Q h; cases n <;> exact wpAny_pure (h _))
  | .text y, _, n, s, x, _ => by cases x; intro A E Q h; cases n <;> exact wpAny_pure (h _)
  | .tup ks, _, n, s, x, hn => by
    cases x with
    | tup hg hc hd hk =>
      simp only [NestedKey.depth] at hn
      cases n with
      | zero => omega
      | succ n => exact hashBy_tupN hg hc hd (hashBy_keys ks _ n s hk (by omega))
theorem hashBy_keys : ∀ (ks : List NestedKey) (vs : List Value) (n : Nat) (s : Shared), NestedAll s.heap ks vs → NestedKey.depthAll ks ≤ n → ∀ v ∈ vs, HashBy P w n s v
  | [], _, n, s, x, _, v, hv => by cases x; cases hv
  | k :: ks, _, n, s, x, hn, v, hv => by
    cases x with
    | cons x1 x2 =>
      simp only [NestedKey.depthAll] at hn
      rcases List.mem_cons.mp hv with e | hv
      · rw [e]; exact hashBy_key k _ n s x1 (by omega)
      · exact hashBy_keys ks _ n s x2 (by omega) v hv
end
/-- a search among them shows nothing -/
theorem seen_key {k : NestedKey} {v : Value} (hk : KIs s.heap k v) {ys : List Value} (hy : ∀ y ∈ ys, ∃ k', KIs s.heap k' y) {Q : Bool → Shared → Prop} (h : Q false s) : wpAny (model P w) A (searchCouldBeSeen v ys) Q E s := by
  unfold searchCouldBeSeen
  refine wpAny_bind ?_
  refine wpAny_forIn_list _ (fun rest r s' => r.1 = none ∧ s' = s ∧ ∀ y ∈ rest, ∃ k', KIs s.heap k' y) _ ?_ ?_ _ _ ⟨rfl, rfl, hy⟩
  · rintro y rest r s' ⟨_, rfl, hall⟩
    obtain ⟨k', hc⟩ := hall y List.mem_cons_self
    have rest' : ∀ y ∈ rest, ∃ k', KIs s'.heap k' y := fun u hu => hall u (List.mem_cons_of_mem _ hu)
    dsimp only
    split
    all_goals
      split
      · exact wpAny_pure ⟨rfl, rfl, rest'⟩
      · refine wpAny_bind (quiet_key k _ 8 s' hk.1 (by have := hk.2.1; omega) _ _ _ ?_)
        simp only [Bool.not_true, Bool.false_eq_true, if_false]
        refine wpAny_bind (quiet_key k' _ 8 s' hc.1 (by have := hc.2.1; omega) _ _ _ ?_)
        simp only [Bool.not_true, Bool.false_eq_true, if_false]
        refine wpAny_bind (noCls_key k _ 8 s' hk.1 (by have := hk.2.1; omega) _ _ _ ?_)
        simp only [Bool.false_eq_true, if_false]
        refine wpAny_bind (noCls_key k' _ 8 s' hc.1 (by have := hc.2.1; omega) _ _ _ ?_)
        simp only [Bool.false_eq_true, if_false]
        exact wpAny_pure ⟨rfl, rfl, rest'⟩
  · rintro ⟨r1, r2⟩ s' ⟨hr, rfl, _⟩
    simp only at hr
    subst hr
    exact wpAny_pure h
end
end Moot
namespace Moot
open PySem PySem.Spec PyProof.Rows L2
abbrev Mb := NestedKey × Value
def rowsN (w : World) (L : List Mb) : List (Int × Value) := L.map fun p => (p.1.hash w, p.2)
/-- the set at a has the members L, in the order of its table -/
structure SetN (w : World) (h : Heap) (a : Addr) (L : List Mb) (es : Array (Int × Value)) (ep : Nat) (t : SetTable) : Prop where
  ob : ∃ o, h.get? a = some o ∧ o.ExactSet ∧ o.data = .set es ep t
  rows : es.toList = rowsN w L
  tab : TabOk t (L.map fun p => p.1.hash w)
  nd : (L.map (·.1)).Nodup
  mem : ∀ p ∈ L, KIs h p.1 p.2
  led : w.params.followText "set-order" = true ∨ t.led = true
  room : L.length * 5 < t.mask * 3
  few : L.length < 64
section
variable {P : Program} {w : World} {A : Around} {E : Value → Shared → Prop} {s : Shared} {a : Addr} {L : List Mb} {es : Array (Int × Value)} {ep : Nat} {t : SetTable}
theorem SetN.size {h : Heap} (R : SetN w h a L es ep t) : es.size = L.length := by
  have e := congrArg List.length R.rows
  unfold rowsN at e
  rwa [Array.length_toList, List.length_map] at e
theorem SetN.fits {h : Heap} (R : SetN w h a L es ep t) : t.fits es.size = true := by
  have h1 := R.tab.sz
  rw [List.length_map] at h1
  have h2 := R.size
  have h3 := R.room
  unfold SetTable.fits SetTable.fill
  rw [R.tab.dm, Bool.and_eq_true, beq_iff_eq, decide_eq_true_eq]
  show t.place.size = es.size ∧ t.place.size + 0 ≤ t.mask
  omega
theorem SetN.entry {h : Heap} (R : SetN w h a L es ep t) {i : Nat} {p : Mb} (e : L[i]? = some p) : es[i]? = some (p.1.hash w, p.2) := by
  rw [← Array.getElem?_toList, R.rows]
  unfold rowsN
  rw [List.getElem?_map, e]
  rfl
theorem SetN.odd {h : Heap} (R : SetN w h a L es ep t) : ¬ t.gaveWay = true := by
  unfold SetTable.gaveWay
  rw [mask_odd R.tab.mok]
  decide
theorem dummy_none (m : Nat) : ∀ (n : Nat) (p : SetTable.Probe), p.dummy = none → (nth m p n).dummy = none
  | 0, _, h => h
  | n + 1, p, h => dummy_none m n (adv m p) (by unfold adv; split <;> exact h)
/-- the search, from the c-th step of the way on -/
theorem find_from (R : SetN w s.heap a L es ep t) {x : Value} {k : NestedKey} (hx : KIs s.heap k x) (hu : A.units + 8 < cLine) {hv : Int} (ehv : hv = k.hash w) {N : Nat} (fuelN : N < 10 * SetTable.turns t.mask)
    (free : way t.mask hv N ∉ t.place.toList) (taken : ∀ c, c < N → way t.mask hv c ∈ t.place.toList) {Q : SetFound → Shared → Prop}
    (inn : k ∈ L.map (·.1) → Q (.there none) s) (out : k ∉ L.map (·.1) → Q (.free (way t.mask hv N) false) s) :
    ∀ (f c : Nat) (stand : Option SetTable.Probe), stand.getD (t.probeStart hv) = nth t.mask (runAt t.mask (SetTable.bits hv % (t.mask + 1)) (SetTable.bits hv)) c → c ≤ N → N - c < f →
      (∀ (i : Nat) p, L[i]? = some p → p.1 = k → ∃ d, c ≤ d ∧ d < N ∧ t.place.toList[i]? = some (way t.mask hv d)) → wpAny (model P w) A (setSearchFrom a x hv true f stand) Q E s
  | 0, _, _, _, _, hf, _ => absurd hf (Nat.not_lt_zero _)
  | f + 1, c, stand, hst, hc, hf, later => by
    obtain ⟨o, ho, hex, hd⟩ := R.ob
    rw [setSearchFrom_succ]
    refine wpAny_bind (wpAny_setState_of ho hd R.fits ?_)
    dsimp only
    refine wp_if_neg R.odd ?_
    try refine wpAny_bind (wpAny_pure ?_)
    have shift : ∀ q, nth t.mask (nth t.mask (runAt t.mask (SetTable.bits hv % (t.mask + 1)) (SetTable.bits hv)) c) q = nth t.mask (runAt t.mask (SetTable.bits hv % (t.mask + 1)) (SetTable.bits hv)) (c + q) := fun q => (nth_add t.mask c _ q).symm
    have shiftJ : ∀ q, (nth t.mask (nth t.mask (runAt t.mask (SetTable.bits hv % (t.mask + 1)) (SetTable.bits hv)) c) q).j = way t.mask hv (c + q) := fun q => congrArg SetTable.Probe.j (shift q)
    have spec := go_spec t R.tab.ris R.tab.dm (fun i => (es[i]?.map (·.1)).getD 0) hv (10 * SetTable.turns t.mask) (N - c) _ (dummy_none t.mask c _ rfl) (by omega)
      (fun q hq => by rw [shiftJ]; exact taken (c + q) (by omega)) (by rw [shiftJ, show c + (N - c) = N by omega]; exact free)
    have stored : ∀ (i : Nat) p, L[i]? = some p → (fun i => (es[i]?.map (·.1)).getD 0) i = p.1.hash w := fun i p hp => by
      show (es[i]?.map (·.1)).getD 0 = _
      rw [R.entry hp]
      rfl
    rcases spec with ⟨q, i, hq, hi, _, before, met⟩ | ⟨before, met⟩
    · have met' : t.probe (fun i => (es[i]?.map (·.1)).getD 0) hv (stand.getD (t.probeStart hv)) = some (.candidate (way t.mask hv (c + q)) i (nth t.mask (runAt t.mask (SetTable.bits hv % (t.mask + 1)) (SetTable.bits hv)) (c + (q + 1)))) := by
        rw [hst, ← shiftJ, ← shift]
        exact met
      rw [met']
      dsimp only
      rw [shiftJ] at hi
      have lt : i < L.length := by
        have h1 : i < t.place.toList.length := (List.getElem?_eq_some_iff.mp hi).1
        have h2 := R.tab.sz
        rw [List.length_map] at h2
        rw [Array.length_toList] at h1
        omega
      obtain ⟨p, hp⟩ : ∃ p, L[i]? = some p := ⟨_, List.getElem?_eq_getElem lt⟩
      have mp : p ∈ L := List.mem_of_getElem? hp
      have kp := R.mem p mp
      have rest : wpAny (model P w) A (searchRest a x hv true f es t (way t.mask hv (c + q)) i (nth t.mask (runAt t.mask (SetTable.bits hv % (t.mask + 1)) (SetTable.bits hv)) (c + (q + 1)))) Q E s := by
        unfold searchRest
        rw [R.entry hp]
        dsimp only
        have d1 := kp.2.1
        have d2 := hx.2.1
        refine wpAny_bind (wpAny_holding (eqAt_key p.1 k A s p.2 x kp.1 hx.1 (by omega) P w E _ ?_))
        rw [← NestedKey.decide_eq]
        refine wpAny_bind (wpAny_setState_of ho hd R.fits ?_)
        dsimp only
        by_cases same : p.1 = k
        · refine wp_if_pos (by simp [same]) ?_
          exact wpAny_pure (inn (List.mem_map.mpr ⟨p, mp, same⟩))
        · refine wp_if_neg (by simp [same]) ?_
          try refine wpAny_bind (wpAny_pure ?_)
          rw [sameMem]
          dsimp only
          have here : t.slot (way t.mask hv (c + q)) = .live i := slot_live R.tab.ris hi
          simp only [if_true, here, R.entry hp]
          refine wpAny_bind (same_self kp (wpAny_bind (wpAny_pure ?_)))
          simp only [if_true]
          refine wp_if_neg (by simp [same]) ?_
          refine find_from R hx hu ehv fuelN free taken inn out f (c + (q + 1)) _ rfl (by omega) (by omega) fun i0 p0 h0 k0 => ?_
          obtain ⟨d, a1, a2, a3⟩ := later i0 p0 h0 k0
          refine ⟨d, ?_, a2, a3⟩
          rcases Nat.lt_or_ge d (c + q) with z | z
          · exact (before (d - c) i0 (by omega) (by rw [shiftJ, show c + (d - c) = d by omega]; exact a3) ((stored i0 p0 h0).trans (by rw [k0, ehv]))).elim
          · rcases Nat.lt_or_ge (c + q) d with y | y
            · omega
            · exfalso
              have ed : d = c + q := Nat.le_antisymm y z
              rw [ed] at a3
              have s0 := slot_live R.tab.ris a3
              rw [here] at s0
              injection s0 with s0
              rw [← s0, hp] at h0
              exact same ((congrArg Prod.fst (Option.some.inj h0)).trans k0)
      by_cases hl : t.led = true
      · refine wp_if_neg (by simp [hl]) ?_
        try refine wpAny_bind (wpAny_pure ?_)
        exact rest
      · refine wp_if_pos (by simp [hl]) ?_
        refine wpAny_bind (seen_key hx (fun y hy => ?_) ?_)
        · obtain ⟨e, he, ee⟩ := List.mem_map.mp hy
          have he1 : e ∈ es ∧ e.1 = hv := by simpa using he
          have he2 : e ∈ es.toList := by simpa using he1.1
          rw [R.rows] at he2
          obtain ⟨p2, hp2, e2⟩ := List.mem_map.mp he2
          refine ⟨p2.1, ?_⟩
          rw [← ee, ← e2]
          exact R.mem p2 hp2
        · refine wp_if_neg (by decide) ?_
          try refine wpAny_bind (wpAny_pure ?_)
          exact rest
    · have met' : t.probe (fun i => (es[i]?.map (·.1)).getD 0) hv (stand.getD (t.probeStart hv)) = some (.empty (way t.mask hv N) none) := by
        have e2 : way t.mask hv N = (nth t.mask (nth t.mask (runAt t.mask (SetTable.bits hv % (t.mask + 1)) (SetTable.bits hv)) c) (N - c)).j := by rw [shiftJ, show c + (N - c) = N by omega]
        rw [hst, e2]
        exact met
      rw [met']
      dsimp only
      refine wpAny_pure (out fun hm => ?_)
      obtain ⟨p0, h0, k0⟩ := List.mem_map.mp hm
      obtain ⟨i0, hi0, e0⟩ := List.getElem_of_mem h0
      have h00 : L[i0]? = some p0 := by rw [List.getElem?_eq_getElem hi0, e0]
      obtain ⟨d, a1, a2, a3⟩ := later i0 p0 h00 k0
      exact before (d - c) i0 (by omega) (by rw [shiftJ, show c + (d - c) = d by omega]; exact a3) ((stored i0 p0 h00).trans (by rw [k0, ehv]))
theorem turns_le {m : Nat} (h : MaskOk m) : 10 * SetTable.turns m ≤ 1420 := by
  unfold SetTable.turns
  rcases h with e | e | e <;> omega
theorem SetN.firstFree {h : Heap} (R : SetN w h a L es ep t) (hv : Int) : ∃ N, N < 10 * SetTable.turns t.mask ∧ way t.mask hv N ∉ t.place.toList ∧ ∀ c, c < N → way t.mask hv c ∈ t.place.toList :=
  R.tab.first (by rw [List.length_map]; have := R.room; omega) hv
/-- the search as adding asks for it -/
theorem find_at (R : SetN w s.heap a L es ep t) {x : Value} {k : NestedKey} (hx : KIs s.heap k x) (hu : A.units + 8 < cLine) {Q : SetFound → Shared → Prop} (inn : k ∈ L.map (·.1) → Q (.there none) s)
    (out : ∀ N, k ∉ L.map (·.1) → way t.mask (k.hash w) N ∉ t.place.toList → (∀ c, c < N → way t.mask (k.hash w) c ∈ t.place.toList) → Q (.free (way t.mask (k.hash w) N) false) s) :
    wpAny (model P w) A (setSearch a x (k.hash w) true) Q E s := by
  obtain ⟨N, h1, h2, h3⟩ := R.firstFree (k.hash w)
  have big := turns_le R.tab.mok
  unfold setSearch
  refine find_from R hx hu rfl h1 h2 h3 inn (fun hn => out N hn h2 h3) 100000 0 none rfl (Nat.zero_le _) (by omega) fun i p hp hk => ?_
  have hi : (L.map fun p => p.1.hash w)[i]? = some (k.hash w) := by
    rw [List.getElem?_map, hp, ← hk]
    rfl
  have hil : i < t.place.toList.length := by
    have e1 : i < L.length := (List.getElem?_eq_some_iff.mp hp).1
    have e2 := R.tab.sz
    rw [List.length_map] at e2
    rw [Array.length_toList]
    omega
  have hj := List.getElem?_eq_getElem hil
  obtain ⟨c, hc, e⟩ := R.tab.before h2 hi hj
  exact ⟨c, Nat.zero_le _, hc, by rw [hj, e]⟩
end
end Moot
namespace Moot
open PySem PySem.Spec PyProof.Rows L2
/-- entries picked in another order -/
theorem picked {w : World} (L : List Mb) (es : Array (Int × Value)) (order : Array Nat) (hr : es.toList = rowsN w L) (hp : order.toList.Perm (List.range L.length)) :
    ∃ L2, (order.filterMap (es[·]?)).toList = rowsN w L2 ∧ L2.Perm L ∧ (L2.map fun p => p.1.hash w) = order.toList.map fun i => (es.map (·.1)).getD i 0 := by
  have at_ : ∀ i (h : i < L.length), es[i]? = some ((L[i]).1.hash w, (L[i]).2) := fun i h => by
    rw [← Array.getElem?_toList, hr]
    unfold rowsN
    rw [List.getElem?_map, List.getElem?_eq_getElem h]
    rfl
  have key : ∀ l : List Nat, (∀ i ∈ l, i < L.length) → ∃ L2 : List Mb, l.filterMap (fun i => es[i]?) = rowsN w L2 ∧ L2 = l.filterMap (fun i => L[i]?) ∧ (L2.map fun p => p.1.hash w) = l.map fun i => (es.map (·.1)).getD i 0 := by
    intro l
    induction l with
    | nil => intro _; exact ⟨[], rfl, rfl, rfl⟩
    | cons i l ih =>
      intro hl
      have hi := hl i List.mem_cons_self
      obtain ⟨L2, e1, e2, e3⟩ := ih fun j hj => hl j (List.mem_cons_of_mem _ hj)
      refine ⟨L[i] :: L2, ?_, ?_, ?_⟩
      · rw [List.filterMap_cons_some (at_ i hi), e1]
        rfl
      · rw [List.filterMap_cons_some (List.getElem?_eq_getElem hi), e2]
      · rw [List.map_cons, List.map_cons, e3]
        have e5 : (es.map (·.1))[i]? = some ((L[i]).1.hash w) := by
          rw [Array.getElem?_map, at_ i hi]
          rfl
        have e4 : (es.map (·.1)).getD i 0 = (L[i]).1.hash w := by simp [Array.getD_eq_getD_getElem?, e5]
        rw [e4]
  obtain ⟨L2, e1, e2, e3⟩ := key order.toList fun i hi => List.mem_range.mp (hp.mem_iff.mp hi)
  refine ⟨L2, by first | (rw [Array.toList_filterMap]; exact e1) | simpa using e1, ?_, e3⟩
  have h1 : L2.Perm ((List.range L.length).filterMap fun i => L[i]?) := by
    rw [e2]
    exact hp.filterMap _
  have h2 : (List.range L.length).filterMap (fun i => L[i]?) = L := by
    have upto : ∀ n, n ≤ L.length → (List.range n).filterMap (fun i => L[i]?) = L.take n := by
      intro n
      induction n with
      | zero => intro _; rfl
      | succ n ih =>
        intro hn
        have lt : n < L.length := hn
        rw [List.range_succ, List.filterMap_append, ih (Nat.le_of_lt lt), List.take_succ, List.getElem?_eq_getElem lt, List.filterMap_cons_some (List.getElem?_eq_getElem lt)]
        rfl
    rw [upto L.length (Nat.le_refl _), List.take_length]
  rw [h2] at h1
  exact h1
/-- what stands in the object, apart from room -/
structure Held (w : World) (h : Heap) (L : List Mb) (es : Array (Int × Value)) (t : SetTable) : Prop where
  rows : es.toList = rowsN w L
  tab : TabOk t (L.map fun p => p.1.hash w)
  nd : (L.map (·.1)).Nodup
  mem : ∀ p ∈ L, KIs h p.1 p.2
  led : w.params.followText "set-order" = true ∨ t.led = true
  few : L.length < 64
theorem Held.size {w : World} {h : Heap} {L : List Mb} {es : Array (Int × Value)} {t : SetTable} (R : Held w h L es t) : es.size = L.length := by
  have e := congrArg List.length R.rows
  unfold rowsN at e
  rwa [Array.length_toList, List.length_map] at e
theorem Held.fill {w : World} {h : Heap} {L : List Mb} {es : Array (Int × Value)} {t : SetTable} (R : Held w h L es t) : t.fill = L.length := by
  have := R.tab.sz
  rw [List.length_map] at this
  unfold SetTable.fill
  rw [R.tab.dm, this]
  rfl
theorem tab_plain {t : SetTable} {hs : List Int} (T : TabOk t hs) (b : Bool) : TabOk (if b = true then t else { t with plain := false }) hs := by
  cases b
  · exact ⟨T.ris, T.dm, T.sz, T.mok, T.bd, T.reach⟩
  · exact T
theorem Held.plain {w : World} {h : Heap} {L : List Mb} {es : Array (Int × Value)} {t : SetTable} (R : Held w h L es t) (b : Bool) : Held w h L es (if b = true then t else { t with plain := false }) :=
  ⟨R.rows, tab_plain R.tab b, R.nd, R.mem, by cases b <;> exact R.led, R.few⟩
/-- the members stay what they are when the set alone is written -/
theorem kis_same {h h' : Heap} {a : Addr} {o : Obj} {es : Array (Int × Value)} {ep : Nat} {t : SetTable} (ho : h.get? a = some o) (hd : o.data = .set es ep t) (sb : Heap.SameBut a h h') {k : NestedKey} {v : Value} (m : KIs h k v) : KIs h' k v :=
  ⟨NestedIs.at (fun b ob vs n hb hc => by
    refine (sb.2 b fun e => ?_).trans hb
    subst e
    rw [ho] at hb
    cases hb
    rw [hd] at hc
    cases hc) k _ m.1, m.2⟩
theorem kis_keep {h h' : Heap} (kp : ∀ b o, h.get? b = some o → h'.get? b = some o) {k : NestedKey} {v : Value} (m : KIs h k v) : KIs h' k v :=
  ⟨NestedIs.at (fun b ob vs n hb _ => kp b ob hb) k _ m.1, m.2⟩
section
variable {P : Program} {w : World} {A : Around} {E : Value → Shared → Prop} {s : Shared} {a : Addr} {L : List Mb} {es : Array (Int × Value)} {ep : Nat} {t : SetTable}
/-- the object with a member more -/
theorem held_put {h : Heap} (R : SetN w h a L es ep t) {x : Value} {k : NestedKey} (hx : KIs h k x) (few : L.length + 1 < 64) (new : k ∉ L.map (·.1)) {N : Nat} (free : way t.mask (k.hash w) N ∉ t.place.toList) (taken : ∀ c, c < N → way t.mask (k.hash w) c ∈ t.place.toList) :
    ∃ L1, Held w h L1 (SetTable.insertAt es (t.put (way t.mask (k.hash w) N)).2 (k.hash w, x)) (t.put (way t.mask (k.hash w) N)).1 ∧ L1.Perm ((k, x) :: L) ∧ (t.put (way t.mask (k.hash w) N)).1.mask = t.mask := by
  obtain ⟨q1, q2, q3, q4, q5, _⟩ := R.tab.put free taken
  rw [q1]
  refine ⟨L.take (SetTable.below t.place (way t.mask (k.hash w) N)) ++ (k, x) :: L.drop (SetTable.below t.place (way t.mask (k.hash w) N)), ?_, put_perm _ _ _, q4⟩
  generalize SetTable.below t.place (way t.mask (k.hash w) N) = p at q2 q3
  have pm := put_perm L p (k, x)
  refine ⟨?_, ?_, ?_, fun r hr => ?_, by rw [q5]; exact R.led, ?_⟩
  · rw [SetTable.toList_insertAt, R.rows]
    unfold rowsN
    rw [List.map_append, List.map_cons, List.map_take, List.map_drop]
  · rw [List.map_append, List.map_cons, List.map_take, List.map_drop]
    exact q3
  · refine (pm.map (·.1)).nodup_iff.mpr ?_
    rw [List.map_cons]
    exact List.nodup_cons.mpr ⟨new, R.nd⟩
  · rcases List.mem_cons.mp (pm.mem_iff.mp hr) with e | hr
    · rw [e]; exact hx
    · exact R.mem r hr
  · rw [pm.length_eq]
    exact few
/-- laid anew, larger -/
theorem held_relaid {h : Heap} (R : Held w h L es t) {wanted M : Nat} (hw : SetTable.sizeAbove wanted - 1 = M) (hM : MaskOk M) (hn : L.length * 5 < M * 3) :
    ∃ t' order L', t.relaid (es.map (·.1)) wanted = some (t', order) ∧ Held w h L' (order.filterMap (es[·]?)) t' ∧ L'.Perm L ∧ t'.mask = M ∧ order.toList.Perm (List.range es.size) := by
  have sz := R.size
  obtain ⟨t', order, e, hp, T, em, el, _, _⟩ := relaid_ok t (hs := es.map (·.1)) (wanted := wanted) hw hM (by rw [Array.size_map, sz]; omega)
  rw [Array.size_map] at hp
  obtain ⟨L', r1, r2, r3⟩ := picked L es order R.rows (by rw [← sz]; exact hp)
  refine ⟨t', order, L', e, ⟨r1, by rw [r3]; exact T, (r2.map (·.1)).nodup_iff.mpr R.nd, fun p m => R.mem p (r2.mem_iff.mp m), by rw [el]; exact R.led, by rw [r2.length_eq]; exact R.few⟩, r2, em, hp⟩
/-- how large the table becomes -/
theorem grown_to {m n : Nat} (hm : MaskOk m) (lo : (n - 1) * 5 < m * 3) (full : n * 5 ≥ m * 3) (few : n < 64) (n1 : 1 ≤ n) : ∃ M, SetTable.sizeAbove (SetTable.grown n) - 1 = M ∧ MaskOk M ∧ n * 5 < M * 3 ∧ SetTable.sizeAbove (SetTable.grown n) ≤ 128 := by
  rcases hm with e | e | e
  · have : n = 5 := by omega
    subst this
    exact ⟨31, by rw [size_20], .inr (.inl rfl), by decide, by rw [size_20]; decide⟩
  · have : n = 19 := by omega
    subst this
    exact ⟨127, by rw [size_76], .inr (.inr rfl), by decide, by rw [size_76]; decide⟩
  · omega
end
end Moot
namespace Moot
open PySem PySem.Spec PyProof.Rows L2
section
variable {P : Program} {w : World} {A : Around} {E : Value → Shared → Prop} {s : Shared} {a : Addr} {L : List Mb} {es : Array (Int × Value)} {ep : Nat} {t : SetTable}
/-- the object is so, and has room -/
theorem Held.set {h h' : Heap} {o : Obj} (R : Held w h L es t) (ho : h'.get? a = some o) (hex : o.ExactSet) (hd : o.data = .set es ep t) (mem : ∀ p ∈ L, KIs h' p.1 p.2) (room : L.length * 5 < t.mask * 3) : SetN w h' a L es ep t :=
  ⟨⟨o, ho, hex, hd⟩, R.rows, R.tab, R.nd, mem, R.led, room, R.few⟩
/-- a slot that is free, whatever the hashes are -/
theorem free_slot {h : Heap} (R : SetN w h a L es ep t) (hv : Int) : ∃ N, t.freeSlot hv = some (way t.mask hv N, false) ∧ way t.mask hv N ∉ t.place.toList ∧ ∀ c, c < N → way t.mask hv c ∈ t.place.toList := by
  obtain ⟨N, h1, h2, h3⟩ := R.firstFree hv
  refine ⟨N, ?_, h2, h3⟩
  have spec := go_spec t R.tab.ris R.tab.dm (fun _ => hv + 1) hv (10 * SetTable.turns t.mask) N (runAt t.mask (SetTable.bits hv % (t.mask + 1)) (SetTable.bits hv)) rfl h1 h3 h2
  rcases spec with ⟨_, _, _, _, z, _⟩ | ⟨_, met⟩
  · omega
  · unfold SetTable.freeSlot
    have e : t.probe (fun _ => hv + 1) hv (t.probeStart hv) = some (.empty (way t.mask hv N) none) := met
    rw [e]
    rfl
/-- the object is written with a member more, the table laid anew where it is too full -/
theorem finish {β : Type} {o : Obj} (ho : s.heap.get? a = some o) (hex : o.ExactSet) {es0 : Array (Int × Value)} {t0 : SetTable} (hd : o.data = .set es0 ep t0) (R : Held w s.heap L es t) (lo : (L.length - 1) * 5 < t.mask * 3) (n1 : 1 ≤ L.length) {full : Bool} (hf : full = t.tooFull) {c1 k : Sem β} {Q : β → Shared → Prop}
    (q : ∀ h' L' es' ep' t', Heap.SameBut a s.heap h' → SetN w h' a L' es' ep' t' → L'.Perm L → wpAny (model P w) A k Q E { s with heap := h' })
    (big : ∀ (h1 : Heap) (o1 : Obj) t' order, h1.get? a = some o1 → o1.ExactSet → o1.data = .set es (ep + 1) t → SetTable.sizeAbove (SetTable.grown es.size) ≤ 128 → t.relaid (es.map (·.1)) (SetTable.grown es.size) = some (t', order) → (order.filterMap (es[·]?)).size = es.size → t'.fits es.size = true → order.toList.Perm (List.range es.size) → es.size < 64 → t.fits es.size = true →
      (∀ h2 ep2, Heap.SameBut a h1 h2 → (∃ o2, h2.get? a = some o2 ∧ o2.ExactSet ∧ o2.data = .set (order.filterMap (es[·]?)) ep2 t') → wpAny (model P w) A k Q E { s with heap := h2 }) → wpAny (model P w) A c1 Q E { s with heap := h1 }) :
    wpAny (model P w) A (storeSet a es t >>= fun _ => if full = true then c1 else k) Q E s := by
  have sz := R.size
  have few := R.few
  refine wpAny_bind (wpAny_storeSet_of ho hd ?_ (by rw [sz, sizeLine_eq]; omega))
  have sb : Heap.SameBut a s.heap (s.heap.update a (Obj.putSet es t)) := Heap.SameBut.update ..
  have ho1 := store_at (es' := es) (t' := t) ho hd
  generalize s.heap.update a (Obj.putSet es t) = h1 at sb ho1 ⊢
  have mem1 : ∀ p ∈ L, KIs h1 p.1 p.2 := fun p m => kis_same ho hd sb (R.mem p m)
  have tf : full = decide (L.length * 5 ≥ t.mask * 3) := by
    rw [hf]
    unfold SetTable.tooFull
    rw [R.fill]
  cases full with
  | false =>
    rw [if_neg (by decide)]
    have := of_decide_eq_false tf.symm
    exact q h1 L es (ep + 1) t sb (R.set ho1 ⟨hex.1, hex.2.1, hex.2.2⟩ rfl mem1 (by omega)) (List.Perm.refl _)
  | true =>
    rw [if_pos rfl]
    have ge := of_decide_eq_true tf.symm
    obtain ⟨M, e1, e2, e3, e4⟩ := grown_to R.tab.mok lo ge few n1
    obtain ⟨t', order, L', r1, r2, r3, r4, r5⟩ := held_relaid R e1 e2 e3
    have fit : ∀ {t1 : SetTable} {es1 : Array (Int × Value)} {L1 : List Mb}, Held w s.heap L1 es1 t1 → L1.length = L.length → L1.length ≤ t1.mask → t1.fits es.size = true := fun {t1 es1 L1} R1 hl hm => by
      have h1 := R1.tab.sz
      rw [List.length_map] at h1
      unfold SetTable.fits
      rw [R1.fill, Bool.and_eq_true, beq_iff_eq, decide_eq_true_eq]
      omega
    have lm : L.length ≤ t.mask := by
      rcases R.tab.mok with e | e | e <;> omega
    refine big h1 _ t' order ho1 ⟨hex.1, hex.2.1, hex.2.2⟩ rfl (by rw [sz]; exact e4) (by rw [sz]; exact r1) (by rw [r2.size, r3.length_eq, sz]) (fit r2 r3.length_eq (by rw [r4, r3.length_eq]; omega)) r5 (by omega) (fit R rfl lm) fun h2 ep2 sb2 ⟨o2, ho2, hex2, hd2⟩ => ?_
    exact q h2 L' _ ep2 t' (sb.trans sb2) (r2.set ho2 hex2 hd2 (fun p m => kis_same ho1 rfl sb2 (mem1 p (r3.mem_iff.mp m))) (by rw [r4, r3.length_eq]; exact e3)) r3
/-- a member more -/
theorem add_N (R : SetN w s.heap a L es ep t) {x : Value} {k : NestedKey} (hx : KIs s.heap k x) (hu : A.units + 8 < cLine) (few : L.length + 1 < 64) {Q : Bool → Shared → Prop}
    (q : ∀ b h' L' es' ep' t', Heap.SameBut a s.heap h' → SetN w h' a L' es' ep' t' → (k ∈ L.map (·.1) → L' = L) → (k ∉ L.map (·.1) → L'.Perm ((k, x) :: L)) → Q b { s with heap := h' }) :
    wpAny (model P w) A (setAddHashed a x (k.hash w)) Q E s := by
  obtain ⟨o, ho, hex, hd⟩ := R.ob
  have room := R.room
  have old : k ∈ L.map (·.1) → Q false s := fun m => q false s.heap L es ep t (Heap.SameBut.refl a s.heap) R (fun _ => rfl) fun z => absurd m z
  have d8 : k.depth ≤ 8 := by have := hx.2.1; omega
  unfold setAddHashed
  refine wpAny_holding ?_
  rw [show (100000 : Nat) = 99999 + 1 from rfl, setAddHashedIn_succ]
  refine wpAny_bind (wpAny_setState_of ho hd R.fits ?_)
  dsimp only
  by_cases sc : byScan x es = true
  · refine wp_if_pos sc ?_
    have sc1 : x.scannable = true := by
      unfold byScan at sc
      rw [Bool.and_eq_true, Bool.and_eq_true] at sc
      exact sc.1.1
    obtain ⟨y, tk, rfl, htk⟩ : ∃ y tk, x = .str y tk ∧ tk ≠ 0 := by
      rcases hx.2.2 with h | ⟨b, rfl⟩
      · exact h
      · cases sc1
    have ek : k = .text y := by
      cases hx.1
      rfl
    subst ek
    have el : ElemsOf (PySem.strKind P w) es.toList := fun e me => by
      have sc2 : e.2.scannable = true := by
        unfold byScan at sc
        rw [Bool.and_eq_true] at sc
        have me' : e ∈ es := by simpa using me
        exact (Array.all_eq_true_iff_forall_mem.mp sc.2) e me'
      rw [R.rows] at me
      obtain ⟨p, mp, rfl⟩ := List.mem_map.mp me
      have kp := R.mem p mp
      refine ⟨?_, sc2⟩
      rcases kp.2.2 with ⟨z, tz, ez, _⟩ | ⟨b, eb⟩
      · have h1 := kp.1
        rw [ez] at h1
        obtain ⟨pk, pv⟩ := p
        dsimp only at ez h1 ⊢
        subst ez
        cases h1
        exact ⟨z, strKind_is _ _ _ _, rfl⟩
      · rw [eb] at sc2
        cases sc2
    have found : ∀ j, es.toList.findIdx? (fun e => (PySem.strKind P w).is y e.2) = some j → NestedKey.text y ∈ L.map (·.1) := fun j hj => by
      obtain ⟨lt, hit, _⟩ := List.findIdx?_eq_some_iff_getElem.mp hj
      have me : es.toList[j] ∈ es.toList := List.getElem_mem lt
      generalize es.toList[j] = e at me hit
      rw [R.rows] at me
      obtain ⟨p, mp, rfl⟩ := List.mem_map.mp me
      have kp := (R.mem p mp).1
      obtain ⟨tz, ez⟩ := Value.isStrOf_shape hit
      have ez : p.2 = .str y tz := ez
      rw [ez] at kp
      obtain ⟨pk, pv⟩ := p
      dsimp only at kp
      cases kp
      exact List.mem_map.mpr ⟨_, mp, rfl⟩
    have absent : es.toList.findIdx? (fun e => (PySem.strKind P w).is y e.2) = none → NestedKey.text y ∉ L.map (·.1) := fun hn hm => by
      obtain ⟨p, mp, ep'⟩ := List.mem_map.mp hm
      have no := List.findIdx?_eq_none_iff.mp hn (p.1.hash w, p.2) (by rw [R.rows]; exact List.mem_map.mpr ⟨p, mp, rfl⟩)
      have kp := (R.mem p mp).1
      rw [ep'] at kp
      obtain ⟨pk, pv⟩ := p
      dsimp only at kp no
      cases kp
      rw [strKind_is] at no
      cases no
    unfold setAddByScan
    apply wpAny_bind
    apply wpAny_bind
    apply wpAny_rule
    apply wpAny_bind
    refine wpAny_setScan_of (knd := PySem.strKind P w) (k := y) (strKind_is _ _ _ _) ho hd R.fits el ?_
    cases met : es.toList.findIdx? (fun e => (PySem.strKind P w).is y e.2) with
    | some j => exact wpAny_pure (wpAny_pure (old (found j met)))
    | none =>
      have new := absent met
      obtain ⟨N, fs, free, taken⟩ := free_slot R (NestedKey.hash w (.text y))
      obtain ⟨L1, H1, pm, em⟩ := held_put R hx few new free taken
      have len1 : L1.length = L.length + 1 := pm.length_eq
      have fit1 : (t.put (way t.mask (NestedKey.hash w (.text y)) N)).1.fits (SetTable.insertAt es (t.put (way t.mask (NestedKey.hash w (.text y)) N)).2 (NestedKey.hash w (.text y), .str y tk)).size = true := by
        have h1 := H1.tab.sz
        rw [List.length_map] at h1
        unfold SetTable.fits
        rw [H1.fill, H1.size, Bool.and_eq_true, beq_iff_eq, decide_eq_true_eq, em]
        refine ⟨h1, ?_⟩
        rcases R.tab.mok with e | e | e <;> omega
      have lay : layNew t es (NestedKey.hash w (.text y)) (.str y tk) = (SetTable.insertAt es (t.put (way t.mask (NestedKey.hash w (.text y)) N)).2 (NestedKey.hash w (.text y), .str y tk), (t.put (way t.mask (NestedKey.hash w (.text y)) N)).1, false, false) := by
        unfold layNew
        rw [fs]
        dsimp only
        unfold SetTable.orStandIn
        rw [fit1, if_pos rfl]
        rfl
      dsimp only
      rw [lay]
      dsimp only
      refine wpAny_bind (wpAny_pure (a := ()) ?_)
      have done : ∀ h' L' es' ep' t', Heap.SameBut a s.heap h' → SetN w h' a L' es' ep' t' → L'.Perm L1 → wpAny (model P w) A (pure (some true)) (fun r s₁ => wpAny (model P w) A (match r with | some added => pure added | none => setAddHashedIn a (.str y tk) (NestedKey.hash w (.text y)) 99999) Q E s₁) E { s with heap := h' } := fun h' L' es' ep' t' sb S pl =>
        wpAny_pure (wpAny_pure (q true h' L' es' ep' t' sb S (fun z => absurd z new) fun _ => pl.trans pm))
      have step : ∀ b : Bool, _ := fun b => finish (P := P) (A := A) (E := E) (full := !false && (if b = true then (t.put (way t.mask (NestedKey.hash w (.text y)) N)).1 else { (t.put (way t.mask (NestedKey.hash w (.text y)) N)).1 with plain := false }).tooFull)
        (c1 := (match relayAll (if b = true then (t.put (way t.mask (NestedKey.hash w (.text y)) N)).1 else { (t.put (way t.mask (NestedKey.hash w (.text y)) N)).1 with plain := false }) (SetTable.insertAt es (t.put (way t.mask (NestedKey.hash w (.text y)) N)).2 (NestedKey.hash w (.text y), .str y tk)) (SetTable.grown (SetTable.insertAt es (t.put (way t.mask (NestedKey.hash w (.text y)) N)).2 (NestedKey.hash w (.text y), .str y tk)).size) with
          | (es2, t2, gave) => (match gave with | true => rule "set.scan.the-table-gave-way" | false => pure ()) >>= fun _ => storeSet a es2 t2 >>= fun _ => pure (some true)))
        ho hex hd (H1.plain b) (by
          have : (if b = true then (t.put (way t.mask (NestedKey.hash w (.text y)) N)).1 else { (t.put (way t.mask (NestedKey.hash w (.text y)) N)).1 with plain := false }).mask = t.mask := by cases b <;> exact em
          rw [this, len1]
          exact room) (by omega) rfl done fun h1 o1 t' order ho1 hex1 hd1 _ rl sz2 ft pr lt64 _ nx => by
            have cov : coversAll order (SetTable.insertAt es (t.put (way t.mask (NestedKey.hash w (.text y)) N)).2 (NestedKey.hash w (.text y), .str y tk)).size = true := List.isPerm_iff.mpr pr
            unfold relayAll
            rw [rl]
            dsimp only
            rw [cov, sz2, ft, Bool.true_and, if_pos rfl]
            dsimp only
            refine wpAny_bind (wpAny_pure (wpAny_bind (wpAny_storeSet_of ho1 hd1 ?_ (by rw [sz2, sizeLine_eq]; omega))))
            exact nx _ _ (Heap.SameBut.update ..) ⟨_, store_at ho1 hd1, ⟨hex1.1, hex1.2.1, hex1.2.2⟩, rfl⟩
      split
      · rw [hashByValue_scannable 8 (show (Value.str y tk).scannable = true from rfl)]
        exact wpAny_bind (wpAny_pure (step _))
      · exact wpAny_bind (wpAny_pure (step true))
  · refine wp_if_neg sc ?_
    try refine wpAny_bind (wpAny_pure ?_)
    refine wpAny_bind (find_at R hx hu (fun hm => wpAny_pure (old hm)) fun N new free taken => ?_)
    dsimp only
    refine wpAny_bind (wpAny_setState_of ho hd R.fits ?_)
    dsimp only
    obtain ⟨L1, H1, pm, em⟩ := held_put R hx few new free taken
    have len1 : L1.length = L.length + 1 := pm.length_eq
    have hsz := R.size
    have sz1 := H1.size
    generalize t.put (way t.mask (k.hash w) N) = pt at H1 em sz1 ⊢
    obtain ⟨t1, p⟩ := pt
    dsimp only at H1 em sz1 ⊢
    generalize SetTable.insertAt es p (k.hash w, x) = es1 at H1 sz1 ⊢
    have done : ∀ h' L' es' ep' t', Heap.SameBut a s.heap h' → SetN w h' a L' es' ep' t' → L'.Perm L1 → wpAny (model P w) A (pure true) Q E { s with heap := h' } := fun h' L' es' ep' t' sb S pl =>
      wpAny_pure (q true h' L' es' ep' t' sb S (fun z => absurd z new) fun _ => pl.trans pm)
    have same : SetTable.grown (es.size + 1) = SetTable.grown es1.size := by rw [sz1, len1, hsz]
    have step : ∀ b : Bool, _ := fun b => finish (P := P) (A := A) (E := E) (full := !false && (if b = true then t1 else { t1 with plain := false }).tooFull) (c1 := setRelay a (SetTable.grown (es.size + 1)) >>= fun _ => pure true) ho hex hd (H1.plain b) (by
          have : (if b = true then t1 else { t1 with plain := false }).mask = t.mask := by cases b <;> exact em
          rw [this, len1]
          exact room) (by omega) rfl done fun h1 o1 t' order ho1 hex1 hd1 bd rl sz2 ft pr lt64 ft0 nx => by
            rw [same, setRelay_eq]
            refine wpAny_bind (wpAny_bind (wpAny_setState_of ho1 hd1 ft0 ?_))
            dsimp only
            refine wp_if_neg (by rw [sizeLine_eq]; omega) ?_
            try refine wpAny_bind (wpAny_pure ?_)
            rw [rl]
            dsimp only
            refine wpAny_bind ?_
            refine wp_if_neg (by rw [sz2]; simp) ?_
            try refine wpAny_bind (wpAny_pure ?_)
            refine wpAny_pure ?_
            dsimp only
            refine wpAny_storeSet_of ho1 hd1 ?_ (by rw [sz2, sizeLine_eq]; omega)
            exact nx _ _ (Heap.SameBut.update ..) ⟨_, store_at ho1 hd1, ⟨hex1.1, hex1.2.1, hex1.2.2⟩, rfl⟩
    split
    · exact wpAny_bind (hashBy_key k x 8 s hx.1 d8 _ _ _ fun b => step b)
    · exact wpAny_bind (wpAny_pure (step true))
end
end Moot
namespace Moot
open PySem PySem.Spec PyProof.Rows L2
/-- what the set has of the first i things -/
structure GotN (ks : List Mb) (i : Nat) (L : List Mb) : Prop where
  sub : ∀ p ∈ L, p ∈ ks.take i
  all : ∀ p ∈ ks.take i, p.1 ∈ L.map (·.1)
  len : L.length ≤ i
theorem GotN.zero (ks : List Mb) : GotN ks 0 [] := ⟨fun p h => (nomatch h), fun p h => (by simp at h), Nat.le_refl _⟩
theorem GotN.same {ks L : List Mb} {i : Nat} {x : Mb} (g : GotN ks i L) (h : ks[i]? = some x) (hm : x.1 ∈ L.map (·.1)) : GotN ks (i + 1) L := by
  have e : ks.take (i + 1) = ks.take i ++ [x] := by rw [List.take_add_one, h]; rfl
  refine ⟨fun p hp => ?_, fun p hp => ?_, Nat.le_succ_of_le g.len⟩
  · rw [e]
    exact List.mem_append_left _ (g.sub p hp)
  · rw [e] at hp
    rcases List.mem_append.mp hp with z | z
    · exact g.all p z
    · rw [List.mem_singleton.mp z]
      exact hm
theorem GotN.more {ks L L' : List Mb} {i : Nat} {x : Mb} (g : GotN ks i L) (h : ks[i]? = some x) (pm : L'.Perm (x :: L)) : GotN ks (i + 1) L' := by
  have e : ks.take (i + 1) = ks.take i ++ [x] := by rw [List.take_add_one, h]; rfl
  refine ⟨fun p hp => ?_, fun p hp => ?_, ?_⟩
  · rw [e]
    rcases List.mem_cons.mp (pm.mem_iff.mp hp) with z | z
    · rw [z]; exact List.mem_append_right _ (List.mem_singleton.mpr rfl)
    · exact List.mem_append_left _ (g.sub p z)
  · rw [(pm.map (·.1)).mem_iff, List.map_cons]
    rw [e] at hp
    rcases List.mem_append.mp hp with z | z
    · exact List.mem_cons_of_mem _ (g.all p z)
    · rw [List.mem_singleton.mp z]; exact List.mem_cons_self
  · rw [pm.length_eq, List.length_cons]
    exact Nat.succ_le_succ g.len
section
variable {P : Program} {w : World} {A : Around} {E : Value → Shared → Prop} {s : Shared}
theorem SetN.kept {h h' : Heap} {a : Addr} {L : List Mb} {es : Array (Int × Value)} {ep : Nat} {t : SetTable} (R : SetN w h a L es ep t) (ha : ∀ o, h.get? a = some o → h'.get? a = some o) (hm : ∀ p ∈ L, KIs h' p.1 p.2) : SetN w h' a L es ep t := by
  obtain ⟨o, ho, r⟩ := R.ob
  exact ⟨⟨o, ha o ho, r⟩, R.rows, R.tab, R.nd, hm, R.led, R.room, R.few⟩
theorem setN_new (h : Heap) : SetN w (h.push (setNew w)) h.objs.size [] #[] 0 (.fresh 0 0 (!w.params.followText "set-order")) where
  ob := ⟨_, Heap.get?_push_size _ rfl, ⟨rfl, rfl, rfl⟩, rfl⟩
  rows := rfl
  tab := ⟨List.Pairwise.nil, rfl, rfl, .inl rfl, fun x hx => (by cases hx), fun i h j hi => (by simp at hi)⟩
  nd := List.nodup_nil
  mem := fun p hp => (by cases hp)
  led := by
    show _ ∨ (!w.params.followText "set-order") = true
    cases w.params.followText "set-order" <;> simp
  room := by show 0 * 5 < 7 * 3; decide
  few := by show 0 < 64; decide
theorem fill_N {I : Addr} {fp wr : List Addr} {G : Array GenState → Array GenState → Prop} {n : Nat} {Pv : Nat → Value → Prop} {St : Nat → Shared → Prop} {R : Result → Shared → Prop}
    (W : WalksS P w A.in1 I fp wr G n Pv St) {S : Addr} (out : S ∉ fp) (ks : List Mb) (len : ks.length = n) (few : n < 63) (val : ∀ i v, Pv i v → ∃ p, ks[i]? = some p ∧ v = p.2)
    (h0 : Heap) (hk : ∀ p ∈ ks, KIs h0 p.1 p.2) (hS0 : h0.get? S = none) (hw0 : ∀ b ∈ wr, h0.get? b = none) (hu : A.in1.units + 8 < cLine) :
    ∀ (left i : Nat) (s : Shared), i + left = n → St i s → (∀ b o, h0.get? b = some o → s.heap.get? b = some o) → (∃ L es ep t, SetN w s.heap S L es ep t ∧ GotN ks i L) →
      (∀ s' L es ep t, Moved (S :: wr) G s s' → SetN w s'.heap S L es ep t → GotN ks n L → R (.ok (.ret .none)) s') → codeAny (model P w) A (.builtin "set.update.loop" ⟨[.ref S, .ref I], []⟩) R s := by
  have outw : S ∉ wr := fun h => out (W.sub _ h)
  have wider : ∀ b ∈ wr, b ∈ S :: wr := fun b hb => List.mem_cons_of_mem _ hb
  have keepM : ∀ {s s' : Shared}, Moved wr G s s' → (∀ b o, h0.get? b = some o → s.heap.get? b = some o) → ∀ b o, h0.get? b = some o → s'.heap.get? b = some o := fun hm kp b o e =>
    hm.heap b o (fun hb => by rw [hw0 b hb] at e; cases e) (kp b o e)
  intro left
  induction left with
  | zero =>
    intro i s e st kp ⟨L, es, ep, t, hS, g⟩ r
    obtain rfl : i = n := e
    apply codeAny_builtin PyProof.Rows.F.entry_set_update_loop
    rw [Around.under_plainId PyProof.Rows.F.plain_set_update_loop _]
    show wpAny _ A.in1 (pyNext (.ref I) >>= _) _ _ s
    apply wpAny_bind
    refine W.done s _ _ st fun s' mv => wpAny_pure ?_
    have kp' := keepM mv kp
    exact r s' L es ep t (mv.mono wider) (hS.kept (fun o => mv.heap S o outw) fun p hp => kis_keep kp' (hk p (List.mem_of_mem_take (g.sub p hp)))) g
  | succ left ih =>
    intro i s e st kp ⟨L, es, ep, t, hS, g⟩ r
    have lt : i < n := by omega
    apply codeAny_builtin PyProof.Rows.F.entry_set_update_loop
    rw [Around.under_plainId PyProof.Rows.F.plain_set_update_loop _]
    show wpAny _ A.in1 (pyNext (.ref I) >>= _) _ _ s
    apply wpAny_bind
    refine W.item i s _ _ lt st fun v s' pv st' mv => ?_
    obtain ⟨p, hp, rfl⟩ := val i v pv
    have kp' := keepM mv kp
    have hS' : SetN w s'.heap S L es ep t := hS.kept (fun o => mv.heap S o outw) fun p hp => kis_keep kp' (hk p (List.mem_of_mem_take (g.sub p hp)))
    have hx : KIs s'.heap p.1 p.2 := kis_keep kp' (hk p (List.mem_of_getElem? hp))
    show wpAny _ A.in1 (holding [p.2] (setAdd S p.2) >>= _) _ _ s'
    apply wpAny_bind
    apply wpAny_holding
    unfold setAdd
    apply wpAny_holding
    apply wpAny_bind
    refine pyHash_key p.1 p.2 A.in1 s' _ hx.1 (by have := hx.2.1; omega) ?_
    refine add_N (s := { s' with toks := s'.toks + p.1.draws }) hS' hx hu (by have := g.len; omega) fun b h' L' es' ep' t' sb S2 c1 c2 => ?_
    have g' : GotN ks (i + 1) L' := by
      rcases Classical.em (p.1 ∈ L.map (·.1)) with c | c
      · rw [c1 c]; exact g.same hp c
      · exact g.more hp (c2 c)
    have kp2 : ∀ b o, h0.get? b = some o → h'.get? b = some o := fun b o e => (sb.2 b (fun z => by rw [z, hS0] at e; cases e)).trans (kp' b o e)
    refine wpAny_pure ⟨plainId_quiet PyProof.Rows.F.plain_set_update_loop _, ?_⟩
    refine ih (i + 1) _ (by omega) (W.frame _ s' _ _ st' (Nat.le_add_right _ _) fun b hb o e => ?_) kp2 ⟨L', es', ep', t', S2, g'⟩ fun s'' L2 es2 ep2 t2 mv' S3 g3 => ?_
    · rw [sb.2 b fun c => out (c ▸ hb)]
      exact e
    · refine r s'' L2 es2 ep2 t2 (Moved.trans W.gtrans ((mv.mono wider).then_heap (Nat.le_add_right _ _) fun b o nb e => ?_) mv') S3 g3
      rw [sb.2 b fun c => nb (c ▸ List.mem_cons_self)]
      exact e
/-- set.__init__ of the new set, over a tuple of mixed things -/
theorem init_mixed {l : Addr} {vs : List Value} {ks : List Mb} (calm : A.handled = none) (hl : s.heap.IsTuple l vs.toArray) (ek : ks.map (·.2) = vs) (few : vs.length < 63) (hk : ∀ p ∈ ks, KIs s.heap p.1 p.2) (hu : A.units + 10 < cLine) {Q : Shared → Prop}
    (q : ∀ s' h' tk L es ep t, s' = { s with heap := h', toks := tk } → SetN w h' s.heap.objs.size L es ep t → GotN ks ks.length L → (∀ b o, s.heap.get? b = some o → h'.get? b = some o) → Q s') :
    codeAny (model P w) A (.call (.builtin "set.__init__") ⟨[.ref s.heap.objs.size, .ref l], []⟩) (wants (fun r s' => r = .none ∧ Q s') E) { s with heap := s.heap.push (setNew w) } := by
  have at0 : (s.heap.push (setNew w)).get? s.heap.objs.size = some (setNew w) := Heap.get?_push_size _ rfl
  have ty : Shared.TypeIs { s with heap := s.heap.push (setNew w) } (.ref s.heap.objs.size) "set" := ⟨_, at0, rfl⟩
  refine codeAny_call_builtin PySem.F.called_set.init.plain PySem.F.entry_set_init (check_set_init_1 ty ?_)
  have hl1 : (s.heap.push (setNew w)).IsTuple l vs.toArray := hl.push _
  have hlo := hl1
  obtain ⟨⟨oc, od, oda, osl⟩, ol, hc, nl, hda⟩ := hlo
  dsimp only at hc hda
  subst hc hda
  have n1 := PySem.F.sub_tuple_set
  have n2 := PySem.F.sub_tuple_frozenset
  have n3 : (Value.type "tuple" == Value.type "dict") = false := by decide
  unfold Builtin.«set.__init__» noKeywords Builtin.Frozenset.updateFrom
  generalize it : pyIter = iter
  wp_walk
  subst it
  apply wpAny_pyIter_tuple hl1
  apply wpAny_bind
  apply wpAny_runValue
  have size1 : (s.heap.push (setNew w)).objs.size = s.heap.objs.size + 1 := size_push' _ _
  have low : l < s.heap.objs.size := by
    obtain ⟨o, ho, _⟩ := hl
    exact Heap.lt_size ho
  have calm2 : A.in1.in1.handled = none := calm
  have ne : l ≠ (s.heap.push (setNew w)).objs.size := by
    rw [size1]
    exact Nat.ne_of_lt (Nat.lt_succ_of_lt low)
  have out : s.heap.objs.size ∉ [(s.heap.push (setNew w)).objs.size, l] := by
    rw [size1]
    intro m
    rcases List.mem_cons.mp m with c | c
    · exact Nat.ne_of_lt (Nat.lt_succ_self _) c
    · exact Nat.ne_of_gt low (List.mem_singleton.mp c)
  have walk := (Walks.tuple (prog := P) (w := w) calm2 _ l ne vs.toArray).toS
  have lenk : ks.length = vs.length := by rw [← ek, List.length_map]
  refine fill_N walk out ks (by rw [lenk]; simp) (by simpa using few) (fun i v h => ?_) s.heap hk (Heap.get?_none_of_le (Nat.le_refl _)) (fun b hb => ?_) (show A.units + 1 + 1 + 8 < cLine by omega) vs.toArray.size 0 _ (by simp) ?_ (fun b o e => Heap.get?_push_of_some _ (Heap.get?_push_of_some _ e)) ⟨[], #[], 0, _, (setN_new s.heap).kept (fun o => Heap.get?_push_of_some _) (fun p hp => by cases hp), GotN.zero ks⟩ fun s' L es ep t mv S g => ?_
  · have h : vs[i]? = some v := by simpa using h
    rw [← ek, List.getElem?_map] at h
    obtain ⟨p, hp, rfl⟩ := Option.map_eq_some_iff.mp h
    exact ⟨p, hp, rfl⟩
  · have e : b = (s.heap.push (setNew w)).objs.size := by simpa using hb
    rw [e, size1]
    exact Heap.get?_none_of_le (Nat.le_succ _)
  · exact ⟨⟨_, Heap.get?_push_size _ rfl, rfl, rfl⟩, hl1.push _⟩
  · apply wpAny_pure
    have gk : GotN ks ks.length L := by
      have e : ks.length = vs.toArray.size := by rw [lenk]; simp
      rw [e]
      exact g
    refine wpAny_pure ⟨rfl, q s' s'.heap s'.toks L es ep t ?_ S gk fun b o e => ?_⟩
    · rcases s' with ⟨h', g', d', t', o'⟩
      obtain rfl : g' = s.gens := mv.gens
      obtain rfl : d' = s.drawn := mv.drawn
      obtain rfl : o' = s.os := mv.os
      rfl
    · have lt := Heap.lt_size e
      refine mv.heap b o (fun c => ?_) (Heap.get?_push_of_some _ (Heap.get?_push_of_some _ e))
      rcases List.mem_cons.mp c with c | c
      · exact Nat.ne_of_lt lt c
      · refine Nat.ne_of_lt (Nat.lt_succ_of_lt lt) (Eq.trans (List.mem_singleton.mp c) size1)
/-- set(xs) of a tuple of mixed things -/
theorem set_mixed {l : Addr} {vs : List Value} {ks : List Mb} (calm : A.handled = none) (hl : s.heap.IsTuple l vs.toArray) (ek : ks.map (·.2) = vs) (few : vs.length < 63) (hk : ∀ p ∈ ks, KIs s.heap p.1 p.2) (hu : A.units + 12 < cLine) {Q : Value → Shared → Prop}
    (q : ∀ s' h' tk L es ep t, s' = { s with heap := h', toks := tk } → SetN w h' s.heap.objs.size L es ep t → GotN ks ks.length L → (∀ b o, s.heap.get? b = some o → h'.get? b = some o) → Q (.ref s.heap.objs.size) s') :
    wpAny (model P w) A (call (.type "set") [.ref l]) Q E s := by
  obtain ⟨c, tl, mro⟩ := PySem.F.called_set.mro
  have made := PySem.F.called_set.made
  have sub := PySem.F.called_set.sub
  have f1 := PySem.F.called_set.notType
  have f2 := PySem.F.called_set.canCreate
  have f3 := PySem.F.typeCall_set_1 (.ref l)
  apply wpAny_call
  apply codeAny_of_tree
  show wpAny _ _ (callAny (.type "set") _) _ _ _
  refine wpAny_pure ⟨Code.quiet_builtin _ (by decide +kernel), ?_⟩
  apply codeAny_builtin PySem.F.entry_type_call
  rw [Around.under_plain (weight_type_call_type "set" [.ref l] []) rfl]
  repeat (any_goals (first | assumption | wp_step))
  refine codeAny_mono (new_of (.ref l) (E := E) (Q := fun x s₁ => x = .ref s.heap.objs.size ∧ s₁ = { s with heap := s.heap.push (setNew w) }) ⟨rfl, rfl⟩) ?_
  rintro (e | f) s₁ h
  · exact h
  · cases f with
    | ret x =>
      obtain ⟨rfl, rfl⟩ := h
      have ty : Shared.TypeIs { s with heap := s.heap.push (setNew w) } (.ref s.heap.objs.size) "set" := ⟨_, Heap.get?_push_size _ rfl, rfl⟩
      have g1 := PySem.F.called_set.init.lookup
      have g2 := PySem.F.called_set.init.bind (.ref s.heap.objs.size)
      repeat (any_goals (first | assumption | wp_step))
      refine codeAny_mono (init_mixed (A := A.in1) (E := E) (Q := fun s' => Q (.ref s.heap.objs.size) s') calm hl ek few hk (show A.units + 1 + 10 < cLine by omega) q) ?_
      rintro (e | f) s₂ h
      · exact h
      · cases f with
        | ret r =>
          obtain ⟨rfl, F⟩ := h
          exact wpAny_pure (wpAny_pure F)
        | _ => exact h.elim
    | _ => exact h.elim
end
end Moot
/-! Requirements in the heap, the tuple of their parts known so that its texts bear tokens. -/
namespace Moot
open PySem PySem.Spec PyProof.Rows L2
/-- a part: a name, or a count of names -/
abbrev Part := Str ⊕ (Int × List Str)
def PartAt (H : Hp) (v : V) : Part → Prop
  | .inl x => v = .str x
  | .inr (c, ns) => ∃ q p, v = .ref q ∧ H q = some (.tup [.int c, .ref p]) ∧ H p = some (.tup (ns.map V.str))
inductive Parts (H : Hp) : List V → List Part → Prop
  | nil : Parts H [] []
  | cons {v : V} {vs : List V} {p : Part} {ps : List Part} : PartAt H v p → Parts H vs ps → Parts H (v :: vs) (p :: ps)
/-- the tuple of the parts: known, or of texts alone -/
def PTup (H : Hp) (p : Addr) (vs : List V) : Prop := GTp H p vs ∨ (H p = some (.tup vs) ∧ ∃ ns : List Str, vs = ns.map V.str)
theorem PTup.seq {K : PySem.W.Frag} {H : Hp} {p : Addr} {vs : List V} (h : PTup H p vs) : SqT K H p vs := by
  rcases h with h | ⟨h, _⟩
  · exact h.seq
  · exact SqT.of h
def ReqAt (H : Hp) (r : Addr) (c : Int) (ps : List Part) : Prop := ∃ p vs, H r = some (.tup [.int c, .ref p]) ∧ PTup H p vs ∧ Parts H vs ps
/-- what never changes stays -/
structure Tups (H H' : Hp) : Prop where
  tup : ∀ a xs, H a = some (.tup xs) → H' a = some (.tup xs)
  frz : ∀ a o u, H a = some (.frz o u) → H' a = some (.frz o u)
theorem Same.tups {H H' : Hp} (s : Same H H') : Tups H H' := ⟨fun a _ h => s a _ h, fun a _ _ h => s a _ h⟩
theorem Tups.refl (H : Hp) : Tups H H := ⟨fun _ _ h => h, fun _ _ _ h => h⟩
theorem Tups.trans {H H1 H2 : Hp} (a : Tups H H1) (b : Tups H1 H2) : Tups H H2 := ⟨fun c xs h => b.tup c xs (a.tup c xs h), fun c o u h => b.frz c o u (a.frz c o u h)⟩
theorem tups_store {H : Hp} {p : Addr} {xs ys : List V} (h : H p = some (.lst xs)) : Tups H (upd H p (.lst ys)) :=
  ⟨fun a zs e => by rw [upd_ne (fun c => by rw [c, h] at e; cases e)]; exact e, fun a o u e => by rw [upd_ne (fun c => by rw [c, h] at e; cases e)]; exact e⟩
theorem PartAt.tups {H H' : Hp} {v : V} {p : Part} (h : PartAt H v p) (t : ∀ a xs, H a = some (.tup xs) → H' a = some (.tup xs)) : PartAt H' v p := by
  cases p with
  | inl x => exact h
  | inr y =>
    obtain ⟨c, ns⟩ := y
    obtain ⟨q, p, e, h1, h2⟩ := h
    exact ⟨q, p, e, t _ _ h1, t _ _ h2⟩
theorem Parts.tups {H H' : Hp} {vs : List V} {ps : List Part} (h : Parts H vs ps) (t : ∀ a xs, H a = some (.tup xs) → H' a = some (.tup xs)) : Parts H' vs ps := by
  induction h with
  | nil => exact .nil
  | cons a _ ih => exact .cons (a.tups t) ih
theorem PTup.tups {H H' : Hp} {p : Addr} {vs : List V} (h : PTup H p vs) (t : Tups H H') : PTup H' p vs := by
  rcases h with ⟨o, g, e⟩ | ⟨e, n⟩
  · exact .inl ⟨o, g, t.frz _ _ _ e⟩
  · exact .inr ⟨t.tup _ _ e, n⟩
theorem ReqAt.tups {H H' : Hp} {r : Addr} {c : Int} {ps : List Part} (h : ReqAt H r c ps) (t : Tups H H') : ReqAt H' r c ps := by
  obtain ⟨p, vs, h1, h2, h3⟩ := h
  exact ⟨p, vs, t.tup _ _ h1, h2.tups t, h3.tups t.tup⟩
theorem Parts.length {H : Hp} {vs : List V} {ps : List Part} (h : Parts H vs ps) : vs.length = ps.length := by
  induction h with
  | nil => rfl
  | cons _ _ ih => rw [List.length_cons, List.length_cons, ih]
theorem Parts.at {H : Hp} {vs : List V} {ps : List Part} (h : Parts H vs ps) : ∀ {i : Nat} {v : V}, vs[i]? = some v → ∃ p, ps[i]? = some p ∧ PartAt H v p := by
  induction h with
  | nil => intro i v e; simp at e
  | cons a _ ih =>
    intro i v e
    cases i with
    | zero =>
      cases Option.some.inj e
      exact ⟨_, rfl, a⟩
    | succ i => exact ih (i := i) e
theorem Parts.names {H : Hp} : ∀ ns : List Str, Parts H (ns.map V.str) (ns.map Sum.inl)
  | [] => .nil
  | _ :: ns => .cons rfl (Parts.names ns)
/-- an inner requirement is one -/
theorem PartAt.req {H : Hp} {v : V} {c : Int} {ns : List Str} (h : PartAt H v (.inr (c, ns))) : ∃ q, v = .ref q ∧ ReqAt H q c (ns.map Sum.inl) := by
  obtain ⟨q, p, e, h1, h2⟩ := h
  exact ⟨q, e, p, _, h1, .inr ⟨h2, ns, rfl⟩, Parts.names ns⟩
/-! parts as keys -/
def keyP : Part → NestedKey
  | .inl x => .text x
  | .inr (c, ns) => .tup [.num c, .tup (ns.map NestedKey.text)]
theorem texts_inj : ∀ {a b : List Str}, a.map NestedKey.text = b.map NestedKey.text → a = b
  | [], [], _ => rfl
  | [], _ :: _, h => by cases h
  | _ :: _, [], h => by cases h
  | x :: a, y :: b, h => by
    rw [List.map_cons, List.map_cons] at h
    injection h with h1 h2
    injection h1 with h1
    rw [h1, texts_inj h2]
theorem keyP_inj : ∀ {p q : Part}, keyP p = keyP q → p = q
  | .inl x, .inl y, h => by injection h with h; rw [h]
  | .inl x, .inr (c, ns), h => by cases h
  | .inr (c, ns), .inl y, h => by cases h
  | .inr (c, ns), .inr (d, ms), h => by
    injection h with h
    injection h with h1 h2
    injection h1 with h1
    injection h2 with h2 _
    injection h2 with h2
    rw [h1, texts_inj h2]
theorem depth_texts : ∀ ns : List Str, NestedKey.depthAll (ns.map NestedKey.text) = 0
  | [] => rfl
  | x :: ns => by
    rw [List.map_cons, NestedKey.depthAll, depth_texts ns]
    rfl
theorem depth_keyP (p : Part) : (keyP p).depth ≤ 7 := by
  cases p with
  | inl x => exact Nat.zero_le _
  | inr y =>
    obtain ⟨c, ns⟩ := y
    simp only [keyP, NestedKey.depth, NestedKey.depthAll, depth_texts]
    decide
theorem nested_texts {h : Heap} : ∀ {ns : List Str} {us : List Value}, Vals (ns.map V.str) us → NestedAll h (ns.map NestedKey.text) us
  | [], _, r => by cases r; exact .nil
  | x :: ns, _, r => by
    cases r with
    | cons a b =>
      obtain ⟨t, rfl⟩ := a
      exact .cons (.text x t) (nested_texts b)
section
variable {X : Cx} {pins : List (Addr × Obj)} {σ : L2.St} {H : Hp} {s : Shared}
theorem nested_part (I : Inv X pins σ H s) {v : V} {p : Part} {u : Value} (h : PartAt H v p) (r : RelV v u) : NestedIs s.heap (keyP p) u := by
  cases p with
  | inl x =>
    cases h
    obtain ⟨t, rfl⟩ := r
    exact .text x t
  | inr y =>
    obtain ⟨c, ns⟩ := y
    obtain ⟨q, p, rfl, h1, h2⟩ := h
    cases r
    obtain ⟨_, its, r1, o, ho, hc, n, hd⟩ := I.hok q _ h1
    obtain ⟨_, its2, r2, o2, ho2, hc2, n2, hd2⟩ := I.hok p _ h2
    obtain ⟨a, b, rfl, ra, rb⟩ := r1.two
    obtain ⟨t, rfl⟩ := ra
    cases rb
    exact .tup ho hc hd (.cons (.int c t) (.cons (.tup ho2 hc2 hd2 (by simpa using nested_texts r2)) .nil))
theorem kis_parts (I : Inv X pins σ H s) : ∀ {vs : List V} {ps : List Part} {us : List Value}, Parts H vs ps → Vals vs us → GdS us → ∃ ks : List Mb, ks.map (·.2) = us ∧ ks.map (·.1) = ps.map keyP ∧ ∀ k ∈ ks, KIs s.heap k.1 k.2
  | _, _, _, .nil, .nil, _ => ⟨[], rfl, rfl, fun k m => by cases m⟩
  | _, _, _, .cons (p := p) a b, .cons (b := u) r t, g => by
    obtain ⟨ks, e1, e2, e3⟩ := kis_parts I b t fun u m => g u (List.mem_cons_of_mem _ m)
    refine ⟨(keyP p, u) :: ks, by rw [List.map_cons, e1], by rw [List.map_cons, List.map_cons, e2], fun k m => ?_⟩
    rcases List.mem_cons.mp m with rfl | m
    · refine ⟨nested_part I a r, depth_keyP p, ?_⟩
      cases p with
      | inl x =>
        cases a
        obtain ⟨tk, rfl⟩ := r
        exact .inl ⟨x, tk, rfl, g _ List.mem_cons_self⟩
      | inr y =>
        obtain ⟨c, ns⟩ := y
        obtain ⟨q, _, rfl, _⟩ := a
        cases r
        exact .inr ⟨q, rfl⟩
    · exact e3 k m
end
/-- more distinct things than a list has places -/
theorem pigeon {α : Type} [DecidableEq α] : ∀ (l D : List α), l.Nodup → (∀ y ∈ l, y ∈ D) → l.length ≤ D.length
  | [], _, _, _ => Nat.zero_le _
  | y :: l, D, n, s => by
    obtain ⟨n1, n2⟩ := List.nodup_cons.mp n
    have my := s y List.mem_cons_self
    have := pigeon l (D.erase y) n2 fun z mz => (List.mem_erase_of_ne fun (e : z = y) => n1 (e ▸ mz)).mpr (s z (List.mem_cons_of_mem _ mz))
    have e := List.length_erase_of_mem my
    have := List.length_pos_of_mem my
    rw [List.length_cons]
    omega
theorem dup_split {α : Type} [DecidableEq α] : ∀ {D : List α}, ¬ D.Nodup → ∃ x, x ∈ D ∧ x ∈ D.erase x
  | [], h => absurd List.nodup_nil h
  | y :: D, h => by
    by_cases m : y ∈ D
    · exact ⟨y, List.mem_cons_self, by rw [List.erase_cons_head]; exact m⟩
    · obtain ⟨x, a, b⟩ := dup_split (D := D) fun n => h (List.nodup_cons.mpr ⟨m, n⟩)
      have ne : y ≠ x := fun e => m (e ▸ a)
      refine ⟨x, List.mem_cons_of_mem _ a, ?_⟩
      rw [List.erase_cons_tail (by simpa using ne)]
      exact List.mem_cons_of_mem _ b
/-- a set holds no more than there are -/
theorem Stands.most {P : Program} {w : World} {T : Type} [DecidableEq T] {knd : KeyKind P w T} {h : Heap} {a : Addr} {S : T → Bool} {n : Nat} (R : Stands knd h a S n) {xs : List T} (all : ∀ k, S k = true → k ∈ xs) : n ≤ xs.length := by
  obtain ⟨o, es, ep, t, _, _, _, rfl, L⟩ := R
  have pig : ∀ (D : List (Int × Value)) (X : List T), D.Pairwise (fun e f => ∀ k, knd.is k e.2 = true → knd.is k f.2 = true → False) → (∀ e ∈ D, ∃ k, knd.is k e.2 = true ∧ k ∈ X) → D.length ≤ X.length := by
    intro D
    induction D with
    | nil => intros; exact Nat.zero_le _
    | cons e D ih =>
      intro X pw hD
      obtain ⟨p1, p2⟩ := List.pairwise_cons.mp pw
      obtain ⟨k, ik, mk⟩ := hD e List.mem_cons_self
      have := ih (X.erase k) p2 fun f mf => by
        obtain ⟨j, ij, mj⟩ := hD f (List.mem_cons_of_mem _ mf)
        refine ⟨j, ij, (List.mem_erase_of_ne fun z => ?_).mpr mj⟩
        rw [z] at ij
        exact p1 f mf k ik ij
      have e1 := List.length_erase_of_mem mk
      have := List.length_pos_of_mem mk
      rw [List.length_cons]
      omega
  have := pig es.toList xs L.one fun e me => by
    obtain ⟨⟨k, ik, _⟩, _⟩ := L.el e me
    exact ⟨k, ik, all k ((L.mem k).mpr ⟨e, me, ik⟩)⟩
  simpa using this
section
variable {X : Cx}
/-- len(S), S a set of texts: neither less nor more -/
theorem cr_txtLen2 : CallR X (.builtin "len") (fun vs H Q => ∃ (a : Addr) (S : Str → Bool) (n : Nat), vs = [V.ref a] ∧ H a = some (TxtSet X.prog X.w a S n) ∧ n < 1000 ∧ ((∀ xs : List Str, (∀ k, S k = true → k ∈ xs) → n ≤ xs.length) → Q (.int (n : Int)) H)) := by
  intro pins s σ H vs us Q I r h
  obtain ⟨a, S, n, rfl, ha, few, q⟩ := h
  have R : Stands (PySem.strKind X.prog X.w) s.heap a S n := (I.hok a _ ha).1
  have le := fun xs all => R.most (xs := xs) all
  rw [Vals.ref1 r]
  obtain ⟨o, es, ep, t, ho, hex, hd, rfl, L⟩ := R
  exact call_len_set ho hex hd L.fit (by omega) ⟨.int _, H, I.tok _, ⟨_, rfl⟩, q le⟩
end
/-- a set of mixed things, by its size -/
def NSet (a : Addr) (n : Nat) : HO := .ext fun h => ∃ o es ep t, h.get? a = some o ∧ o.ExactSet ∧ o.data = .set es ep t ∧ es.size = n ∧ t.fits es.size = true
theorem nset_ok {P : Program} {w : World} {H : Hp} {h : Heap} {a : Addr} {n : Nat} (R : ∃ o es ep t, h.get? a = some o ∧ o.ExactSet ∧ o.data = .set es ep t ∧ es.size = n ∧ t.fits es.size = true) : ObjOk P w H h a (NSet a n) := by
  refine ⟨R, let ⟨o, _, _, _, e, _⟩ := R; ⟨o, e⟩, ?_⟩
  rintro h1 h2 ⟨o, es, ep, t, e, r⟩ k
  exact ⟨o, es, ep, t, k o e, r⟩
section
variable {X : Cx}
/-- set(parts), the tuple's texts bearing tokens -/
def rMixSet : List V → Hp → VK → Prop := fun vs H Q => ∃ (p : Addr) (xs : List V) (ps : List Part), vs = [.ref p] ∧ GTp H p xs ∧ Parts H xs ps ∧ ps.length < 63 ∧ ∀ a n, H a = none → n ≤ ps.length → (ps.Nodup → n = ps.length) → (¬ ps.Nodup → n < ps.length) → Q (.ref a) (upd H a (NSet a n))
theorem cr_mixSet (calm : X.calm = true) (hu : X.A.units + 12 < cLine) : CallR X (.type "set") rMixSet := by
  intro pins s σ H vs us Q I r h
  obtain ⟨p, xs, ps, rfl, ⟨o, ⟨its, n0, hc, hd, rv, gd⟩, hH⟩, PS, few, q⟩ := h
  obtain ⟨u, rfl, rx⟩ := vals1 r
  cases rx
  obtain ⟨get, _⟩ := I.hok p _ hH
  obtain ⟨ks, e1, e2, e3⟩ := kis_parts I PS rv gd
  have lens : its.length = ps.length := by rw [← rv.length, PS.length]
  refine set_mixed (ks := ks) (I.ok.hd calm) ⟨o, get, hc, n0, hd⟩ e1 (by rw [lens]; exact few) e3 hu fun s' h' tk L es ep t es' S g kept => ?_
  subst es'
  have lk : ks.length = ps.length := by
    have := congrArg List.length e2
    rwa [List.length_map, List.length_map] at this
  have subs : ∀ y ∈ L.map (·.1), y ∈ ps.map keyP := fun y my => by
    obtain ⟨m, hm, rfl⟩ := List.mem_map.mp my
    rw [← e2]
    exact List.mem_map_of_mem (List.mem_of_mem_take (g.sub m hm))
  have alls : ∀ y ∈ ps.map keyP, y ∈ L.map (·.1) := fun y my => by
    rw [← e2] at my
    obtain ⟨m, hm, rfl⟩ := List.mem_map.mp my
    exact g.all m (by rw [List.take_length]; exact hm)
  have nd : ps.Nodup ↔ (ps.map keyP).Nodup := by
    constructor
    · intro n
      exact List.Pairwise.map _ (fun a b ne e => ne (keyP_inj e)) n
    · intro n
      exact List.Pairwise.of_map keyP (fun a b ne e => ne (congrArg keyP e)) n
  have le : L.length ≤ ps.length := by
    have := pigeon _ _ S.nd subs
    rwa [List.length_map, List.length_map] at this
  obtain ⟨ob, hob, hex, hdat⟩ := S.ob
  refine ⟨.ref s.heap.objs.size, _, I.laid (t' := tk) kept (Nat.le_refl _) (nset_ok (n := L.length) ⟨ob, es, ep, t, hob, hex, hdat, S.size, S.fits⟩), rfl, q _ L.length (I.hok.fresh (Nat.le_refl _)) le (fun n => ?_) fun n => ?_⟩
  · have := pigeon _ _ (nd.mp n) alls
    rw [List.length_map, List.length_map] at this
    omega
  · obtain ⟨x, m1, m2⟩ := dup_split (D := ps.map keyP) fun z => n (nd.mpr z)
    have := pigeon _ ((ps.map keyP).erase x) S.nd fun y my => by
      by_cases e : y = x
      · rw [e]; exact m2
      · exact (List.mem_erase_of_ne e).mpr (subs y my)
    rw [List.length_erase_of_mem m1, List.length_map, List.length_map] at this
    have := List.length_pos_of_mem m1
    rw [List.length_map] at this
    omega
theorem cr_mixLen : CallR X (.builtin "len") (fun vs H Q => ∃ (a : Addr) (n : Nat), vs = [.ref a] ∧ H a = some (NSet a n) ∧ n < 1000 ∧ Q (.int (n : Int)) H) := by
  intro pins s σ H vs us Q I r h
  obtain ⟨a, n, rfl, ha, few, q⟩ := h
  obtain ⟨⟨o, es, ep, t, ho, hex, hd, rfl, fit⟩, _⟩ := I.hok a _ ha
  rw [Vals.ref1 r]
  exact call_len_set ho hex hd fit (by omega) ⟨.int _, H, I.tok _, ⟨_, rfl⟩, q⟩
end
end Moot
namespace Moot
open PySem PySem.Spec PyProof.Rows L2
def top (i : Nat) : Stmt := PySem.Challenge.pw_oathmoot_k53_histories_of_any_value.main.body.getD i (.Pass ⟨0, 0, 0, 0⟩)
/-! the box of drawn numbers -/
structure Box (H : Hp) (b g m : Addr) (n : Nat) : Prop where
  ex : ∃ (x k : Int) (gs ms : List Int), H b = some (.lst [.ref g, .int x, .ref m, .int k]) ∧ H g = some (.lst (gs.map V.int)) ∧ H m = some (.lst (ms.map V.int)) ∧ 0 ≤ k ∧ k ≤ n ∧ gs.length ≤ 63 ∧ ms.length ≤ 63
  bg : b ≠ g
  bm : b ≠ m
  gm : g ≠ m
/-- all but the box's own cells stays -/
def Keep (b g : Addr) (H H' : Hp) : Prop := ∀ c o, H c = some o → c ≠ b → c ≠ g → H' c = some o
theorem same_new {H : Hp} {p : Addr} {o : HO} (h : H p = none) : Same H (upd H p o) := fun b x e => by
  rw [upd_ne (ne_of_none e h)]
  exact e
theorem Keep.refl (b g : Addr) (H : Hp) : Keep b g H H := fun _ _ e _ _ => e
theorem Keep.trans {b g : Addr} {H H1 H2 : Hp} (k : Keep b g H H1) (l : Keep b g H1 H2) : Keep b g H H2 := fun c o e n1 n2 => l c o (k c o e n1 n2) n1 n2
theorem Same.keep {b g : Addr} {H H' : Hp} (s : Same H H') : Keep b g H H' := fun c o e _ _ => s c o e
theorem Box.same {H H' : Hp} {b g m : Addr} {n : Nat} (B : Box H b g m n) (s : Same H H') : Box H' b g m n := by
  obtain ⟨⟨x, k, gs, ms, h1, h2, h3, r⟩, n1, n2, n3⟩ := B
  exact ⟨⟨x, k, gs, ms, s _ _ h1, s _ _ h2, s _ _ h3, r⟩, n1, n2, n3⟩
theorem Box.more {H : Hp} {b g m : Addr} {n n' : Nat} (B : Box H b g m n) (h : n ≤ n') : Box H b g m n' := by
  obtain ⟨⟨x, k, gs, ms, h1, h2, h3, h4, h5, r⟩, n1, n2, n3⟩ := B
  exact ⟨⟨x, k, gs, ms, h1, h2, h3, h4, by omega, r⟩, n1, n2, n3⟩
/-- a store elsewhere -/
theorem Box.store {H : Hp} {b g m p : Addr} {n : Nat} {o : HO} (B : Box H b g m n) (p1 : p ≠ b) (p2 : p ≠ g) (p3 : p ≠ m) : Box (upd H p o) b g m n := by
  obtain ⟨⟨x, k, gs, ms, h1, h2, h3, r⟩, n1, n2, n3⟩ := B
  exact ⟨⟨x, k, gs, ms, by rw [upd_ne p1.symm]; exact h1, by rw [upd_ne p2.symm]; exact h2, by rw [upd_ne p3.symm]; exact h3, r⟩, n1, n2, n3⟩
theorem Box.b_in {H : Hp} {b g m : Addr} {n : Nat} (B : Box H b g m n) : ∃ o, H b = some o := let ⟨_, _, _, _, h, _⟩ := B.ex; ⟨_, h⟩
theorem Box.g_in {H : Hp} {b g m : Addr} {n : Nat} (B : Box H b g m n) : ∃ o, H g = some o := let ⟨_, _, _, _, _, h, _⟩ := B.ex; ⟨_, h⟩
theorem Box.m_in {H : Hp} {b g m : Addr} {n : Nat} (B : Box H b g m n) : ∃ o, H m = some o := let ⟨_, _, _, _, _, _, h, _⟩ := B.ex; ⟨_, h⟩
/-- an int at a place in bounds -/
theorem int_at (l : List Int) {i : Int} (h0 : 0 ≤ i) (h1 : i < l.length) : ∃ z : Int, atI (l.map V.int) i = some (.int z) := by
  obtain ⟨j, rfl⟩ := Int.eq_ofNat_of_zero_le h0
  have lt : j < l.length := by omega
  exact ⟨l[j], atI_nat (by rw [List.getElem?_map, List.getElem?_eq_getElem lt]; rfl)⟩
section
variable {P : Program} {w : World} {K : PySem.W.Frag} {mg : Str → Option Value} {base : Heap}
/-! _law_box -/
abbrev sBox : Stmt := top 59
abbrev nBox : List Str := ["_law_script", "_law_great", "_law_cell"]
theorem scBox : FnScope nBox ["_law_script"] (defScope sBox) := ⟨rfl, rfl, rfl, by decide +kernel, rfl, by decide +kernel, by decide +kernel⟩
def spBox (K : PySem.W.Frag) : Sp := fun vs H Q _ => ∃ (a : Addr) (ns : List Int), vs = [.ref a] ∧ SqL K H a (ns.map V.int) ∧ ns.length ≤ 63 ∧
  ∀ H' b g m, Same H H' → Box H' b g m 0 → Q (.ref b) H'
/-- some ints, no more than there were -/
def Ints (H : Hp) (p : Addr) (n : Nat) : Prop := ∃ ns : List Int, H p = some (.lst (ns.map V.int)) ∧ ns.length ≤ n
theorem ok_box {f : Addr} {fd : FuncData} {k : Nat} (F : Fun K "_law_box" "_law_box" sBox f fd) : FnOk P w K mg base CX0 (k + 1) f fd ["_law_script"] (spBox K) := by
  refine F.ok scBox (fun vs H Q E h => ?_) (fun cdv A outer s H vs Q E hr h => ?_)
  · obtain ⟨a, ns, rfl, _⟩ := h
    rfl
  · obtain ⟨a, ns, rfl, hS, len, q⟩ := h
    refine ⟨_, pss_cons (ps_setLc (i := 1) (own := [("_law_cell", 2)]) (g := gName 2) (by rfl) scBox.nd rfl rfl (sw_true rfl rfl rfl (by decide +kernel)) (pi_list (pv 0)) (blkOk_by (N := nBox) (sc := defScope sBox) (by decide +kernel))
        (fun _ _ _ _ _ => pg_name (i := 2) scBox.nd rfl (Or.inl rfl)) (fun _ _ _ _ _ => pts_one (pt_cmpR op_ge (pv 2) (pe_op op_pow pe_int pe_int) (nomark _))) (fun _ _ _ _ _ => pv 2))
      (pss_one (ps_ret (pe_lst (pa_cons (pv 1) (pa_cons pe_int (pa_cons
        (pe_lc (own := [("_law_cell", 2)]) (g := gName 2) (by rfl) scBox.nd (pi_list (pv 0)) (blkOk_by (N := nBox) (sc := defScope sBox) (by decide +kernel))
          (fun _ _ _ _ _ => pg_name (i := 2) scBox.nd rfl (Or.inl rfl)) (fun _ _ _ _ _ => pts_one (pt_cmpR op_lt (pv 2) (pe_op op_pow pe_int pe_int) (nomark _))) (fun _ _ _ _ _ => pv 2))
        (pa_cons pe_int pa_nil))))))), ?_⟩
    have item : ∀ (i : Nat) (x : V), (ns.map V.int)[i]? = some x → ∃ z, x = V.int z := fun i x e => by
      rw [List.getElem?_map] at e
      obtain ⟨z, _, rfl⟩ := Option.map_eq_some_iff.mp e
      exact ⟨z, rfl⟩
    have pow : CPow 10 18 := ⟨by decide, by decide, by decide⟩
    have small : ∀ {l : List Int} {i : Nat}, l.length ≤ i → i < ns.length → (l.map V.int).length < sizeLine := fun h1 h2 => by
      rw [List.length_map]
      exact small1000 (by omega)
    refine ⟨.ref a, rfl, a, rfl, ⟨_, hS⟩, fun D nD => lc_list (K := K) (a := a) (xs := ns.map V.int) (fun i H1 => Same H H1 ∧ ∃ gs : List Int, H1 D = some (.lst (gs.map V.int)) ∧ gs.length ≤ i) ?_ (fun i H1 _ h => Same.seq h.1 hS) ?_ ?_⟩
    · exact ⟨same_new nD, [], upd_same, Nat.le_refl _⟩
    · rintro i x H1 hx ⟨s1, gs, hD, hl⟩
      have hi : i < ns.length := by
        have := (List.getElem?_eq_some_iff.mp hx).1
        rwa [List.length_map] at this
      obtain ⟨z, rfl⟩ := item i x hx
      refine ⟨rfl, .int z, rfl, 10, 18, rfl, rfl, pow, _, _, rfl, rfl, _, rfl, ite2 (fun _ => ?_) (fun _ => ?_)⟩
      · refine ⟨.int z, rfl, _, hD, small hl hi, fun c o e => ?_, gs ++ [z], ?_, ?_⟩
        · rw [upd_ne (ne_of_none e nD)]
          exact s1 c o e
        · rw [upd_same, List.map_append]
          rfl
        · rw [List.length_append]
          exact Nat.succ_le_succ hl
      · exact ⟨s1, gs, hD, Nat.le_succ_of_le hl⟩
    · rintro H1 ⟨s1, gs, hD, hl⟩
      rw [List.length_map] at hl
      have hS1 : SqL K H1 a (ns.map V.int) := Same.seq s1 hS
      refine ⟨.ref D, rfl, .ref a, rfl, a, rfl, ⟨_, hS1⟩, fun D2 nD2 => lc_list (K := K) (a := a) (xs := ns.map V.int) (fun i H2 => Same H1 H2 ∧ ∃ ms : List Int, H2 D2 = some (.lst (ms.map V.int)) ∧ ms.length ≤ i) ?_ (fun i H2 _ h => Same.seq h.1 hS1) ?_ ?_⟩
      · exact ⟨same_new nD2, [], upd_same, Nat.le_refl _⟩
      · rintro i x H2 hx ⟨s2, ms, hD2, hl2⟩
        have hi : i < ns.length := by
          have := (List.getElem?_eq_some_iff.mp hx).1
          rwa [List.length_map] at this
        obtain ⟨z, rfl⟩ := item i x hx
        refine ⟨rfl, .int z, rfl, 10, 18, rfl, rfl, pow, _, _, rfl, rfl, _, rfl, ite2 (fun _ => ?_) (fun _ => ?_)⟩
        · refine ⟨.int z, rfl, _, hD2, small hl2 hi, fun c o e => ?_, ms ++ [z], ?_, ?_⟩
          · rw [upd_ne (ne_of_none e nD2)]
            exact s2 c o e
          · rw [upd_same, List.map_append]
            rfl
          · rw [List.length_append]
            exact Nat.succ_le_succ hl2
        · exact ⟨s2, ms, hD2, Nat.le_succ_of_le hl2⟩
      · rintro H2 ⟨s2, ms, hD2, hl2⟩
        rw [List.length_map] at hl2
        refine ⟨by show 4 ≤ sizeLine; decide, fun b nb => ?_⟩
        have nD' : H2 D = some (.lst (gs.map V.int)) := s2 _ _ hD
        have ne : D ≠ D2 := ne_of_none hD nD2
        have e1 : D ≠ b := ne_of_none nD' nb
        have e2 : D2 ≠ b := ne_of_none hD2 nb
        refine q _ b D D2 ((s1.trans s2).trans (same_new nb)) ⟨⟨0, 0, gs, ms, upd_same, ?_, ?_, Int.le_refl _, Int.le_refl _, by omega, by omega⟩, e1.symm, e2.symm, ne⟩
        · rw [upd_ne e1]
          exact nD'
        · rw [upd_ne e2]
          exact hD2
/-! _law_mixed -/
abbrev sMixed : Stmt := top 60
abbrev nMixed : List Str := ["_law_cell", "_law_k", "_law_whole"]
theorem scMixed : FnScope nMixed ["_law_cell", "_law_k"] (defScope sMixed) := ⟨rfl, rfl, rfl, by decide +kernel, rfl, by decide +kernel, by decide +kernel⟩
def spMixed : Sp := fun vs H Q _ => ∃ c k : Int, vs = [.int c, .int k] ∧ 0 ≤ k ∧ k ≤ 10000000 ∧ ∀ v : Int, Q (.int v) H
theorem ok_mixed {f : Addr} {fd : FuncData} {k : Nat} (F : Fun K "_law_mixed" "_law_mixed" sMixed f fd) : FnOk P w K mg base CX0 (k + 1) f fd ["_law_cell", "_law_k"] spMixed := by
  refine F.ok scMixed (fun vs H Q E h => ?_) (fun cdv A outer s H vs Q E hr h => ?_)
  · obtain ⟨c, k, rfl, _⟩ := h
    rfl
  · obtain ⟨c, k, rfl, k0, k1, q⟩ := h
    refine ⟨_, pss_cons (ps_set (i := 2) scMixed.nd rfl (Or.inl rfl) (pe_op op_mod (pe_op op_pow
        (pe_op op_add (pe_op op_add (pe_op op_add (pe_op op_mod (pv 0) pe_int) (pe_op op_mul (pe_op op_mul pe_int (pv 1)) (pv 1))) (pe_op op_mul pe_int (pv 1))) pe_int) pe_int) pe_int))
      (pss_one (ps_ret (pe_op op_mod (pe_op op_add (pe_op op_mul (pv 2) pe_int) (pe_op op_mul pe_int (pv 1))) pe_int))), ?_⟩
    have m0 : 0 ≤ c % 2147483647 := Int.emod_nonneg _ (by decide)
    have m1 : c % 2147483647 < 2147483647 := Int.emod_lt_of_pos _ (by decide)
    have sq : 0 ≤ k * k ∧ k * k ≤ 10000000 * 10000000 := ⟨Int.mul_nonneg k0 k0, Int.mul_le_mul k1 k1 k0 (by decide)⟩
    have e : 1009 * k * k = 1009 * (k * k) := Int.mul_assoc _ _ _
    have big : (c % 2147483647 + 1009 * k * k + 48611 * k + 17).natAbs < 2 ^ 64 := by
      rw [e]
      omega
    refine ⟨_, rfl, _, _, rfl, rfl, (by show (0 : Int) < 2147483647; decide), _, rfl, _, _, rfl, rfl, .inl ⟨by decide, by decide⟩, _, rfl, _, _, rfl, rfl, .inr ⟨by omega, by omega⟩, _, _, rfl, rfl, _, rfl, _, _, rfl, rfl, .inl ⟨by decide, by decide⟩, _, _, rfl, rfl, _, _, rfl, rfl,
      _, _, rfl, rfl, ⟨by decide, by decide, big⟩, _, _, rfl, rfl, (by show (0 : Int) < 2147483647; decide), ?_⟩
    refine ⟨_, rfl, _, _, rfl, rfl, .inr ⟨by decide, by decide⟩, _, rfl, _, _, rfl, rfl, .inl ⟨by decide, by decide⟩, _, _, rfl, rfl, _, _, rfl, rfl, (by show (0 : Int) < 1000000007; decide), ?_⟩
    exact q _
/-! _law_take -/
abbrev sTake : Stmt := top 61
abbrev nTake : List Str := ["_law_box_here", "_law_size", "_law_found", "_law_cell", "_law_reach"]
theorem scTake : FnScope nTake ["_law_box_here", "_law_size"] (defScope sTake) := ⟨rfl, rfl, rfl, by decide +kernel, rfl, by decide +kernel, by decide +kernel⟩
/-- a drawn number below size; the box is a box again -/
def spTake : Sp := fun vs H Q _ => ∃ (b g m : Addr) (n : Nat) (size : Int), vs = [.ref b, .int size] ∧ Box H b g m n ∧ n ≤ 1000000 ∧ 1 ≤ size ∧ size ≤ 1000 ∧
  ∀ (v : Int) (H' : Hp), 0 ≤ v → v < size → Box H' b g m (n + 1) → Keep b g H H' → Q (.int v) H'
theorem ok_take {f fM : Addr} {fd fdM : FuncData} {k : Nat} (F : Fun K "_law_take" "_law_take" sTake f fd) (FM : Fun K "_law_mixed" "_law_mixed" sMixed fM fdM) (bM : Binds K fdM ["_law_cell", "_law_k"] []) (gM : mg "_law_mixed" = some (.ref fM))
    (ml : mg "len" = none) (mx : mg "max" = none) : FnOk P w K mg base CX0 (k + 2) f fd ["_law_box_here", "_law_size"] spTake := by
  have GM : FnOk P w K mg base CX0 (k + 1) fM fdM ["_law_cell", "_law_k"] spMixed := ok_mixed FM
  refine F.ok scTake (fun vs H Q E h => ?_) (fun cdv A outer s H vs Q E hr h => ?_)
  · obtain ⟨b, g, m, n, size, rfl, _⟩ := h
    rfl
  · obtain ⟨b, g, m, n, size, rfl, B, hn, s1, s2, q⟩ := h
    refine ⟨_, pss_cons (ps_asg (pe_op op_add (pe_ix ix_list (pv 0) pe_int (fun _ _ => rfl)) pe_int) (pg_sub (pv 0) pe_int L2.set_list))
      (C8.pss_cut (ps_if (PW.pt (pw_and (pt_cmpR op_eq (pe_ix ix_list (pv 0) pe_int (fun _ _ => rfl)) pe_int (nomark _))
          (pw_and1 (pt_cmpR op_gt (pe_callB call_len_seq (by rfl) ml PySem.boot_len (pa_cons (pe_ix ix_list (pv 0) pe_int (fun _ _ => rfl)) pa_nil)) pe_int (nomark _)))))
        (pss_one (ps_asg (pe_bm PySem.F.plainAttrs_list PySem.F.slot_list_pop PySem.F.type_list_pop mt_popAt (pe_ix ix_list (pv 0) pe_int (fun _ _ => rfl)) (pa_cons pe_int pa_nil)) (pg_sub (pv 0) pe_int L2.set_list))) pss_nil)
      (pss_cons (ps_if (pt_cmpR op_gt (pe_ix ix_list (pv 0) pe_int (fun _ _ => rfl)) pe_int (nomark _))
        (pss_cons (ps_set (i := 2) scTake.nd rfl (Or.inl rfl) (pe_op op_mod (pe_ix ix_list (pv 0) pe_int (fun _ _ => rfl)) (pv 1)))
        (pss_cons (ps_asg (pe_op op_fdiv (pe_ix ix_list (pv 0) pe_int (fun _ _ => rfl)) (pv 1)) (pg_sub (pv 0) pe_int L2.set_list))
        (pss_one (ps_ret (pv 2))))) pss_nil)
      (pss_cons (ps_set (i := 3) scTake.nd rfl (Or.inl rfl) (pe_ix ix_list (pe_op op_cat (pe_ix ix_list (pv 0) pe_int (fun _ _ => rfl)) (pe_lst (pa_cons (pe_op op_mul pe_int (pe_ix ix_list (pv 0) pe_int (fun _ _ => rfl))) pa_nil)))
          (pe_op op_mod (pe_ix ix_list (pv 0) pe_int (fun _ _ => rfl)) (pe_callB (call_max2 rfl) (by rfl) mx (by decide +kernel) (pa_cons pe_int (pa_cons (pe_callB call_len_seq (by rfl) ml PySem.boot_len (pa_cons (pe_ix ix_list (pv 0) pe_int (fun _ _ => rfl)) pa_nil)) pa_nil)))) (fun _ _ => rfl)))
      (pss_cons (ps_set (i := 2) scTake.nd rfl (Or.inl rfl) pe_int)
      (pss_cons (ps_set (i := 4) scTake.nd rfl (Or.inl rfl) pe_int)
      (pss_cons (ps_while PassesOwn.never (pt_cmpR op_lt (pv 4) (pv 1) (nomark _))
        (pss_cons (ps_set (i := 2) scTake.nd rfl (Or.inl rfl) (pe_op op_add (pe_op op_mul (pv 2) pe_int) (pe_call GM hr (by rfl) gM FM.kp bM .nil pass0 (pa_cons (pv 3) (pa_cons (pe_op op_add (pe_ix ix_list (pv 0) pe_int (fun _ _ => rfl)) (pe_op op_mul pe_int (pe_op op_mod (pv 2) pe_int))) pa_nil)))))
        (pss_one (ps_set (i := 4) scTake.nd rfl (Or.inl rfl) (pe_op op_mul (pv 4) pe_int)))))
      (pss_one (ps_ret (pe_op op_mod (pv 2) (pv 1)))))))))), ?_⟩
    obtain ⟨⟨x, c, gs, ms, hb, hg, hm, c0, c1, gl, mlen⟩, bg, bm, gm⟩ := id B
    -- box[3] = box[3] + 1
    refine ⟨.ref b, rfl, b, _, 3, .int c, rfl, rfl, SqL.of hb, rfl, _, _, rfl, rfl, .ref b, rfl, b, _, 3, 3, rfl, rfl, hb, rfl, ?_⟩
    -- the word between
    refine ⟨fun σ H1 => σ = [some (.ref b), some (.int size), none, none, none] ∧ ∃ (x1 : Int) (gs1 : List Int), H1 b = some (.lst [.ref g, .int x1, .ref m, .int (c + 1)]) ∧ H1 g = some (.lst (gs1.map V.int)) ∧ gs1.length ≤ 63 ∧ Keep b g H H1, ?_, ?_⟩
    · have hb1 : (upd H b (.lst [.ref g, .int x, .ref m, .int (c + 1)])) b = some (.lst [.ref g, .int x, .ref m, .int (c + 1)]) := upd_same
      have hg1 : (upd H b (.lst [.ref g, .int x, .ref m, .int (c + 1)])) g = some (.lst (gs.map V.int)) := by rw [upd_ne bg.symm]; exact hg
      have kp1 : Keep b g H (upd H b (.lst [.ref g, .int x, .ref m, .int (c + 1)])) := fun d o e n1 _ => by rw [upd_ne n1]; exact e
      refine ⟨.ref b, rfl, b, _, 1, .int x, rfl, rfl, SqL.of hb1, rfl, rfl, _, rfl, ?_⟩
      refine ite2 (fun _ => ?_) (fun _ => ?_)
      · refine ⟨.ref b, rfl, b, _, 0, .ref g, rfl, rfl, SqL.of hb1, rfl, g, _, rfl, .inl (SqL.of hg1), _, _, rfl, rfl, _, rfl, ite2 (fun e => ?_) (fun _ => ?_)⟩
        · have pos := of_decide_eq_true e
          rw [List.length_map] at pos
          obtain ⟨z, r, rfl⟩ : ∃ z r, gs = z :: r := by
            cases gs with
            | nil => simp at pos
            | cons z r => exact ⟨z, r, rfl⟩
          refine ⟨.ref b, rfl, b, _, 0, .ref g, rfl, rfl, SqL.of hb1, rfl, .inl ⟨rfl, _, SqL.of hg1⟩, g, _, 0, 0, .int z, rfl, rfl, hg1, by decide, by decide, ?_, rfl, ?_⟩
          · simp [seqIndex?]
          · refine ⟨.ref b, rfl, b, [.ref g, .int x, .ref m, .int (c + 1)], 1, 1, rfl, rfl, by rw [upd_ne bg]; exact hb1, rfl, rfl, z, r, upd_same, ?_, ?_, ?_⟩
            · rw [upd_ne bg.symm, upd_same]
              rfl
            · simp at gl
              omega
            · intro d o e n1 n2
              rw [upd_ne n1, upd_ne n2]
              exact kp1 d o e n1 n2
        · exact ⟨rfl, x, gs, hb1, hg1, gl, kp1⟩
      · exact ⟨rfl, x, gs, hb1, hg1, gl, kp1⟩
    · rintro σ H1 ⟨rfl, x1, gs1, hb1, hg1, gl1, kp1⟩
      have hm1 : H1 m = some (.lst (ms.map V.int)) := kp1 _ _ hm bm.symm gm.symm
      -- if box[1] > 0
      refine ⟨.ref b, rfl, b, _, 1, .int x1, rfl, rfl, SqL.of hb1, rfl, _, _, rfl, rfl, _, rfl, ite2 (fun _ => ?_) (fun _ => ?_)⟩
      · refine ⟨.ref b, rfl, b, _, 1, .int x1, rfl, rfl, SqL.of hb1, rfl, .int size, rfl, _, _, rfl, rfl, (by show 0 < size; omega), ?_⟩
        refine ⟨.ref b, rfl, b, _, 1, .int x1, rfl, rfl, SqL.of hb1, rfl, .int size, rfl, _, _, rfl, rfl, ⟨by omega, by omega⟩, .ref b, rfl, b, _, 1, 1, rfl, rfl, hb1, rfl, ?_⟩
        refine ⟨.int (x1 % size), rfl, q _ _ (Int.emod_nonneg _ (by omega)) (Int.emod_lt_of_pos _ (by omega)) ⟨⟨x1 / size, c + 1, gs1, ms, upd_same, ?_, ?_, by omega, by omega, gl1, mlen⟩, bg, bm, gm⟩ ?_⟩
        · rw [upd_ne bg.symm]
          exact hg1
        · rw [upd_ne bm.symm]
          exact hm1
        · intro d o e n1 n2
          rw [upd_ne n1]
          exact kp1 d o e n1 n2
      · -- the cell
        have mx0 : (0 : Int) < (if ((ms.map V.int).length : Int) > 1 then ((ms.map V.int).length : Int) else 1) := by
          split <;> omega
        refine ⟨.ref b, rfl, b, _, 2, .ref m, rfl, rfl, SqL.of hb1, rfl, .ref b, rfl, b, _, 3, .int (c + 1), rfl, rfl, SqL.of hb1, rfl, _, _, rfl, rfl, .inl ⟨by decide, by decide⟩, by show 1 ≤ sizeLine; decide, fun l1 nl1 => ?_⟩
        have ne1 : m ≠ l1 := ne_of_none hm1 nl1
        refine ⟨m, l1, ms.map V.int, [.int (7 * (c + 1))], rfl, rfl, by rw [upd_ne ne1]; exact hm1, upd_same, ?_, fun l2 nl2 => ?_⟩
        · rw [List.length_map]
          have : (63 : Nat) + 1 ≤ sizeLine := by decide
          show ms.length + 1 ≤ sizeLine
          omega
        have hb2 : upd (upd H1 l1 (.lst [.int (7 * (c + 1))])) l2 (.lst (ms.map V.int ++ [.int (7 * (c + 1))])) b = some (.lst [.ref g, .int x1, .ref m, .int (c + 1)]) := by
          rw [upd_ne (ne_of_none (by rw [upd_ne (ne_of_none hb1 nl1)]; exact hb1) nl2), upd_ne (ne_of_none hb1 nl1)]
          exact hb1
        have s2' : Same H1 (upd (upd H1 l1 (.lst [.int (7 * (c + 1))])) l2 (.lst (ms.map V.int ++ [.int (7 * (c + 1))]))) := (same_new nl1).trans (same_new nl2)
        have at2 : upd (upd H1 l1 (.lst [.int (7 * (c + 1))])) l2 (.lst (ms.map V.int ++ [.int (7 * (c + 1))])) l2 = some (.lst (ms.map V.int ++ [.int (7 * (c + 1))])) := upd_same
        generalize upd (upd H1 l1 (.lst [.int (7 * (c + 1))])) l2 (.lst (ms.map V.int ++ [.int (7 * (c + 1))])) = H2 at hb2 s2' at2
        have hm2 := s2' _ _ hm1
        have idx : ∃ z : Int, atI (ms.map V.int ++ [V.int (7 * (c + 1))]) ((c + 1) % (if ((ms.map V.int).length : Int) > 1 then ((ms.map V.int).length : Int) else 1)) = some (.int z) := by
          have e : ms.map V.int ++ [V.int (7 * (c + 1))] = (ms ++ [7 * (c + 1)]).map V.int := by rw [List.map_append]; rfl
          rw [e]
          refine int_at _ (Int.emod_nonneg _ (by omega)) ?_
          refine Int.lt_of_lt_of_le (Int.emod_lt_of_pos (c + 1) mx0) ?_
          rw [List.length_map, List.length_append, List.length_singleton]
          split <;> omega
        obtain ⟨z, idx⟩ := idx
        refine ⟨.ref b, rfl, b, _, 3, .int (c + 1), rfl, rfl, SqL.of hb2, rfl, .ref b, rfl, b, _, 2, .ref m, rfl, rfl, SqL.of hb2, rfl, m, _, rfl, .inl (SqL.of hm2), _, _, rfl, _, _, rfl, rfl, mx0, l2, _, _, .int z, rfl, rfl, SqL.of at2, idx, ?_⟩
        -- the loop
        refine while_by (fun σ H3 => H3 = H2 ∧ ∃ fo re : Int, σ = [some (.ref b), some (.int size), some (.int fo), some (.int z), some (.int re)] ∧ (re = 1 ∧ fo = 0 ∨ re = 1000000007))
          (fun (σ : L2.St) _ => match σ[4]? with | some (some (V.int r)) => if r = 1 then 1 else 0 | _ => 0) ⟨rfl, 0, 1, rfl, .inl ⟨rfl, rfl⟩⟩ ?_
          (fun σ H Q Q' hq ⟨v, e, v', e', i, j, e1, e2, b, eb, h⟩ => ⟨v, e, v', e', i, j, e1, e2, b, eb, hq _ _ h⟩)
        rintro σ H3 ⟨rfl, fo, re, rfl, hre⟩
        refine ⟨.int re, rfl, .int size, rfl, _, _, rfl, rfl, _, rfl, ite2 (fun e => ?_) (fun _ => ?_)⟩
        · have lt : re < size := of_decide_eq_true e
          obtain ⟨rfl, rfl⟩ : re = 1 ∧ fo = 0 := by
            rcases hre with h | h
            · exact h
            · omega
          refine ⟨.int 0, rfl, _, _, rfl, rfl, .inl ⟨by decide, by decide⟩, .int z, rfl, .ref b, rfl, b, _, 3, .int (c + 1), rfl, rfl, SqL.of hb2, rfl, .int 0, rfl, _, _, rfl, rfl, (by show (0 : Int) < 89; decide), _, _, rfl, rfl, .inl ⟨by decide, by decide⟩, _, _, rfl, rfl, z, _, rfl, ?_, ?_, fun v => ?_⟩
          · show 0 ≤ c + 1 + 1000 * (0 % 89)
            omega
          · show c + 1 + 1000 * (0 % 89) ≤ 10000000
            omega
          · refine ⟨_, _, rfl, rfl, .int 1, rfl, _, _, rfl, rfl, .inl ⟨by decide, by decide⟩, ⟨rfl, _, 1 * 1000000007, rfl, .inr rfl⟩, ?_⟩
            show (if (1 * 1000000007 : Int) = 1 then 1 else 0) < (if (1 : Int) = 1 then 1 else 0)
            decide
        · refine ⟨.int fo, rfl, .int size, rfl, _, _, rfl, rfl, (by show 0 < size; omega), q _ _ (Int.emod_nonneg _ (by omega)) (Int.emod_lt_of_pos _ (by omega)) ⟨⟨x1, c + 1, gs1, ms, hb2, s2' _ _ hg1, hm2, by omega, by omega, gl1, mlen⟩, bg, bm, gm⟩ ?_⟩
          exact kp1.trans (Same.keep s2')
end
end Moot
namespace Moot
open PySem PySem.Spec PyProof.Rows L2
/-! texts of one sign -/
def sg (c : Nat) : Str := ⟨#[c]⟩
theorem sg_inj {c d : Nat} (h : sg c = sg d) : c = d := by
  have := congrArg (fun s : Str => s.cps.toList) h
  simpa [sg] using this
theorem glue_one : ∀ (cs : List Nat) (acc : Array Nat), (cs.map sg).foldl (fun a p => a ++ Str.empty.cps ++ p.cps) acc = acc ++ cs.toArray
  | [], acc => by simp
  | c :: cs, acc => by
    rw [List.map_cons, List.foldl_cons, glue_one cs]
    simp [Str.empty, sg]
theorem join_signs (cs : List Nat) : Txt.join Str.empty (cs.map sg) = ⟨cs.toArray⟩ := by
  unfold Txt.join Builtin.Str.glued
  cases cs with
  | nil => rfl
  | cons c cs =>
    show (⟨(cs.map sg).foldl _ (sg c).cps⟩ : Str) = _
    rw [glue_one]
    simp [sg]
/-- a name: one to eight letters -/
structure Nm (x : Str) : Prop where
  lo : 1 ≤ x.cps.size
  hi : x.cps.size ≤ 8
  low : ∀ c ∈ x.cps.toList, 97 ≤ c ∧ c ≤ 122
theorem Nm.ok {x : Str} (h : Nm x) : PyData.strOk x = true := by
  unfold PyData.strOk
  rw [Array.all_eq_true]
  intro i hi
  have := h.low x.cps[i] (by simp)
  simp
  omega
abbrev abc : Str := "abcdefghijklmnopqrstuvwxyz"
theorem abc_list : abc.cps.toList = (List.range 26).map (· + 97) := by decide +kernel
theorem abc_size : abc.cps.size = 26 := by decide +kernel
theorem abc_at {i : Nat} (h : i < 26) : abc.cps.toList[i]? = some (i + 97) := by
  rw [abc_list, List.getElem?_map, List.getElem?_range h]
  rfl
theorem sg_nm {c : Nat} (h : c < 26) : Nm (sg (c + 97)) := ⟨by simp [sg], by simp [sg], fun d m => by
  have : d = c + 97 := by simpa [sg] using m
  omega⟩
theorem nm_of {cs : List Nat} (h1 : 1 ≤ cs.length) (h2 : cs.length ≤ 8) (h : ∀ c ∈ cs, 97 ≤ c ∧ c ≤ 122) : Nm ⟨cs.toArray⟩ := ⟨by simpa using h1, by simpa using h2, fun c m => h c (by simpa using m)⟩
theorem inV_str (z : Str) (xs : List Str) : inV (.str z) (xs.map V.str) = decide (z ∈ xs) := by
  unfold inV
  rw [List.any_map]
  rw [Bool.eq_iff_iff, List.any_eq_true, decide_eq_true_eq]
  constructor
  · rintro ⟨y, m, e⟩
    have : y = z := by simpa [eqV] using e
    exact this ▸ m
  · intro m
    exact ⟨z, m, by simp [eqV]⟩
theorem flats (xs : List Str) : (xs.map V.str).all flatV = true := by
  rw [List.all_map]
  exact List.all_eq_true.mpr fun _ _ => rfl
/-- some letter is not among fewer than 26 names -/
theorem letter_left (xs : List Str) (h : xs.length < 26) : ∃ c, c < 26 ∧ sg (c + 97) ∉ xs := by
  rcases Classical.em (∃ c, c < 26 ∧ sg (c + 97) ∉ xs) with h' | h'
  · exact h'
  · exfalso
    have all : ∀ y ∈ (List.range 26).map (fun c => sg (c + 97)), y ∈ xs := fun y m => by
      obtain ⟨c, hc, rfl⟩ := List.mem_map.mp m
      rcases Classical.em (sg (c + 97) ∈ xs) with k | k
      · exact k
      · exact absurd ⟨c, List.mem_range.mp hc, k⟩ h'
    have nd : ((List.range 26).map (fun c => sg (c + 97))).Nodup := by
      refine List.Pairwise.map _ (fun a b n e => n ?_) (List.nodup_range (n := 26))
      have := sg_inj e
      omega
    have : ∀ (l D : List Str), l.Nodup → (∀ y ∈ l, y ∈ D) → l.length ≤ D.length := by
      intro l
      induction l with
      | nil => intros; exact Nat.zero_le _
      | cons y l ih =>
        intro D n s
        obtain ⟨n1, n2⟩ := List.nodup_cons.mp n
        have my := s y List.mem_cons_self
        have := ih (D.erase y) n2 fun z mz => (List.mem_erase_of_ne fun (e : z = y) => n1 (e ▸ mz)).mpr (s z (List.mem_cons_of_mem _ mz))
        have e := List.length_erase_of_mem my
        have := List.length_pos_of_mem my
        rw [List.length_cons]
        omega
    have := this _ xs nd all
    rw [List.length_map, List.length_range] at this
    omega
theorem Box.ne {H : Hp} {b g m p : Addr} {n : Nat} (B : Box H b g m n) (h : H p = none) : p ≠ b ∧ p ≠ g ∧ p ≠ m := by
  obtain ⟨o1, h1⟩ := B.b_in
  obtain ⟨o2, h2⟩ := B.g_in
  obtain ⟨o3, h3⟩ := B.m_in
  exact ⟨(ne_of_none h1 h).symm, (ne_of_none h2 h).symm, (ne_of_none h3 h).symm⟩
theorem Keep.free {b g p : Addr} {H H' : Hp} (k : Keep b g H H') (p1 : p ≠ b) (p2 : p ≠ g) (h : H' p = none) : H p = none := by
  cases e : H p with
  | none => rfl
  | some o =>
    rw [k p o e p1 p2] at h
    cases h
theorem one_two_eight {v : Int} (h0 : 0 ≤ v) (h1 : v < 3) : ∃ s : Int, atI [V.int 1, V.int 2, V.int 8] v = some (.int s) ∧ 1 ≤ s ∧ s ≤ 8 := by
  have c : v = 0 ∨ v = 1 ∨ v = 2 := by omega
  rcases c with rfl | rfl | rfl
  · exact ⟨1, rfl, by decide, by decide⟩
  · exact ⟨2, rfl, by decide, by decide⟩
  · exact ⟨8, rfl, by decide, by decide⟩
theorem erase_map {α β : Type} (f : α → β) : ∀ (l : List α) (k : Nat), (l.map f).eraseIdx k = (l.eraseIdx k).map f
  | [], _ => rfl
  | _ :: _, 0 => rfl
  | x :: l, k + 1 => by
    show f x :: (l.map f).eraseIdx k = f x :: (l.eraseIdx k).map f
    rw [erase_map f l k]
theorem seq_at {n : Nat} {v : Int} (h0 : 0 ≤ v) (h1 : v < n) : seqIndex? v n = some v.toNat := by
  have e : ixN n v = some v.toNat := by
    unfold ixN
    rw [if_pos h0, if_pos (by omega)]
  exact (ixN_seq e).1
section
variable {P : Program} {w : World} {K : PySem.W.Frag} {mg : Str → Option Value} {base : Heap}
/-! _law_names -/
abbrev sNames : Stmt := top 62
abbrev nNames : List Str := ["_law_box_here", "_law_many", "_law_letters", "_law_found", "_law_k", "_law_size", "_law_name", "_law_j", "_law_one"]
theorem scNames : FnScope nNames ["_law_box_here", "_law_many"] (defScope sNames) := ⟨rfl, rfl, rfl, by decide +kernel, rfl, by decide +kernel, by decide +kernel⟩
/-- that many names, none twice, each with a token -/
def spNames : Sp := fun vs H Q _ => ∃ (b g m : Addr) (n : Nat) (many : Nat), vs = [.ref b, .int many] ∧ Box H b g m n ∧ n ≤ 900000 ∧ many ≤ 8 ∧
  ∀ (p : Addr) (xs : List Str) (H' : Hp), H p = none → GLs H' p (xs.map V.str) → xs.length = many → xs.Nodup → (∀ x ∈ xs, Nm x) → Box H' b g m (n + 100) → Keep b g H H' → Q (.ref p) H'
theorem ok_names {f fT : Addr} {fd fdT : FuncData} {k : Nat} (F : Fun K "_law_names" "_law_names" sNames f fd) (FT : Fun K "_law_take" "_law_take" sTake fT fdT) (bT : Binds K fdT ["_law_box_here", "_law_size"] []) (gT : mg "_law_take" = some (.ref fT))
    (GT : FnOk P w K mg base CX0 k fT fdT ["_law_box_here", "_law_size"] spTake) (mr : mg "range" = none) : FnOk P w K mg base CX0 (k + 1) f fd ["_law_box_here", "_law_many"] spNames := by
  refine F.ok scNames (fun vs H Q E h => ?_) (fun cdv A outer s H vs Q E hr h => ?_)
  · obtain ⟨b, g, m, n, many, rfl, _⟩ := h
    rfl
  · obtain ⟨b, g, m, n, many, rfl, B, hn, hmany, q⟩ := h
    refine ⟨_, pss_cons (ps_set (i := 2) scNames.nd rfl (Or.inr rfl) pe_str)
      (pss_cons (ps_set (i := 3) scNames.nd rfl (Or.inr rfl) (pe_lst pa_nil))
      (pss_known (pss_cons (ps_for PassesOwn.never rfl (pi_range1 rfl mr (pa_cons (pv 1) pa_nil)) (pg_name (i := 4) scNames.nd rfl (Or.inl rfl))
        (pss_cons (ps_set (i := 5) scNames.nd rfl (Or.inl rfl) (pe_op op_add pe_int (pe_call GT hr (by rfl) gT FT.kp bT .nil pass0 (pa_cons (pv 0) (pa_cons (pe_ix ix_list (pe_lst (pa_cons pe_int (pa_cons pe_int (pa_cons pe_int pa_nil)))) (pe_call GT hr (by rfl) gT FT.kp bT .nil pass0 (pa_cons (pv 0) (pa_cons pe_int pa_nil))) (fun _ _ => rfl)) pa_nil)))))
        (pss_joinPut (i := 6) (jf := 3) scNames.nd rfl rfl rfl (.inr (.inl rfl))
          (pek_lcG (own := [("_law_j", 7)]) (tv := tvOf (gName 7) _ [7]) (by rfl) scNames.nd (pig_of (pi_range1 rfl mr (pa_cons (pv 5) pa_nil))) (blkOk_by (N := nNames) (sc := defScope sNames) (by decide +kernel))
            (fun _ _ _ _ _ => turn_of rfl (pg_name (i := 7) scNames.nd rfl (Or.inl rfl)) (pek_ixStr (pv 2) (pe_call GT hr (by rfl) gT FT.kp bT .nil pass0 (pa_cons (pv 0) (pa_cons pe_int pa_nil))) (fun _ _ => rfl))))
          (pek_lcG (own := [("_law_one", 8)]) (tv := tvNotIn K 8 3) (by rfl) scNames.nd (pig_str (pv 2)) (blkOk_by (N := nNames) (sc := defScope sNames) (by decide +kernel))
            (fun _ _ _ _ _ => turn_notin scNames.nd rfl rfl rfl (by first | exact .inl rfl | exact .inr (.inl rfl) | exact .inr (.inr rfl)))))))
      (pss_one (ps_ret (pv 3)))))), ?_⟩
    refine ⟨Nat.zero_le _, fun p np => ⟨p, upd_same, fun o u e => ?_, fun o0 g0 => ?_⟩⟩
    · have e : H p = some (.frz o u) := e
      rw [np] at e
      cases e
    rw [upd_upd]
    obtain ⟨pb, pg, pm⟩ := B.ne np
    have nf : ∀ o u, H p ≠ some (.frz o u) := fun o u e => by
      rw [np] at e
      cases e
    refine ⟨.int many, rfl, many, rfl, by omega, by omega, for_range (lo := 0) (n := (many : Int).toNat) (fun i σ H1 => ∃ (xs : List Str) (y4 y5 y6 y7 y8 : Option V), σ = [some (.ref b), some (.int many), some (.str abc), some (.ref p), y4, y5, y6, y7, y8] ∧
      Box H1 b g m (n + 12 * i) ∧ Keep b g H H1 ∧ GLs H1 p (xs.map V.str) ∧ xs.length = i ∧ xs.Nodup ∧ ∀ x ∈ xs, Nm x) ?_ ?_ ?_⟩
    · exact ⟨[], none, none, none, none, none, rfl, B.store pb pg pm, Same.keep (same_new np), ⟨o0, g0, upd_same⟩, rfl, List.nodup_nil, fun x m => by simp at m⟩
    · rintro i σ H1 hi ⟨xs, y4, y5, y6, y7, y8, rfl, B1, K1, h1, len, nd, nm⟩
      have hi8 : i < 8 := by omega
      -- the size
      refine ⟨.ref b, rfl, by show 3 ≤ sizeLine; decide, fun l1 nl1 => ?_⟩
      have B1' := B1.same (same_new (o := .lst [.int 1, .int 2, .int 8]) nl1)
      obtain ⟨lb, lg, lm⟩ := B1.ne nl1
      refine ⟨.ref b, rfl, b, g, m, _, 3, rfl, B1', by omega, by decide, by decide, fun v1 H2 v0 v3 B2 K2 => ?_⟩
      have hl2 : H2 l1 = some (.lst [.int 1, .int 2, .int 8]) := K2 _ _ upd_same lb lg
      obtain ⟨sz, at1, sz1, sz8⟩ := one_two_eight v0 v3
      refine ⟨l1, _, v1, .int sz, rfl, rfl, SqL.of hl2, at1, b, g, m, _, sz, rfl, B2, by omega, sz1, by omega, fun v2 H3 v20 v2s B3 K3 => ?_⟩
      have K13 : Keep b g H1 H3 := ((Same.keep (same_new nl1)).trans K2).trans K3
      refine ⟨_, _, rfl, rfl, ?_⟩
      -- the name
      refine ⟨.int (1 + v2), rfl, 1 + v2, rfl, by omega, by omega, fun D nD oD gD => ?_⟩
      obtain ⟨Db, Dg, Dm⟩ := B3.ne nD
      have abcAt : ∀ v : Int, 0 ≤ v → v < 26 → atI abc.cps.toList v = some (v.toNat + 97) := fun v a0 a1 => by
        obtain ⟨j, rfl⟩ := Int.eq_ofNat_of_zero_le a0
        exact atI_nat (abc_at (by omega))
      refine lcG_range (lo := 0) (n := (1 + v2).toNat) (fun j H4 => Box H4 b g m (n + 12 * i + 2 + j) ∧ Keep b g H3 H4 ∧ ∃ cs : List Nat, GLs H4 D ((cs.map sg).map V.str) ∧ cs.length = j ∧ ∀ c ∈ cs, 97 ≤ c ∧ c ≤ 122) ?_ ?_ ?_
      · exact ⟨B3.store Db Dg Dm, Same.keep (same_new nD), [], ⟨oD, gD, upd_same⟩, rfl, fun c m => by simp at m⟩
      · rintro j H4 hj ⟨B4, K4, cs, ⟨oc, gc, hD⟩, lcs, low⟩
        refine ⟨rfl, .str abc, rfl, .ref b, rfl, b, g, m, _, 26, rfl, B4, by omega, by decide, by decide, fun v H5 a0 a1 B5 K5 => ?_⟩
        refine ⟨abc, v, v.toNat + 97, rfl, rfl, by show abc.cps.size ≤ sizeLine; rw [abc_size]; decide, abcAt v a0 a1, _, ⟨oc, gc, K5 _ _ hD Db Dg⟩, ?_, fun o' g' => ?_⟩
        · rw [List.length_map, List.length_map]
          exact small1000 (by omega)
        · have e' : (cs.map sg).map V.str ++ [V.str ⟨#[v.toNat + 97]⟩] = ((cs ++ [v.toNat + 97]).map sg).map V.str := by
            rw [List.map_append, List.map_append]
            rfl
          refine ⟨(B5.store Db Dg Dm).more (by omega), fun d o e n1 n2 => ?_, cs ++ [v.toNat + 97], ⟨o', ?_, ?_⟩, ?_, ?_⟩
          · rw [upd_ne (ne_of_none e nD)]
            exact K5 _ _ (K4 _ _ e n1 n2) n1 n2
          · rw [← e']
            exact g'
          · rw [upd_same, e']
          · rw [List.length_append, lcs]
            rfl
          · intro c mc
            rcases List.mem_append.mp mc with mc | mc
            · exact low c mc
            · have := List.mem_singleton.mp mc
              omega
      · rintro H4 ⟨B4, K4, cs, gcs, lcs, low⟩
        have K14 : Keep b g H1 H4 := K13.trans K4
        obtain ⟨op, gp, hp1⟩ := h1
        have hp4 : GLs H4 p (xs.map V.str) := ⟨op, gp, K14 _ _ hp1 pb pg⟩
        have lc8 : cs.length ≤ 8 := by omega
        have lc1 : 1 ≤ cs.length := by omega
        refine ⟨D, cs.map sg, rfl, gcs, ?_, ?_⟩
        · have : ((cs.map sg).map (·.length)).sum = cs.length := by
            clear lcs low gcs lc8 lc1
            induction cs with
            | nil => rfl
            | cons c cs ih =>
              rw [List.map_cons, List.map_cons, List.sum_cons, ih, List.length_cons]
              show 1 + cs.length = _
              omega
          rw [this]
          show cs.length + _ * 0 ≤ _
          omega
        rw [join_signs]
        have nmN : Nm ⟨cs.toArray⟩ := nm_of lc1 lc8 low
        generalize (⟨cs.toArray⟩ : Str) = name at nmN ⊢
        have put : ∀ (z : Str) (H5 : Hp) (o' : Obj), Nm z → z ∉ xs → Same H4 H5 → GdL o' (xs.map V.str ++ [.str z]) → Box (upd H5 p (.frz o' (.lst (xs.map V.str ++ [.str z])))) b g m (n + 12 * (i + 1)) ∧ Keep b g H (upd H5 p (.frz o' (.lst (xs.map V.str ++ [.str z])))) ∧
            GLs (upd H5 p (.frz o' (.lst (xs.map V.str ++ [.str z])))) p ((xs ++ [z]).map V.str) ∧ (xs ++ [z]).length = i + 1 ∧ (xs ++ [z]).Nodup ∧ ∀ x ∈ xs ++ [z], Nm x := fun z H5 o' nz out s5 g' => by
          have e' : xs.map V.str ++ [V.str z] = (xs ++ [z]).map V.str := by
            rw [List.map_append]
            rfl
          refine ⟨((B4.same s5).store pb pg pm).more (by omega), ?_, ⟨o', ?_, ?_⟩, ?_, ?_, ?_⟩
          · intro d o e n1 n2
            rw [upd_ne (ne_of_none e np)]
            exact s5 _ _ (K14 _ _ (K1 _ _ e n1 n2) n1 n2)
          · rw [← e']
            exact g'
          · rw [upd_same, e']
          · rw [List.length_append, len]
            rfl
          · exact List.nodup_append.mpr ⟨nd, List.nodup_cons.mpr ⟨by simp, List.nodup_nil⟩, fun a ma c mc e => out (by rw [← List.mem_singleton.mp mc, ← e]; exact ma)⟩
          · intro x mx
            rcases List.mem_append.mp mx with mx | mx
            · exact nm x mx
            · rw [List.mem_singleton.mp mx]
              exact nz
        have room : xs.length < sizeLine := by
          rw [len]
          exact small1000 (by omega)
        refine ⟨p, xs, rfl, hp4, nf, room, fun out o' g' => ⟨xs ++ [name], _, _, _, _, _, rfl, put name H4 o' nmN out (Same.refl _) g'⟩, fun inn => ?_⟩
        refine ⟨.str abc, rfl, abc, rfl, fun D2 nD2 o2 g2 => ?_⟩
        refine lcG_str (fun j H5 => Same H4 H5 ∧ GLs H5 D2 (((((List.range 26).take j).filter fun c => decide (sg (c + 97) ∉ xs)).map fun c => sg (c + 97)).map V.str)) ?_ ?_ ?_
        · exact ⟨same_new nD2, o2, g2, upd_same⟩
        · rintro j c H5 hc ⟨s5, hD2⟩
          have hj26 : j < 26 := by
            have := (Array.getElem?_eq_some_iff.mp hc).1
            rwa [abc_size] at this
          have ec : c = j + 97 := by
            have := abc_at hj26
            rw [Array.getElem?_toList] at this
            exact Option.some.inj (hc.symm.trans this)
          subst ec
          obtain ⟨op4, gp4, e4⟩ := hp4
          have tk : (List.range 26).take (j + 1) = (List.range 26).take j ++ [j] := by
            rw [List.take_add_one, List.getElem?_range hj26]
            rfl
          refine ⟨sg (j + 97), p, xs, rfl, rfl, .inl (.inr ⟨op4, s5 _ _ e4⟩), fun isIn => ⟨s5, ?_⟩, fun isIn => ⟨_, hD2, ?_, fun o' g' => ⟨fun d o e => ?_, o', ?_, ?_⟩⟩⟩
          · rw [tk, List.filter_append]
            simpa [isIn] using hD2
          · rw [List.length_map, List.length_map]
            refine small1000 (Nat.le_trans (List.length_filter_le _ _) ?_)
            rw [List.length_take]
            omega
          · rw [upd_ne (ne_of_none e nD2)]
            exact s5 d o e
          · rw [tk, List.filter_append]
            simpa [isIn] using g'
          · rw [upd_same, tk, List.filter_append]
            simp [isIn]
        · rintro H5 ⟨s5, hD2⟩
          obtain ⟨c, hc, out⟩ := letter_left xs (by omega)
          have e26 : (List.range 26).take abc.cps.size = List.range 26 := by
            rw [abc_size]
            rfl
          rw [e26] at hD2
          have mem : c ∈ (List.range 26).filter fun c => decide (sg (c + 97) ∉ xs) := List.mem_filter.mpr ⟨List.mem_range.mpr hc, decide_eq_true out⟩
          obtain ⟨d, r, er⟩ : ∃ d r, ((List.range 26).filter fun c => decide (sg (c + 97) ∉ xs)) = d :: r := by
            cases h : ((List.range 26).filter fun c => decide (sg (c + 97) ∉ xs)) with
            | nil => rw [h] at mem; simp at mem
            | cons d r => exact ⟨d, r, rfl⟩
          have hd : d < 26 ∧ sg (d + 97) ∉ xs := by
            have : d ∈ (List.range 26).filter fun c => decide (sg (c + 97) ∉ xs) := by rw [er]; exact List.mem_cons_self
            obtain ⟨m1, m2⟩ := List.mem_filter.mp this
            exact ⟨List.mem_range.mp m1, of_decide_eq_true m2⟩
          rw [er] at hD2
          obtain ⟨op4, gp4, e4⟩ := hp4
          exact ⟨D2, sg (d + 97), _, rfl, hD2, ⟨op4, gp4, s5 _ _ e4⟩, fun o' g' => ⟨xs ++ [sg (d + 97)], _, _, _, _, _, rfl, put _ H5 o' (sg_nm hd.1) hd.2 s5 g'⟩⟩
    · rintro σ H1 ⟨xs, y4, y5, y6, y7, y8, rfl, B1, K1, h1, len, nd, nm⟩
      exact ⟨.ref p, rfl, q p xs H1 np h1 (by omega) nd nm (B1.more (by omega)) K1⟩
/-- len by a reading over K alone -/
abbrev rLen (K : PySem.W.Frag) : List V → Hp → VK → Prop := fun xs H Q => ∃ p ys, xs = [.ref p] ∧ (SqL K H p ys ∨ SqT K H p ys) ∧ Q (.int ys.length) H
/-! _law_some -/
abbrev sSome : Stmt := top 63
abbrev nSome : List Str := ["_law_box_here", "_law_values", "_law_left", "_law_k"]
theorem scSome : FnScope nSome ["_law_box_here", "_law_values"] (defScope sSome) := ⟨rfl, rfl, rfl, by decide +kernel, rfl, by decide +kernel, by decide +kernel⟩
/-- at least one of them, none more often than before, each with its token -/
def spSome : Sp := fun vs H Q _ => ∃ (b g m vp : Addr) (n : Nat) (xs : List Str), vs = [.ref b, .ref vp] ∧ Box H b g m n ∧ n ≤ 900000 ∧ GLs H vp (xs.map V.str) ∧ 1 ≤ xs.length ∧ xs.length ≤ 100 ∧
  ∀ (p : Addr) (ys zs : List Str) (H' : Hp), H p = none → GLs H' p (ys.map V.str) → 1 ≤ ys.length → (ys ++ zs).Perm xs → Box H' b g m (n + 1 + xs.length) → Keep b g H H' → Q (.ref p) H'
theorem ok_some {f fT : Addr} {fd fdT : FuncData} {k : Nat} (F : Fun K "_law_some" "_law_some" sSome f fd) (FT : Fun K "_law_take" "_law_take" sTake fT fdT) (bT : Binds K fdT ["_law_box_here", "_law_size"] []) (gT : mg "_law_take" = some (.ref fT))
    (GT : FnOk P w K mg base CX0 k fT fdT ["_law_box_here", "_law_size"] spTake) (mr : mg "range" = none) (ml : mg "len" = none) (mls : mg "list" = none) : FnOk P w K mg base CX0 (k + 1) f fd ["_law_box_here", "_law_values"] spSome := by
  refine F.ok scSome (fun vs H Q E h => ?_) (fun cdv A outer s H vs Q E hr h => ?_)
  · obtain ⟨b, g, m, vp, n, xs, rfl, _⟩ := h
    rfl
  · obtain ⟨b, g, m, vp, n, xs, rfl, B, hn, hv, x1, x2, q⟩ := h
    refine ⟨_, pss_cons (ps_set (i := 2) scSome.nd rfl (Or.inr rfl) (pe_callTy call_listX (by rfl) mls (by decide +kernel) (pa_cons (pv 1) pa_nil)))
      (pss_one (ps_ret (PEK.pe (pek_lcG (own := [("_law_k", 3)]) (tv := tvOf (gName 3) _ [3]) (by rfl) scSome.nd
        (pig_of (pi_range1 rfl mr (pa_cons (pe_op op_add pe_int (pe_call GT hr (by rfl) gT FT.kp bT .nil pass0 (pa_cons (pv 0) (pa_cons (pe_callB call_lenX (by rfl) ml PySem.boot_len (pa_cons (pv 2) pa_nil)) pa_nil)))) pa_nil))) (blkOk_by (N := nSome) (sc := defScope sSome) (by decide +kernel))
        (fun _ _ _ _ _ => turn_of rfl (pg_name (i := 3) scSome.nd rfl (Or.inl rfl))
          (pek_popX (pv 2) (pa_cons (pe_call GT hr (by rfl) gT FT.kp bT .nil pass0 (pa_cons (pv 0) (pa_cons (pe_callB call_lenX (by rfl) ml PySem.boot_len (pa_cons (pv 2) pa_nil)) pa_nil))) pa_nil))))))), ?_⟩
    refine ⟨.ref vp, rfl, vp, _, rfl, hv, fun l nl => ?_⟩
    obtain ⟨lb, lg, lm⟩ := B.ne nl
    have s1 : Same H (upd H l (TLx l (xs.map V.str))) := same_new nl
    have lx : (xs.map V.str).length = xs.length := List.length_map _
    refine ⟨.ref b, rfl, .ref l, rfl, l, _, rfl, upd_same, b, g, m, n, _, rfl, B.same s1, by omega, by omega, by omega, fun v0 H1 a0 a1 B1 K1 => ?_⟩
    refine ⟨_, _, rfl, rfl, 1 + v0, rfl, by omega, by omega, fun D nD oD gD => ?_⟩
    obtain ⟨Db, Dg, Dm⟩ := B1.ne nD
    have hl1 : H1 l = some (TLx l (xs.map V.str)) := K1 _ _ upd_same lb lg
    have Dl : D ≠ l := (ne_of_none hl1 nD).symm
    have K01 : Keep b g H H1 := (Same.keep s1).trans K1
    have fD : H D = none := K01.free Db Dg nD
    refine lcG_range (lo := 0) (n := (1 + v0).toNat) (fun j H4 => Box H4 b g m (n + 1 + j) ∧ Keep b g H H4 ∧ ∃ ys zs : List Str, GLs H4 D (ys.map V.str) ∧ H4 l = some (TLx l (zs.map V.str)) ∧ ys.length = j ∧ (ys ++ zs).Perm xs) ?_ ?_ ?_
    · refine ⟨B1.store Db Dg Dm, K01.trans (Same.keep (same_new nD)), [], xs, ⟨oD, gD, upd_same⟩, ?_, rfl, List.Perm.refl _⟩
      rw [upd_ne Dl.symm]
      exact hl1
    · rintro j H4 hj ⟨B4, K4, ys, zs, ⟨o4, g4, hD⟩, hl, ly, pm⟩
      have total := pm.length_eq
      rw [List.length_append] at total
      have lz : (zs.map V.str).length = zs.length := List.length_map _
      refine ⟨rfl, .ref l, rfl, l, _, rfl, hl, .ref b, rfl, .ref l, rfl, l, _, rfl, hl, b, g, m, _, _, rfl, B4, by omega, by omega, by omega, fun v H5 c0 c1 B5 K5 => ?_⟩
      have hl5 := K5 _ _ hl lb lg
      have hD5 := K5 _ _ hD Db Dg
      have hv : v.toNat < zs.length := by omega
      refine ⟨_, v, v.toNat, .str zs[v.toNat], rfl, hl5, by omega, by omega, seq_at c0 c1, ?_, ys.map V.str, ⟨o4, g4, ?_⟩, ?_, fun o' g' => ?_⟩
      · rw [List.getElem?_map, List.getElem?_eq_getElem hv]
        rfl
      · rw [upd_ne Dl]
        exact hD5
      · rw [List.length_map]
        exact small1000 (by omega)
      · have e' : ys.map V.str ++ [V.str zs[v.toNat]] = (ys ++ [zs[v.toNat]]).map V.str := by
          rw [List.map_append]
          rfl
        refine ⟨((B5.store lb lg lm).store Db Dg Dm).more (by omega), fun d o e n1 n2 => ?_, ys ++ [zs[v.toNat]], zs.eraseIdx v.toNat, ⟨o', ?_, ?_⟩, ?_, ?_, ?_⟩
        · rw [upd_ne (ne_of_none e fD), upd_ne (ne_of_none e nl)]
          exact K5 _ _ (K4 _ _ e n1 n2) n1 n2
        · rw [← e']
          exact g'
        · rw [upd_same, e']
        · rw [upd_ne Dl.symm, upd_same, erase_map]
        · rw [List.length_append, ly]
          rfl
        · refine List.Perm.trans ?_ pm
          rw [List.append_assoc]
          exact List.Perm.append_left ys (erase_perm zs v.toNat _ (List.getElem?_eq_getElem hv))
    · rintro H4 ⟨B4, K4, ys, zs, hD, hl, ly, pm⟩
      exact q D ys zs H4 fD hD (by omega) pm (B4.more (by omega)) K4
/-! _law_count -/
abbrev sCount : Stmt := top 64
abbrev nCount : List Str := ["_law_box_here", "_law_many"]
theorem scCount : FnScope nCount ["_law_box_here", "_law_many"] (defScope sCount) := ⟨rfl, rfl, rfl, by decide +kernel, rfl, by decide +kernel, by decide +kernel⟩
def spCount : Sp := fun vs H Q _ => ∃ (b g m : Addr) (n : Nat) (many : Int), vs = [.ref b, .int many] ∧ Box H b g m n ∧ n ≤ 900000 ∧ 1 ≤ many ∧ many ≤ 1000 ∧
  ∀ (c : Int) (H' : Hp), 1 ≤ c → c ≤ many → Box H' b g m (n + 2) → Keep b g H H' → Q (.int c) H'
theorem ok_count {f fT : Addr} {fd fdT : FuncData} {k : Nat} (F : Fun K "_law_count" "_law_count" sCount f fd) (FT : Fun K "_law_take" "_law_take" sTake fT fdT) (bT : Binds K fdT ["_law_box_here", "_law_size"] []) (gT : mg "_law_take" = some (.ref fT))
    (GT : FnOk P w K mg base CX0 k fT fdT ["_law_box_here", "_law_size"] spTake) (mn : mg "min" = none) : FnOk P w K mg base CX0 (k + 1) f fd ["_law_box_here", "_law_many"] spCount := by
  refine F.ok scCount (fun vs H Q E h => ?_) (fun cdv A outer s H vs Q E hr h => ?_)
  · obtain ⟨b, g, m, n, many, rfl, _⟩ := h
    rfl
  · obtain ⟨b, g, m, n, many, rfl, B, hn, m1, m2, q⟩ := h
    refine ⟨_, pss_one (ps_ret (pe_ix ix_list (pe_lst (pa_cons pe_int (pa_cons (pv 1) (pa_cons
        (pe_callB (call_min2 rfl) (by rfl) mn (by decide +kernel) (pa_cons (pv 1) (pa_cons (pe_op op_add (pe_op op_fdiv (pe_op op_mul pe_int (pv 1)) pe_int) pe_int) pa_nil)))
        (pa_cons (pe_op op_add pe_int (pe_call GT hr (by rfl) gT FT.kp bT .nil pass0 (pa_cons (pv 0) (pa_cons (pv 1) pa_nil)))) pa_nil)))))
      (pe_call GT hr (by rfl) gT FT.kp bT .nil pass0 (pa_cons (pv 0) (pa_cons pe_int pa_nil))) (fun _ _ => rfl))), ?_⟩
    refine ⟨_, rfl, _, rfl, _, rfl, _, _, rfl, rfl, .inl ⟨by decide, by decide⟩, _, _, rfl, rfl, ⟨by decide, by decide⟩, _, _, rfl, rfl, _, _, rfl, .ref b, rfl, .int many, rfl, b, g, m, n, many, rfl, B, by omega, m1, m2, fun v H1 v0 vs B1 K1 => ?_⟩
    refine ⟨_, _, rfl, rfl, by show 4 ≤ sizeLine; decide, fun l nl => ?_⟩
    obtain ⟨lb, lg, lm⟩ := B1.ne nl
    refine ⟨.ref b, rfl, b, g, m, _, 4, rfl, B1.same (same_new nl), by omega, by decide, by decide, fun v2 H2 a0 a1 B2 K2 => ?_⟩
    have hl := K2 _ _ upd_same lb lg
    have KK : Keep b g H H2 := (K1.trans (Same.keep (same_new nl))).trans K2
    have c : v2 = 0 ∨ v2 = 1 ∨ v2 = 2 ∨ v2 = 3 := by omega
    rcases c with rfl | rfl | rfl | rfl
    · exact ⟨l, _, 0, _, rfl, rfl, SqL.of hl, atI_nat (j := 0) rfl, q 1 H2 (by decide) m1 B2 KK⟩
    · exact ⟨l, _, 1, _, rfl, rfl, SqL.of hl, atI_nat (j := 1) rfl, q many H2 m1 (Int.le_refl _) B2 KK⟩
    · refine ⟨l, _, 2, _, rfl, rfl, SqL.of hl, atI_nat (j := 2) rfl, q _ H2 ?_ ?_ B2 KK⟩
      · split <;> omega
      · split <;> omega
    · exact ⟨l, _, 3, _, rfl, rfl, SqL.of hl, atI_nat (j := 3) rfl, q _ H2 (by omega) (by omega) B2 KK⟩
end
end Moot
namespace Moot
open PySem PySem.Spec PyProof.Rows L2
theorem Keep.tups {H H' : Hp} {b g m : Addr} {n : Nat} (k : Keep b g H H') (B : Box H b g m n) : Tups H H' := by
  obtain ⟨x, c, gs, ms, hb, hg, _⟩ := B.ex
  have ne : ∀ a o, H a = some o → (∀ xs, o ≠ .lst xs) → a ≠ b ∧ a ≠ g := fun a o h no => ⟨fun e => by rw [e, hb] at h; cases h; exact no _ rfl, fun e => by rw [e, hg] at h; cases h; exact no _ rfl⟩
  exact ⟨fun a xs h => k a _ h (ne a _ h fun _ z => by cases z).1 (ne a _ h fun _ z => by cases z).2, fun a o u h => k a _ h (ne a _ h fun _ z => by cases z).1 (ne a _ h fun _ z => by cases z).2⟩
/-- the names as they are written -/
def namesOf : List Part → List Str
  | [] => []
  | .inl x :: r => x :: namesOf r
  | .inr (_, ns) :: r => ns ++ namesOf r
theorem namesOf_append : ∀ a b : List Part, namesOf (a ++ b) = namesOf a ++ namesOf b
  | [], _ => rfl
  | .inl x :: a, b => by
    show x :: namesOf (a ++ b) = x :: (namesOf a ++ namesOf b)
    rw [namesOf_append a b]
  | .inr (c, ns) :: a, b => by
    show ns ++ namesOf (a ++ b) = (ns ++ namesOf a) ++ namesOf b
    rw [namesOf_append a b, List.append_assoc]
theorem namesOf_names : ∀ ns : List Str, namesOf (ns.map Sum.inl) = ns
  | [] => rfl
  | x :: ns => by
    show x :: namesOf (ns.map Sum.inl) = x :: ns
    rw [namesOf_names ns]
theorem namesOf_take {ps : List Part} {i : Nat} {p : Part} (h : ps[i]? = some p) : namesOf (ps.take (i + 1)) = namesOf (ps.take i) ++ namesOf [p] := by
  rw [List.take_add_one, h, namesOf_append]
  rfl
theorem namesOf_le (ps : List Part) (i : Nat) : (namesOf (ps.take i)).length ≤ (namesOf ps).length := by
  have e := namesOf_append (ps.take i) (ps.drop i)
  rw [List.take_append_drop] at e
  rw [e, List.length_append]
  omega
/-- which sets satisfy -/
def satP (S : List Str) : Part → Bool
  | .inl x => decide (x ∈ S)
  | .inr (c, ns) => decide (c ≤ ((ns.countP fun x => decide (x ∈ S) : Nat) : Int))
def sat (S : List Str) (c : Int) (ps : List Part) : Bool := decide (c ≤ ((ps.countP (satP S) : Nat) : Int))
theorem sat_names (S : List Str) (c : Int) (ns : List Str) : sat S c (ns.map Sum.inl) = satP S (.inr (c, ns)) := by
  unfold sat
  rw [List.countP_map]
  rfl
/-- only the members count -/
theorem satP_same {S S' : List Str} {p : Part} (h : ∀ x ∈ namesOf [p], x ∈ S ↔ x ∈ S') : satP S p = satP S' p := by
  cases p with
  | inl x =>
    have := h x (List.mem_cons_self)
    show decide _ = decide _
    rw [decide_eq_decide]
    exact this
  | inr y =>
    obtain ⟨c, ns⟩ := y
    have e : ns.countP (fun x => decide (x ∈ S)) = ns.countP (fun x => decide (x ∈ S')) := by
      refine List.countP_congr fun x m => ?_
      rw [decide_eq_true_eq, decide_eq_true_eq]
      exact h x (by show x ∈ ns ++ []; rw [List.append_nil]; exact m)
    show decide _ = decide _
    rw [e]
theorem sat_same {S S' : List Str} {c : Int} {ps : List Part} (h : ∀ x ∈ namesOf ps, x ∈ S ↔ x ∈ S') : sat S c ps = sat S' c ps := by
  have e : ps.countP (satP S) = ps.countP (satP S') := by
    refine List.countP_congr fun p m => ?_
    have : satP S p = satP S' p := satP_same fun x mx => h x (by
      obtain ⟨a, b, rfl⟩ := List.append_of_mem m
      rw [namesOf_append, show p :: b = [p] ++ b from rfl, namesOf_append]
      exact List.mem_append_right _ (List.mem_append_left _ mx))
    rw [this]
  unfold sat
  rw [e]
/-- isinstance(part, str) -/
theorem isi_part {K : PySem.W.Frag} {H : Hp} {v : V} {p : Part} (h : PartAt H v p) : ∃ t : Value, TyX K H v t ∧ PySem.W.kitOne K t (.type "str") = some p.isLeft := by
  cases p with
  | inl x =>
    cases h
    exact ⟨.type "str", .base (.str x), kit_ty (r := true) (by decide +kernel)⟩
  | inr y =>
    obtain ⟨c, ns⟩ := y
    obtain ⟨a, p, rfl, h1, h2⟩ := h
    exact ⟨.type "tuple", .base (.tup h1), kit_ty (r := false) (by decide +kernel)⟩
section
variable {P : Program} {w : World} {K : PySem.W.Frag} {mg : Str → Option Value} {base : Heap}
/-! node_set -/
abbrev sNs : Stmt := top 8
theorem scNs : FnScope ["names"] ["names"] (defScope sNs) := ⟨rfl, rfl, rfl, by decide +kernel, rfl, by decide +kernel, by decide +kernel⟩
def spNs (K : PySem.W.Frag) : Sp := fun vs H Q _ => ∃ (l : Addr) (zs : List Str), vs = [.ref l] ∧ SqL K H l (zs.map V.str) ∧ zs.length < 64 ∧
  ∀ (p : Addr) (ys : List Str) (H' : Hp), Same H H' → H p = none → H' p = some (.tup (ys.map V.str)) → sortedS ys = true → ys.Nodup → (∀ x, x ∈ ys ↔ x ∈ zs) → Q (.ref p) H'
theorem ok_ns {f : Addr} {fd : FuncData} {k : Nat} (F : Fun K "node_set" "node_set" sNs f fd) (mt : mg "tuple" = none) (mso : mg "sorted" = none) (mse : mg "set" = none) : FnOk P w K mg base CX0 (k + 1) f fd ["names"] (spNs K) := by
  refine F.ok scNs (fun vs H Q E h => ?_) (fun cdv A outer s H vs Q E hr h => ?_)
  · obtain ⟨l, zs, rfl, _⟩ := h
    rfl
  · obtain ⟨l, zs, rfl, hl, few, q⟩ := h
    refine ⟨_, pss_one (ps_ret (pe_callTy call_tuple_of (by rfl) mt (by decide +kernel) (pa_cons (pe_callB (cr_txtSorted rfl) (by rfl) mso (by decide +kernel)
      (pa_cons (pe_callTy (cr_txtSet rfl) (by rfl) mse (by decide +kernel) (pa_cons (pv 0) pa_nil)) pa_nil)) pa_nil))), ?_⟩
    refine ⟨.ref l, rfl, l, zs, rfl, hl, few, fun a m na hm => ?_⟩
    refine ⟨a, _, m, rfl, upd_same, by omega, fun ys p srt nd mem len np => ?_⟩
    refine ⟨p, _, rfl, .inl ⟨SqL.of upd_same, fun t nt => ?_⟩⟩
    have s1 := same_new (o := TxtSet P w a (fun k => decide (k ∈ zs)) m) na
    have s2 := same_new (o := .lst (ys.map V.str)) np
    have s3 := same_new (o := .tup (ys.map V.str)) nt
    exact q t ys _ ((s1.trans s2).trans s3) ((s1.trans s2).free nt) upd_same srt nd fun x => (mem x).trans (by simp)
end
end Moot
namespace Moot
open PySem PySem.Spec PyProof.Rows L2
/-- a set of names, as a list or a tuple -/
def NodesAt (K : PySem.W.Frag) (H : Hp) (p : Addr) (S : List Str) : Prop := SqL K H p (S.map V.str) ∨ SqT K H p (S.map V.str)
theorem Same.seqT {K : PySem.W.Frag} {H H' : Hp} {a : Addr} {xs : List V} (e : Same H H') (h : SqT K H a xs) : SqT K H' a xs := by
  rcases h with (h | ⟨o, h⟩) | h
  · exact .inl (.inl (e _ _ h))
  · exact .inl (.inr ⟨o, e _ _ h⟩)
  · exact .inr h
theorem NodesAt.same {K : PySem.W.Frag} {H H' : Hp} {p : Addr} {S : List Str} (h : NodesAt K H p S) (s : Same H H') : NodesAt K H' p S := h.imp (Same.seq s) (Same.seqT s)
/-- what the built-in names are -/
structure Blt (mg : Str → Option Value) : Prop where
  isi : mg "isinstance" = none
  str : mg "str" = none
  len : mg "len" = none
  tup : mg "tuple" = none
  lst : mg "list" = none
  srt : mg "sorted" = none
  set : mg "set" = none
  rng : mg "range" = none
  int : mg "int" = none
  bool : mg "bool" = none
  sum : mg "sum" = none
  min : mg "min" = none
  max : mg "max" = none
section
variable {P : Program} {w : World} {K : PySem.W.Frag} {mg : Str → Option Value} {base : Heap}
theorem fn_none {CX : CXT} {f : Addr} {fd : FuncData} {ps : List Str} {sp : Sp} (k : Nat) (h : ∀ vs H Q E, ¬ sp vs H Q E) : FnOk P w K mg base CX k f fd ps sp :=
  ⟨fun vs H Q E y => absurd y (h vs H Q E), fun _ _ _ H _ _ vs Q E _ _ _ _ y => absurd y (h vs H Q E)⟩
/-! names_with_repetition -/
abbrev sNwr : Stmt := top 23
abbrev nNwr : List Str := ["requirement", "names", "part"]
theorem scNwr : FnScope nNwr ["requirement"] (defScope sNwr) := ⟨rfl, rfl, rfl, by decide +kernel, rfl, by decide +kernel, by decide +kernel⟩
def spNwr (D : List Part → Prop) : Sp := fun vs H Q _ => ∃ (r : Addr) (c : Int) (ps : List Part), vs = [.ref r] ∧ ReqAt H r c ps ∧ D ps ∧ (namesOf ps).length ≤ 1000 ∧
  ∀ (p : Addr) (H' : Hp), Same H H' → H p = none → H' p = some (.lst ((namesOf ps).map V.str)) → Q (.ref p) H'
theorem ok_nwr {D0 D : List Part → Prop} {f : Addr} {fd : FuncData} {k : Nat} (F : Fun K "names_with_repetition" "names_with_repetition" sNwr f fd) (bN : Binds K fd ["requirement"] []) (gN : mg "names_with_repetition" = some (.ref f)) (T : Blt mg)
    (G : FnOk P w K mg base CX0 k f fd ["requirement"] (spNwr D0)) (imp : ∀ ps, D ps → ∀ c ns, Sum.inr (c, ns) ∈ ps → D0 (ns.map Sum.inl)) : FnOk P w K mg base CX0 (k + 1) f fd ["requirement"] (spNwr D) := by
  refine F.ok scNwr (fun vs H Q E h => ?_) (fun cdv A outer s H vs Q E hr h => ?_)
  · obtain ⟨r, c, ps, rfl, _⟩ := h
    rfl
  · obtain ⟨r, c, ps, rfl, R, hD, few, q⟩ := h
    refine ⟨_, pss_cons (ps_set (i := 1) scNwr.nd rfl (Or.inl rfl) (pe_lst pa_nil))
      (pss_cons (ps_for PassesOwn.never rfl (pi_tup (pe_ix ix_tup (pv 0) pe_int (fun _ _ => rfl))) (pg_name (i := 2) scNwr.nd rfl (Or.inl rfl))
        (pss_one (ps_if (pt_val (pe_callB call_isi (by rfl) T.isi (by decide +kernel) (pa_cons (pv 2) (pa_cons (pe_bltn (v := .ty "str") (by rfl) T.str (by decide +kernel) rfl) pa_nil))))
          (pss_one (ps_expr (pe_bm PySem.F.plainAttrs_list PySem.F.slot_list_append PySem.F.type_list_append mt_append (pv 1) (pa_cons (pv 2) pa_nil))))
          (pss_one (ps_expr (pe_bm PySem.F.plainAttrs_list PySem.F.slot_list_extend PySem.F.type_list_extend mt_extend (pv 1) (pa_cons (pe_call G hr (by rfl) gN F.kp bN .nil pass0 (pa_cons (pv 2) pa_nil)) pa_nil)))))))
      (pss_one (ps_ret (pv 1)))), ?_⟩
    obtain ⟨pp, vs, hr1, hp1, PS⟩ := R
    refine ⟨Nat.zero_le _, fun l nl => ?_⟩
    have s1 : Same H (upd H l (.lst [])) := same_new nl
    refine ⟨.ref r, rfl, r, _, 1, .ref pp, rfl, rfl, SqT.of (s1 _ _ hr1), atI_nat (j := 1) rfl, pp, rfl, ⟨_, (hp1.tups (Same.tups s1)).seq⟩, for_tup (K := K) (a := pp) (xs := vs) (fun i σ H1 => ∃ y2 : Option V, σ = [some (.ref r), some (.ref l), y2] ∧
      Same H H1 ∧ H1 l = some (.lst ((namesOf (ps.take i)).map V.str))) ⟨none, rfl, s1, upd_same⟩ (fun i σ H1 _ ⟨_, _, s2, _⟩ => (hp1.tups (Same.tups s2)).seq) ?_ ?_⟩
    · rintro i x σ H1 hx ⟨y2, rfl, s2, h1⟩
      obtain ⟨p, hp, pa⟩ := PS.at hx
      have pa1 := pa.tups (Same.tups s2).tup
      have e := namesOf_take hp
      have le := namesOf_le ps (i + 1)
      have le0 := namesOf_le ps i
      obtain ⟨ty, ty1, ty2⟩ := isi_part (K := K) pa1
      refine ⟨x, rfl, _, _, ty, .type "str", _, rfl, .ty _, ty1, ty2, _, rfl, ?_⟩
      cases p with
      | inl z =>
        cases pa
        refine iteT ⟨.ref l, rfl, .inl ⟨rfl, _, SqL.of h1⟩, .str z, rfl, l, _, _, rfl, rfl, h1, ?_, _, rfl, fun d o c => ?_, ?_⟩
        · rw [List.length_map]
          exact small1000 (by omega)
        · rw [upd_ne (ne_of_none c nl)]
          exact s2 d o c
        · rw [upd_same, e, List.map_append]
          rfl
      | inr y =>
        obtain ⟨c', ns⟩ := y
        obtain ⟨q', rfl, R'⟩ := pa1.req
        have mem : Sum.inr (c', ns) ∈ ps := List.mem_of_getElem? hp
        have en : namesOf (ns.map Sum.inl) = ns := namesOf_names ns
        have e1 : namesOf [(Sum.inr (c', ns) : Part)] = ns := List.append_nil ns
        rw [e1] at e
        have lens := congrArg List.length e
        rw [List.length_append] at lens
        refine iteF ⟨.ref l, rfl, .inl ⟨rfl, _, SqL.of h1⟩, .ref q', rfl, q', c', ns.map Sum.inl, rfl, R', imp ps hD c' ns mem, by rw [en]; omega, fun p2 H2 s3 np2 h2 => ?_⟩
        rw [en] at h2
        refine ⟨l, p2, _, _, rfl, rfl, s3 _ _ h1, h2, ?_, _, rfl, fun d o c => ?_, ?_⟩
        · rw [List.length_map, List.length_map]
          exact Nat.le_of_lt (small1000 (by omega))
        · rw [upd_ne (ne_of_none c nl)]
          exact s3 _ _ (s2 d o c)
        · rw [upd_same, e, List.map_append]
    · rintro σ H1 ⟨y2, rfl, s2, h1⟩
      rw [PS.length, List.take_length] at h1
      exact ⟨.ref l, rfl, q l H1 s2 nl h1⟩
/-! names_in -/
abbrev sNin : Stmt := top 24
theorem scNin : FnScope ["requirement"] ["requirement"] (defScope sNin) := ⟨rfl, rfl, rfl, by decide +kernel, rfl, by decide +kernel, by decide +kernel⟩
def spNin : Sp := fun vs H Q _ => ∃ (r : Addr) (c : Int) (ps : List Part), vs = [.ref r] ∧ ReqAt H r c ps ∧ (namesOf ps).length < 64 ∧
  ∀ (p : Addr) (ys : List Str) (H' : Hp), Same H H' → H p = none → H' p = some (.tup (ys.map V.str)) → sortedS ys = true → ys.Nodup → (∀ x, x ∈ ys ↔ x ∈ namesOf ps) → Q (.ref p) H'
theorem ok_nin {f fN fW : Addr} {fd fdN fdW : FuncData} {k : Nat} (F : Fun K "names_in" "names_in" sNin f fd) (FN : Fun K "node_set" "node_set" sNs fN fdN) (bN : Binds K fdN ["names"] []) (gN : mg "node_set" = some (.ref fN))
    (FW : Fun K "names_with_repetition" "names_with_repetition" sNwr fW fdW) (bW : Binds K fdW ["requirement"] []) (gW : mg "names_with_repetition" = some (.ref fW)) (GN : FnOk P w K mg base CX0 k fN fdN ["names"] (spNs K)) (GW : FnOk P w K mg base CX0 k fW fdW ["requirement"] (spNwr fun _ => True)) :
    FnOk P w K mg base CX0 (k + 1) f fd ["requirement"] spNin := by
  refine F.ok scNin (fun vs H Q E h => ?_) (fun cdv A outer s H vs Q E hr h => ?_)
  · obtain ⟨r, c, ps, rfl, _⟩ := h
    rfl
  · obtain ⟨r, c, ps, rfl, R, few, q⟩ := h
    refine ⟨_, pss_one (ps_ret (pe_call GN hr (by rfl) gN FN.kp bN .nil pass0 (pa_cons (pe_call GW hr (by rfl) gW FW.kp bW .nil pass0 (pa_cons (pv 0) pa_nil)) pa_nil))), ?_⟩
    refine ⟨.ref r, rfl, r, c, ps, rfl, R, trivial, by omega, fun l H1 s1 nl h1 => ?_⟩
    exact ⟨l, _, rfl, SqL.of h1, few, fun p ys H2 s2 np h2 a1 a2 a3 => q p ys H2 (s1.trans s2) (s1.free np) h2 a1 a2 a3⟩
/-! satisfies_part -/
abbrev sSp : Stmt := top 25
theorem scSp : FnScope ["part", "nodes"] ["part", "nodes"] (defScope sSp) := ⟨rfl, rfl, rfl, by decide +kernel, rfl, by decide +kernel, by decide +kernel⟩
def spSp (K : PySem.W.Frag) (D : Part → Prop) : Sp := fun vs H Q _ => ∃ (v : V) (p : Part) (np : Addr) (S : List Str), vs = [v, .ref np] ∧ PartAt H v p ∧ D p ∧ NodesAt K H np S ∧ ∀ H', Same H H' → Q (.bl (satP S p)) H'
def spSat (K : PySem.W.Frag) (D : List Part → Prop) : Sp := fun vs H Q _ => ∃ (r : Addr) (c : Int) (ps : List Part) (np : Addr) (S : List Str), vs = [.ref r, .ref np] ∧ ReqAt H r c ps ∧ D ps ∧ ps.length ≤ 1000 ∧ NodesAt K H np S ∧ ∀ H', Same H H' → Q (.bl (sat S c ps)) H'
abbrev sSat : Stmt := top 26
theorem ok_sp {D0 : List Part → Prop} {D : Part → Prop} {f fS : Addr} {fd fdS : FuncData} {k : Nat} (F : Fun K "satisfies_part" "satisfies_part" sSp f fd) (FS : Fun K "satisfies" "satisfies" sSat fS fdS) (bS : Binds K fdS ["requirement", "nodes"] []) (gS : mg "satisfies" = some (.ref fS)) (T : Blt mg)
    (G : FnOk P w K mg base CX0 k fS fdS ["requirement", "nodes"] (spSat K D0)) (imp : ∀ c ns, D (.inr (c, ns)) → D0 (ns.map Sum.inl) ∧ ns.length ≤ 1000) : FnOk P w K mg base CX0 (k + 1) f fd ["part", "nodes"] (spSp K D) := by
  refine F.ok scSp (fun vs H Q E h => ?_) (fun cdv A outer s H vs Q E hr h => ?_)
  · obtain ⟨v, p, np, S, rfl, _⟩ := h
    rfl
  · obtain ⟨v, p, np, S, rfl, pa, hD, N, q⟩ := h
    refine ⟨_, pss_cons (ps_if (pt_val (pe_callB call_isi (by rfl) T.isi (by decide +kernel) (pa_cons (pv 0) (pa_cons (pe_bltn (v := .ty "str") (by rfl) T.str (by decide +kernel) rfl) pa_nil))))
        (pss_one (ps_ret (pe_cmpR op_in_seq (pv 0) (pv 1) (by rfl)))) pss_nil)
      (pss_one (ps_ret (pe_call G hr (by rfl) gS FS.kp bS .nil pass0 (pa_cons (pv 0) (pa_cons (pv 1) pa_nil))))), ?_⟩
    obtain ⟨ty, ty1, ty2⟩ := isi_part (K := K) pa
    refine ⟨v, rfl, _, _, ty, .type "str", _, rfl, .ty _, ty1, ty2, _, rfl, ?_⟩
    cases p with
    | inl z =>
      cases pa
      refine iteT ⟨.str z, rfl, .ref np, rfl, np, _, rfl, N, rfl, flats S, ?_⟩
      have e : inV (.str z) (S.map V.str) = satP S (.inl z) := inV_str z S
      rw [if_neg Bool.false_ne_true, e]
      exact q H (Same.refl H)
    | inr y =>
      obtain ⟨c, ns⟩ := y
      obtain ⟨r, rfl, R⟩ := pa.req
      obtain ⟨i1, i2⟩ := imp c ns hD
      refine iteF ⟨.ref r, rfl, .ref np, rfl, r, c, _, np, S, rfl, R, i1, by rw [List.length_map]; exact i2, N, fun H' s' => ?_⟩
      rw [sat_names]
      exact q H' s'
/-! satisfies -/
abbrev nSat : List Str := ["requirement", "nodes", "count", "parts", "satisfied", "part"]
theorem scSat : FnScope nSat ["requirement", "nodes"] (defScope sSat) := ⟨rfl, rfl, rfl, by decide +kernel, rfl, by decide +kernel, by decide +kernel⟩
theorem ok_sat {D0 : Part → Prop} {D : List Part → Prop} {f fP : Addr} {fd fdP : FuncData} {k : Nat} (F : Fun K "satisfies" "satisfies" sSat f fd) (FP : Fun K "satisfies_part" "satisfies_part" sSp fP fdP) (bP : Binds K fdP ["part", "nodes"] []) (gP : mg "satisfies_part" = some (.ref fP)) (T : Blt mg)
    (G : FnOk P w K mg base CX0 k fP fdP ["part", "nodes"] (spSp K D0)) (imp : ∀ ps, D ps → ∀ p ∈ ps, D0 p) : FnOk P w K mg base CX0 (k + 1) f fd ["requirement", "nodes"] (spSat K D) := by
  refine F.ok scSat (fun vs H Q E h => ?_) (fun cdv A outer s H vs Q E hr h => ?_)
  · obtain ⟨r, c, ps, np, S, rfl, _⟩ := h
    rfl
  · obtain ⟨r, c, ps, np, S, rfl, R, hD, few, N, q⟩ := h
    refine ⟨_, pss_cons (ps_asg (pv 0) (pg_tup (by rfl) (pgs_cons (pg_name (i := 2) scSat.nd rfl (Or.inl rfl)) (pgs_cons (pg_name (i := 3) scSat.nd rfl (Or.inl rfl)) pgs_nil))))
      (pss_cons (ps_setLc (i := 4) (own := [("part", 5)]) (g := gName 5) (by rfl) scSat.nd rfl rfl (sw_true rfl rfl rfl (by decide +kernel)) (pi_tup (pv 3)) (blkOk_by (N := nSat) (sc := defScope sSat) (by decide +kernel))
        (fun _ _ _ _ _ => pg_name (i := 5) scSat.nd rfl (Or.inl rfl)) (fun _ _ _ _ _ => pts_one (pt_val (pe_call G hr (by rfl) gP FP.kp bP .nil pass0 (pa_cons (pv 5) (pa_cons (pv 1) pa_nil))))) (fun _ _ _ _ _ => pv 5))
      (pss_one (ps_ret (pe_cmpR op_ge (pe_callB call_len_seq (by rfl) T.len PySem.boot_len (pa_cons (pv 4) pa_nil)) (pv 2) (nomark _))))), ?_⟩
    obtain ⟨pp, vs, hr1, hp1, PS⟩ := R
    refine ⟨.ref r, rfl, r, _, rfl, SqT.of hr1, rfl, _, _, rfl, _, _, rfl, rfl, ?_⟩
    refine ⟨.ref pp, rfl, pp, rfl, ⟨_, hp1.seq⟩, fun l nl => lc_tup (K := K) (a := pp) (xs := vs) (fun i H1 => Same H H1 ∧ ∃ us : List V, H1 l = some (.lst us) ∧ us.length = (ps.take i).countP (satP S)) ?_ (fun i H1 _ h => (hp1.tups (Same.tups h.1)).seq) ?_ ?_⟩
    · exact ⟨same_new nl, [], upd_same, rfl⟩
    · rintro i x H1 hx ⟨s1, us, h1, hl⟩
      obtain ⟨p, hp, pa⟩ := PS.at hx
      have tk : (ps.take (i + 1)).countP (satP S) = (ps.take i).countP (satP S) + (if satP S p = true then 1 else 0) := by
        rw [List.take_add_one, hp, List.countP_append]
        show _ + List.countP (satP S) [p] = _
        rw [List.countP_singleton]
      have le : (ps.take i).countP (satP S) ≤ 1000 := by
        refine Nat.le_trans List.countP_le_length ?_
        rw [List.length_take]
        omega
      refine ⟨rfl, x, rfl, .ref np, rfl, x, p, np, S, rfl, pa.tups (Same.tups s1).tup, imp ps hD p (List.mem_of_getElem? hp), N.same s1, fun H2 s2 => ⟨_, rfl, ?_⟩⟩
      cases c' : satP S p with
      | true =>
        rw [c', if_pos rfl] at tk
        refine iteT ⟨x, rfl, us, s2 _ _ h1, small1000 (by omega), fun d o e => ?_, us ++ [x], upd_same, ?_⟩
        · rw [upd_ne (ne_of_none e nl)]
          exact s2 _ _ (s1 d o e)
        · rw [List.length_append, hl, tk]
          rfl
      | false =>
        rw [c', if_neg Bool.false_ne_true] at tk
        exact iteF ⟨s1.trans s2, us, s2 _ _ h1, by rw [hl, tk]; rfl⟩
    · rintro H1 ⟨s1, us, h1, hl⟩
      rw [PS.length, List.take_length] at hl
      refine ⟨.ref l, rfl, l, us, rfl, .inl (SqL.of h1), .int c, rfl, _, _, rfl, rfl, ?_⟩
      rw [hl]
      exact q H1 s1
end
end Moot
namespace Moot
open PySem PySem.Spec PyProof.Rows L2
/-- the names that are left -/
def outs (S : List Str) (ps : List Part) : List Str := (namesOf ps).filter fun x => decide (x ∉ S)
def blk (S : List Str) (c : Int) (ps : List Part) : Bool := !sat (outs S ps) c ps
theorem sat_outs {S zs : List Str} {c : Int} {ps : List Part} (h : ∀ x, x ∈ zs ↔ x ∈ namesOf ps) : sat (zs.filter fun x => decide (x ∉ S)) c ps = sat (outs S ps) c ps := by
  refine sat_same fun x _ => ?_
  unfold outs
  rw [List.mem_filter, List.mem_filter, h x]
/-- every inner one is short -/
def Short (ps : List Part) : Prop := ∀ c ns, Sum.inr (c, ns) ∈ ps → ns.length ≤ 1000
def ShortP (p : Part) : Prop := ∀ c ns, p = .inr (c, ns) → ns.length ≤ 1000
theorem Short.p {ps : List Part} (h : Short ps) : ∀ p ∈ ps, ShortP p := fun p m c ns e => h c ns (e ▸ m)
def AllNames (ps : List Part) : Prop := ∀ p ∈ ps, p.isLeft = true
theorem allNames (ns : List Str) : AllNames (ns.map Sum.inl) := fun p m => by
  obtain ⟨x, _, rfl⟩ := List.mem_map.mp m
  rfl
theorem nodup_le : ∀ {l D : List Str}, l.Nodup → (∀ y ∈ l, y ∈ D) → l.length ≤ D.length
  | [], _, _, _ => Nat.zero_le _
  | y :: l, D, n, s => by
    obtain ⟨n1, n2⟩ := List.nodup_cons.mp n
    have my := s y List.mem_cons_self
    have := nodup_le (D := D.erase y) n2 fun z mz => (List.mem_erase_of_ne fun (e : z = y) => n1 (e ▸ mz)).mpr (s z (List.mem_cons_of_mem _ mz))
    have e := List.length_erase_of_mem my
    have := List.length_pos_of_mem my
    rw [List.length_cons]
    omega
section
variable {P : Program} {w : World} {K : PySem.W.Frag} {mg : Str → Option Value} {base : Heap}
/-- satisfies, for all requirements -/
theorem ok_sat_all {f fP : Addr} {fd fdP : FuncData} (F : Fun K "satisfies" "satisfies" sSat f fd) (b : Binds K fd ["requirement", "nodes"] []) (g : mg "satisfies" = some (.ref f)) (FP : Fun K "satisfies_part" "satisfies_part" sSp fP fdP) (bP : Binds K fdP ["part", "nodes"] []) (gP : mg "satisfies_part" = some (.ref fP)) (T : Blt mg) :
    FnOk P w K mg base CX0 4 f fd ["requirement", "nodes"] (spSat K Short) := by
  have g0 : FnOk P w K mg base CX0 0 f fd ["requirement", "nodes"] (spSat K fun _ => False) := fn_none 0 fun vs H Q E ⟨r, c, ps, np, S, _, _, h, _⟩ => h
  have g1 : FnOk P w K mg base CX0 1 fP fdP ["part", "nodes"] (spSp K fun p => p.isLeft = true) := ok_sp FP F b g T g0 fun c ns h => by cases h
  have g2 : FnOk P w K mg base CX0 2 f fd ["requirement", "nodes"] (spSat K AllNames) := ok_sat F FP bP gP T g1 fun ps h => h
  have g3 : FnOk P w K mg base CX0 3 fP fdP ["part", "nodes"] (spSp K ShortP) := ok_sp FP F b g T g2 fun c ns h => ⟨allNames ns, h c ns rfl⟩
  exact ok_sat F FP bP gP T g3 fun ps h => h.p
/-- names_with_repetition, for all -/
theorem ok_nwr_all {f : Addr} {fd : FuncData} (F : Fun K "names_with_repetition" "names_with_repetition" sNwr f fd) (b : Binds K fd ["requirement"] []) (g : mg "names_with_repetition" = some (.ref f)) (T : Blt mg) : FnOk P w K mg base CX0 2 f fd ["requirement"] (spNwr fun _ => True) := by
  have g0 : FnOk P w K mg base CX0 0 f fd ["requirement"] (spNwr fun _ => False) := fn_none 0 fun vs H Q E ⟨r, c, ps, _, _, h, _⟩ => h
  have g1 : FnOk P w K mg base CX0 1 f fd ["requirement"] (spNwr AllNames) := ok_nwr F b g T g0 fun ps h c ns m => by
    have := h _ m
    cases this
  exact ok_nwr F b g T g1 fun ps _ c ns m => allNames ns
/-! blocks -/
abbrev sBlk : Stmt := top 27
abbrev nBlk : List Str := ["requirement", "nodes", "outside", "name"]
theorem scBlk : FnScope nBlk ["requirement", "nodes"] (defScope sBlk) := ⟨rfl, rfl, rfl, by decide +kernel, rfl, by decide +kernel, by decide +kernel⟩
def spBlk (K : PySem.W.Frag) : Sp := fun vs H Q _ => ∃ (r : Addr) (c : Int) (ps : List Part) (np : Addr) (S : List Str), vs = [.ref r, .ref np] ∧ ReqAt H r c ps ∧ Short ps ∧ ps.length ≤ 1000 ∧ (namesOf ps).length < 64 ∧ NodesAt K H np S ∧ ∀ H', Same H H' → Q (.bl (blk S c ps)) H'
theorem ok_blk {f fN fS : Addr} {fd fdN fdS : FuncData} {k : Nat} (F : Fun K "blocks" "blocks" sBlk f fd) (FN : Fun K "names_in" "names_in" sNin fN fdN) (bN : Binds K fdN ["requirement"] []) (gN : mg "names_in" = some (.ref fN)) (FS : Fun K "satisfies" "satisfies" sSat fS fdS) (bS : Binds K fdS ["requirement", "nodes"] []) (gS : mg "satisfies" = some (.ref fS))
    (GN : FnOk P w K mg base CX0 k fN fdN ["requirement"] spNin) (GS : FnOk P w K mg base CX0 k fS fdS ["requirement", "nodes"] (spSat K Short)) : FnOk P w K mg base CX0 (k + 1) f fd ["requirement", "nodes"] (spBlk K) := by
  refine F.ok scBlk (fun vs H Q E h => ?_) (fun cdv A outer s H vs Q E hr h => ?_)
  · obtain ⟨r, c, ps, np, S, rfl, _⟩ := h
    rfl
  · obtain ⟨r, c, ps, np, S, rfl, R, sh, few, fewN, N, q⟩ := h
    refine ⟨_, pss_cons (ps_setLc (i := 2) (own := [("name", 3)]) (g := gName 3) (by rfl) scBlk.nd rfl rfl (sw_true rfl rfl rfl (by decide +kernel)) (pi_tup (pe_call GN hr (by rfl) gN FN.kp bN .nil pass0 (pa_cons (pv 0) pa_nil))) (blkOk_by (N := nBlk) (sc := defScope sBlk) (by decide +kernel))
        (fun _ _ _ _ _ => pg_name (i := 3) scBlk.nd rfl (Or.inl rfl)) (fun _ _ _ _ _ => pts_one (pt_cmpR (show OpR _ (compareOp .NotIn) (rIn K true) from op_notIn_seq) (pv 3) (pv 1) (by rfl))) (fun _ _ _ _ _ => pv 3))
      (pss_one (ps_ret (pe_not (pe_call GS hr (by rfl) gS FS.kp bS .nil pass0 (pa_cons (pv 0) (pa_cons (pv 2) pa_nil)))))), ?_⟩
    refine ⟨.ref r, rfl, r, c, ps, rfl, R, fewN, fun t ys H1 s1 nt h1 srt nd mem => ?_⟩
    have few1 : ys.length ≤ 1000 := by
      have := nodup_le nd fun x m => (mem x).mp m
      omega
    refine ⟨t, rfl, ⟨_, SqT.of h1⟩, fun l nl => lc_tup (K := K) (a := t) (xs := ys.map V.str) (fun i H2 => Same H1 H2 ∧ H2 l = some (.lst (((ys.take i).filter fun x => decide (x ∉ S)).map V.str))) ?_ (fun i H2 _ h => SqT.of (h.1 _ _ h1)) ?_ ?_⟩
    · exact ⟨same_new nl, upd_same⟩
    · rintro i x H2 hx ⟨s2, h2⟩
      rw [List.getElem?_map] at hx
      obtain ⟨z, hz, rfl⟩ := Option.map_eq_some_iff.mp hx
      have tk : (ys.take (i + 1)).filter (fun x => decide (x ∉ S)) = (ys.take i).filter (fun x => decide (x ∉ S)) ++ [z].filter (fun x => decide (x ∉ S)) := by
        rw [List.take_add_one, hz, List.filter_append]
        rfl
      refine ⟨rfl, .str z, rfl, .ref np, rfl, np, _, rfl, (N.same s1).same s2, rfl, flats S, _, rfl, ?_⟩
      rw [inV_str]
      by_cases isIn : z ∈ S
      · rw [decide_eq_true isIn]
        refine iteF ⟨s2, ?_⟩
        rw [h2, tk]
        simp [isIn]
      · rw [decide_eq_false isIn]
        refine iteT ⟨.str z, rfl, _, h2, ?_, fun d o e => ?_, ?_⟩
        · rw [List.length_map]
          refine small1000 (Nat.le_trans (List.length_filter_le _ _) ?_)
          rw [List.length_take]
          omega
        · rw [upd_ne (ne_of_none e nl)]
          exact s2 d o e
        · rw [upd_same, tk]
          simp [isIn]
    · rintro H2 ⟨s2, h2⟩
      rw [List.length_map, List.take_length] at h2
      have s12 := s1.trans s2
      refine ⟨.ref r, rfl, .ref l, rfl, r, c, ps, l, _, rfl, R.tups (Same.tups s12), sh, few, .inl (SqL.of h2), fun H3 s3 => ⟨_, rfl, ?_⟩⟩
      rw [sat_outs mem]
      exact q H3 (s12.trans s3)
end
end Moot
namespace Moot
open PySem PySem.Spec PyProof.Rows L2
section
variable {P : Program} {w : World} {K : PySem.W.Frag} {mg : Str → Option Value} {base : Heap}
/-! _law_listed -/
abbrev sLis : Stmt := top 65
abbrev nLis : List Str := ["_law_parts", "_law_part"]
theorem scLis : FnScope nLis ["_law_parts"] (defScope sLis) := ⟨rfl, rfl, rfl, by decide +kernel, rfl, by decide +kernel, by decide +kernel⟩
def spLis : Sp := fun vs H Q _ => ∃ (l : Addr) (us : List V) (ps : List Part), vs = [.ref l] ∧ H l = some (.lst us) ∧ Parts H us ps ∧ ps.length ≤ 900 ∧ ∀ H' : Hp, Same H H' → Q (.int ((namesOf ps).length : Nat)) H'
theorem sum_push : ∀ (ns : List Int) (z : Int), (ns ++ [z]).sum = ns.sum + z
  | [], z => by simp
  | n :: ns, z => by
    rw [List.cons_append, List.sum_cons, List.sum_cons, sum_push ns z]
    omega
theorem ok_lis {f : Addr} {fd : FuncData} {k : Nat} (F : Fun K "_law_listed" "_law_listed" sLis f fd) (T : Blt mg) : FnOk P w K mg base CX0 (k + 1) f fd ["_law_parts"] spLis := by
  refine F.ok scLis (fun vs H Q E h => ?_) (fun cdv A outer s H vs Q E hr h => ?_)
  · obtain ⟨l, us, ps, rfl, _⟩ := h
    rfl
  · obtain ⟨l, us, ps, rfl, hl, PS, few, q⟩ := h
    refine ⟨_, pss_one (ps_ret (pe_callB (cr_sum rfl) (by rfl) T.sum (by decide +kernel) (pa_cons
      (pe_lc (own := [("_law_part", 1)]) (g := gName 1) (tt := tYes) (by rfl) scLis.nd (pi_list (pv 0)) (blkOk_by (N := nLis) (sc := defScope sLis) (by decide +kernel))
        (fun _ _ _ _ _ => pg_name (i := 1) scLis.nd rfl (Or.inl rfl)) (fun _ _ _ _ _ => pts_nil)
        (fun _ _ _ _ _ => pe_ifExp (pt_val (pe_callB (show CallR _ (.builtin "isinstance") (rIsi K) from call_isi) (by rfl) T.isi (by decide +kernel) (pa_cons (pv 1) (pa_cons (pe_bltn (v := .ty "str") (by rfl) T.str (by decide +kernel) rfl) pa_nil)))) pe_int
          (pe_callB (show CallR _ (.builtin "len") (rLen K) from call_len_seq) (by rfl) T.len PySem.boot_len (pa_cons (pe_ix (show IxR _ (rIxT K) from ix_tup) (pv 1) pe_int (fun _ _ => rfl)) pa_nil)))) pa_nil))), ?_⟩
    refine ⟨.ref l, rfl, l, rfl, ⟨_, SqL.of hl⟩, fun D nD => lc_list (K := K) (a := l) (xs := us) (fun i H1 => Same H H1 ∧ ∃ ns : List Int, H1 D = some (.lst (ns.map V.int)) ∧ ns.length = i ∧ ns.sum = ((namesOf (ps.take i)).length : Nat)) ?_ (fun i H1 _ h => SqL.of (h.1 _ _ hl)) ?_ ?_⟩
    · exact ⟨same_new nD, [], upd_same, rfl, rfl⟩
    · rintro i x H1 hx ⟨s1, ns, hD, ln, sm⟩
      have lt := (List.getElem?_eq_some_iff.mp hx).1
      rw [PS.length] at lt
      obtain ⟨p, hp, pa⟩ := PS.at hx
      have pa1 := pa.tups (Same.tups s1).tup
      obtain ⟨ty, ty1, ty2⟩ := isi_part (K := K) pa1
      have room : (ns.map V.int).length < sizeLine := by
        rw [List.length_map]
        exact small1000 (by omega)
      have nt := congrArg List.length (namesOf_take hp)
      rw [List.length_append] at nt
      have fin : ∀ z : Int, z = ((namesOf [p]).length : Nat) → Same H (upd H1 D (.lst (ns.map V.int ++ [.int z]))) ∧ ∃ ns : List Int, upd H1 D (.lst (_ ++ [.int z])) D = some (.lst (ns.map V.int)) ∧ ns.length = i + 1 ∧ ns.sum = ((namesOf (ps.take (i + 1))).length : Nat) := fun z hz => by
        refine ⟨fun d o e => ?_, ns ++ [z], ?_, ?_, by rw [sum_push, sm, hz, nt]; omega⟩
        · rw [upd_ne (ne_of_none e nD)]
          exact s1 d o e
        · rw [upd_same, List.map_append]
          rfl
        · rw [List.length_append, ln]
          rfl
      refine ⟨rfl, x, rfl, _, _, ty, .type "str", _, rfl, .ty _, ty1, ty2, _, rfl, ?_⟩
      cases p with
      | inl z => exact iteT ⟨_, hD, room, fin 1 rfl⟩
      | inr y =>
        obtain ⟨c', ms⟩ := y
        obtain ⟨a, p', rfl, g1, g2⟩ := pa1
        exact iteF ⟨.ref a, rfl, a, _, 1, .ref p', rfl, rfl, SqT.of g1, atI_nat (j := 1) rfl, p', _, rfl, .inr (SqT.of g2), _, hD, room, fin _ (by rw [List.length_map, show namesOf [(Sum.inr (c', ms) : Part)] = ms from List.append_nil ms])⟩
    · rintro H1 ⟨s1, ns, hD, ln, sm⟩
      rw [PS.length, List.take_length] at sm
      refine ⟨D, ns, rfl, SqL.of hD, ?_⟩
      rw [sm]
      exact q H1 s1
end
end Moot
namespace Moot
open PySem PySem.Spec PyProof.Rows L2
/-! parts as data -/
def partD : Part → PyData
  | .inl x => .str x
  | .inr (c, ns) => .tuple [.int c, .tuple (ns.map PyData.str)]
theorem dp_strs {K : PySem.W.Frag} {H : Hp} : ∀ ns : List Str, DpAll K H (ns.map V.str) (ns.map PyData.str)
  | [] => .nil
  | x :: ns => .cons (.str x) (dp_strs ns)
theorem PartAt.dp {K : PySem.W.Frag} {H : Hp} {v : V} {p : Part} (h : PartAt H v p) : Dp K H v (partD p) := by
  cases p with
  | inl x =>
    cases h
    exact .str x
  | inr y =>
    obtain ⟨c, ns⟩ := y
    obtain ⟨q, p, rfl, h1, h2⟩ := h
    exact .tup (SqT.of h1) (.cons (.int c) (.cons (.tup (SqT.of h2) (dp_strs ns)) .nil))
theorem Parts.dp {K : PySem.W.Frag} {H : Hp} {vs : List V} {ps : List Part} (h : Parts H vs ps) : DpAll K H vs (ps.map partD) := by
  induction h with
  | nil => exact .nil
  | cons a _ ih => exact .cons a.dp ih
/-- a drawn part of a requirement over the names xs -/
def Good (xs : List Str) : Part → Prop
  | .inl x => x ∈ xs
  | .inr (c, ns) => 1 ≤ ns.length ∧ ns.length ≤ 8 ∧ 1 ≤ c ∧ c ≤ ns.length ∧ (xs.Nodup → ns.Nodup) ∧ ∀ y ∈ ns, y ∈ xs
theorem lay_strs : ∀ {ns : List Str}, (∀ y ∈ ns, PyData.strOk y = true) → PyData.canLayAll0 (ns.map PyData.str) = true
  | [], _ => rfl
  | x :: ns, h => by
    show (PyData.strOk x && PyData.canLayAll0 (ns.map PyData.str)) = true
    rw [h x List.mem_cons_self, lay_strs fun y m => h y (List.mem_cons_of_mem _ m)]
    rfl
theorem depth_strs : ∀ ns : List Str, PyData.depthAll (ns.map PyData.str) = 0
  | [] => rfl
  | x :: ns => by
    show max 0 (PyData.depthAll (ns.map PyData.str)) = 0
    rw [depth_strs ns]
    rfl
theorem Good.lay {xs : List Str} (ok : ∀ x ∈ xs, PyData.strOk x = true) {p : Part} (h : Good xs p) : PyData.canLay0 (partD p) = true ∧ PyData.depth (partD p) ≤ 2 := by
  cases p with
  | inl x => exact ⟨ok x h, Nat.zero_le _⟩
  | inr y =>
    obtain ⟨c, ns⟩ := y
    have l := lay_strs fun y m => ok y (h.2.2.2.2.2 y m)
    refine ⟨?_, ?_⟩
    · show (true && (PyData.canLayAll0 (ns.map PyData.str) && true)) = true
      rw [l]
      rfl
    · show max 0 (max (PyData.depthAll (ns.map PyData.str) + 1) 0) + 1 ≤ 2
      rw [depth_strs]
      decide
theorem goods_lay {xs : List Str} (ok : ∀ x ∈ xs, PyData.strOk x = true) : ∀ {ps : List Part}, (∀ p ∈ ps, Good xs p) → PyData.canLayAll0 (ps.map partD) = true ∧ PyData.depthAll (ps.map partD) ≤ 2
  | [], _ => ⟨rfl, Nat.zero_le _⟩
  | p :: ps, h => by
    obtain ⟨a1, a2⟩ := Good.lay ok (h p List.mem_cons_self)
    obtain ⟨b1, b2⟩ := goods_lay ok fun q m => h q (List.mem_cons_of_mem _ m)
    refine ⟨?_, ?_⟩
    · show (PyData.canLay0 (partD p) && PyData.canLayAll0 (ps.map partD)) = true
      rw [a1, b1]
      rfl
    · show max (PyData.depth (partD p)) (PyData.depthAll (ps.map partD)) ≤ 2
      omega
theorem shaped_part {xs : List Str} (ok : ∀ x ∈ xs, PyData.strOk x = true) {p : Part} (h : Good xs p) : SeqAt.shaped (partD p) = true := by
  obtain ⟨a1, a2⟩ := Good.lay ok h
  unfold SeqAt.shaped
  rw [a1, decide_eq_true (by omega : PyData.depth (partD p) ≤ 64)]
  rfl
theorem shaped_parts {xs : List Str} (ok : ∀ x ∈ xs, PyData.strOk x = true) {ps : List Part} (h : ∀ p ∈ ps, Good xs p) : SeqAt.shaped (.list (ps.map partD)) = true := by
  obtain ⟨a1, a2⟩ := goods_lay ok h
  unfold SeqAt.shaped
  have d : PyData.depth (.list (ps.map partD)) ≤ 64 := by
    show PyData.depthAll (ps.map partD) + 1 ≤ 64
    omega
  rw [decide_eq_true d]
  show (PyData.canLayAll0 (ps.map partD) && true) = true
  rw [a1]
  rfl
/-- a drawn list of parts -/
structure Fine (xs : List Str) (len names : Nat) (ps : List Part) : Prop where
  all : ∀ p ∈ ps, Good xs p
  len : ps.length ≤ len
  nam : (namesOf ps).length ≤ names
  nd : xs.Nodup → ps.Nodup
theorem namesOf_sub {qs ps : List Part} (h : qs.Sublist ps) : (namesOf qs).length ≤ (namesOf ps).length := by
  have one : ∀ (a : Part) (r : List Part), (namesOf (a :: r)).length = (namesOf [a]).length + (namesOf r).length := fun a r => by
    rw [show a :: r = [a] ++ r from rfl, namesOf_append, List.length_append]
  induction h with
  | slnil => exact Nat.le_refl _
  | cons a _ ih =>
    rw [one]
    omega
  | @cons_cons l1 l2 a _ ih =>
    have e1 := one a l1
    have e2 := one a l2
    omega
theorem inl_nodup {ys : List Str} (h : ys.Nodup) : (ys.map (Sum.inl : Str → Part)).Nodup := List.Pairwise.map _ (fun a b ne e => ne (Sum.inl.inj e)) h
theorem not_among {ps : List Part} {p : Part} (lay : PyData.canLay0 (partD p) = true) (h : (!((ps.map partD).any fun d => PyData.eqv d (partD p))) = true) : p ∉ ps := fun m => by
  have : ((ps.map partD).any fun d => PyData.eqv d (partD p)) = true := List.any_eq_true.mpr ⟨partD p, List.mem_map_of_mem m, SeqAt.eqv_refl _ lay⟩
  rw [this] at h
  cases h
theorem Parts.append {H : Hp} {us vs : List V} {ps qs : List Part} (h : Parts H us ps) (h2 : Parts H vs qs) : Parts H (us ++ vs) (ps ++ qs) := by
  induction h with
  | nil => exact h2
  | cons a _ ih => exact .cons a ih
theorem Parts.cut {H : Hp} {us : List V} {ps : List Part} (h : Parts H us ps) : ∀ j, Parts H (us.take j) (ps.take j) ∧ Parts H (us.drop j) (ps.drop j) := by
  induction h with
  | nil => intro j; exact ⟨by simpa using Parts.nil, by simpa using Parts.nil⟩
  | cons a b ih =>
    intro j
    cases j with
    | zero => exact ⟨.nil, .cons a b⟩
    | succ j => exact ⟨.cons a (ih j).1, (ih j).2⟩
theorem five {v : Int} (h0 : 0 ≤ v) (h1 : v < 5) : ∃ s : Int, atI [V.int 0, V.int 0, V.int 1, V.int 2, V.int 4] v = some (.int s) ∧ 0 ≤ s ∧ s ≤ 4 := by
  have c : v = 0 ∨ v = 1 ∨ v = 2 ∨ v = 3 ∨ v = 4 := by omega
  rcases c with rfl | rfl | rfl | rfl | rfl
  · exact ⟨0, rfl, by decide, by decide⟩
  · exact ⟨0, rfl, by decide, by decide⟩
  · exact ⟨1, rfl, by decide, by decide⟩
  · exact ⟨2, rfl, by decide, by decide⟩
  · exact ⟨4, rfl, by decide, by decide⟩
theorem cut_to (ys : List Str) {j : Int} (h : 0 ≤ j) : cutV (ys.map V.str) none (some j) = (ys.take j.toNat).map V.str := by
  obtain ⟨n, rfl⟩ := Int.eq_ofNat_of_zero_le h
  unfold cutV
  rw [HT.sIx_none, HT.sIx_nat]
  show ((ys.map V.str).drop 0).take (min n (ys.map V.str).length - 0) = _
  rw [List.drop_zero, Nat.sub_zero, List.map_take, List.length_map]
  show _ = (ys.map V.str).take n
  rw [List.take_eq_take_iff, List.length_map]
  omega
/-- the drawn names do not stand at the box -/
theorem Box.apart {H : Hp} {b g m p : Addr} {n : Nat} {xs : List Str} (B : Box H b g m n) (h : GLs H p (xs.map V.str)) : p ≠ b ∧ p ≠ g := by
  obtain ⟨o, _, h⟩ := h
  obtain ⟨x, c, gs, ms, hb, hg, _⟩ := B.ex
  exact ⟨fun e => (by rw [e, hb] at h; cases h), fun e => (by rw [e, hg] at h; cases h)⟩
section
variable {P : Program} {w : World} {K : PySem.W.Frag} {mg : Str → Option Value} {base : Heap}
/-! _law_requirement -/
abbrev sReq : Stmt := top 66
abbrev nReq : List Str := ["_law_box_here", "_law_names_here", "_law_parts", "_law_k", "_law_inner", "_law_part"]
theorem scReq : FnScope nReq ["_law_box_here", "_law_names_here"] (defScope sReq) := ⟨rfl, rfl, rfl, by decide +kernel, rfl, by decide +kernel, by decide +kernel⟩
/-- a requirement whose tuple of parts is known -/
def ReqG (H : Hp) (r : Addr) (c : Int) (ps : List Part) : Prop := ∃ p vs, H r = some (.tup [.int c, .ref p]) ∧ GTp H p vs ∧ Parts H vs ps
theorem ReqG.at {H : Hp} {r : Addr} {c : Int} {ps : List Part} (h : ReqG H r c ps) : ReqAt H r c ps := let ⟨p, vs, a, b, d⟩ := h; ⟨p, vs, a, .inl b, d⟩
theorem ReqG.tups {H H' : Hp} {r : Addr} {c : Int} {ps : List Part} (h : ReqG H r c ps) (t : Tups H H') : ReqG H' r c ps := by
  obtain ⟨p, vs, a, ⟨o, g, e⟩, d⟩ := h
  exact ⟨p, vs, t.tup _ _ a, ⟨o, g, t.frz _ _ _ e⟩, d.tups t.tup⟩
def spReq : Sp := fun vs H Q _ => ∃ (b g m vp : Addr) (n : Nat) (xs : List Str), vs = [.ref b, .ref vp] ∧ Box H b g m n ∧ n ≤ 800000 ∧ GLs H vp (xs.map V.str) ∧ 1 ≤ xs.length ∧ xs.length ≤ 8 ∧ (∀ x ∈ xs, Nm x) ∧
  ∀ (r : Addr) (c : Int) (ps : List Part) (H' : Hp), H r = none → ReqG H' r c ps → Fine xs 12 12 ps → 1 ≤ c → c ≤ ps.length → Box H' b g m (n + 100) → Keep b g H H' → Q (.ref r) H'
/-- the list of the parts: known, or without texts -/
def Lst (H : Hp) (l : Addr) (us : List V) : Prop := GLs H l us ∨ (H l = some (.lst us) ∧ ∀ x ∈ us, ∃ a, x = V.ref a)
theorem Lst.seq {K : PySem.W.Frag} {H : Hp} {l : Addr} {us : List V} (h : Lst H l us) : SqL K H l us := h.elim (fun h => h.seq) fun h => SqL.of h.1
theorem ok_req {f fT fS fC fL : Addr} {fd fdT fdS fdC fdL : FuncData} {k : Nat} (F : Fun K "_law_requirement" "_law_requirement" sReq f fd)
    (FT : Fun K "_law_take" "_law_take" sTake fT fdT) (bT : Binds K fdT ["_law_box_here", "_law_size"] []) (gT : mg "_law_take" = some (.ref fT)) (GT : FnOk P w K mg base CX0 k fT fdT ["_law_box_here", "_law_size"] spTake)
    (FS : Fun K "_law_some" "_law_some" sSome fS fdS) (bS : Binds K fdS ["_law_box_here", "_law_values"] []) (gS : mg "_law_some" = some (.ref fS)) (GS : FnOk P w K mg base CX0 k fS fdS ["_law_box_here", "_law_values"] spSome)
    (FC : Fun K "_law_count" "_law_count" sCount fC fdC) (bC : Binds K fdC ["_law_box_here", "_law_many"] []) (gC : mg "_law_count" = some (.ref fC)) (GC : FnOk P w K mg base CX0 k fC fdC ["_law_box_here", "_law_many"] spCount)
    (FL : Fun K "_law_listed" "_law_listed" sLis fL fdL) (bL : Binds K fdL ["_law_parts"] []) (gL : mg "_law_listed" = some (.ref fL)) (GL : FnOk P w K mg base CX0 k fL fdL ["_law_parts"] spLis) (hk : 1 ≤ k) (T : Blt mg) :
    FnOk P w K mg base CX0 (k + 1) f fd ["_law_box_here", "_law_names_here"] spReq := by
  refine F.ok scReq (fun vs H Q E h => ?_) (fun cdv A outer s H vs Q E hr h => ?_)
  · obtain ⟨b, g, m, vp, n, xs, rfl, _⟩ := h
    rfl
  · obtain ⟨b, g, m, vp, n, xs, rfl, B, hn, hv, x1, x8, nm, q⟩ := h
    have hu : (A.deeper (envOfC "_law_requirement" (defScope sReq) s.heap.objs.size f cdv)).units + 65 < cLine := by
      have := hr.un
      omega
    refine ⟨_, pss_cons (ps_set (i := 2) scReq.nd rfl (Or.inl rfl) (pe_call GS hr (by rfl) gS FS.kp bS .nil pass0 (pa_cons (pv 0) (pa_cons (pv 1) pa_nil))))
      (pss_cons (ps_for PassesOwn.never rfl (pi_range1 rfl T.rng (pa_cons (pe_ix ix_list (pe_lst (pa_cons pe_int (pa_cons pe_int (pa_cons pe_int (pa_cons pe_int (pa_cons pe_int pa_nil)))))) (pe_call GT hr (by rfl) gT FT.kp bT .nil pass0 (pa_cons (pv 0) (pa_cons pe_int pa_nil))) (fun _ _ => rfl)) pa_nil)) (pg_name (i := 3) scReq.nd rfl (Or.inl rfl))
        (pss_cons (ps_set (i := 4) scReq.nd rfl (Or.inl rfl) (pe_slice sl_list (pe_call GS hr (by rfl) gS FS.kp bS .nil pass0 (pa_cons (pv 0) (pa_cons (pv 1) pa_nil))) po_none (po_some (pe_op op_add pe_int (pe_call GT hr (by rfl) gT FT.kp bT .nil pass0 (pa_cons (pv 0) (pa_cons pe_int pa_nil)))))))
        (pss_cons (ps_set (i := 5) scReq.nd rfl (Or.inl rfl) (pe_tup (pa_cons (pe_call GC hr (by rfl) gC FC.kp bC .nil pass0 (pa_cons (pv 0) (pa_cons (pe_callB call_len_seq (by rfl) T.len PySem.boot_len (pa_cons (pv 4) pa_nil)) pa_nil)))
            (pa_cons (pe_callTy call_tuple_of (by rfl) T.tup (by decide +kernel) (pa_cons (pv 4) pa_nil)) pa_nil))))
        (pss_one (ps_if (PW.pt (pw_and (pt_cmpR (op_notInD hu) (pv 5) (pv 2) (by rfl)) (pw_and1 (pt_cmpR op_lt (pe_call GL hr (by rfl) gL FL.kp bL .nil pass0 (pa_cons (pe_op op_catS (pv 2) (pe_lst (pa_cons (pv 5) pa_nil))) pa_nil)) pe_int (nomark _)))))
          (pss_one (ps_expr (pe_bm PySem.F.plainAttrs_list PySem.F.slot_list_insert PySem.F.type_list_insert mt_insertG (pv 2) (pa_cons (pe_call GT hr (by rfl) gT FT.kp bT .nil pass0 (pa_cons (pv 0) (pa_cons (pe_op op_add (pe_callB call_len_seq (by rfl) T.len PySem.boot_len (pa_cons (pv 2) pa_nil)) pe_int) pa_nil))) (pa_cons (pv 5) pa_nil))))) pss_nil)))))
      (pss_cons (ps_setLc (i := 4) (own := [("_law_part", 5)]) (g := gName 5) (by rfl) scReq.nd rfl rfl (sw_true rfl rfl rfl (by decide +kernel)) (pi_list (pv 2)) (blkOk_by (N := nReq) (sc := defScope sReq) (by decide +kernel))
        (fun _ _ _ _ _ => pg_name (i := 5) scReq.nd rfl (Or.inl rfl)) (fun _ _ _ _ _ => pts_one (pt_not (pt_val (pe_callB (show CallR _ (.builtin "isinstance") (rIsi K) from call_isi) (by rfl) T.isi (by decide +kernel) (pa_cons (pv 5) (pa_cons (pe_bltn (v := .ty "str") (by rfl) T.str (by decide +kernel) rfl) pa_nil)))))) (fun _ _ _ _ _ => pv 5))
      (C8.pss_cut (ps_if (PW.pt (pw_and (pt_cmpR op_gt (pe_callB call_len_seq (by rfl) T.len PySem.boot_len (pa_cons (pv 4) pa_nil)) pe_int (nomark _)) (pw_and1 (pt_cmpR op_eq (pe_call GT hr (by rfl) gT FT.kp bT .nil pass0 (pa_cons (pv 0) (pa_cons pe_int pa_nil))) pe_int (nomark _)))))
        (pss_one (ps_set (i := 2) scReq.nd rfl (Or.inl rfl) (pv 4))) pss_nil)
      (pss_one (ps_ret (pe_tup (pa_cons (pe_call GC hr (by rfl) gC FC.kp bC .nil pass0 (pa_cons (pv 0) (pa_cons (pe_callB call_len_seq (by rfl) T.len PySem.boot_len (pa_cons (pv 2) pa_nil)) pa_nil)))
            (pa_cons (pe_callTy call_tupleG (by rfl) T.tup (by decide +kernel) (pa_cons (pv 2) pa_nil)) pa_nil)))))))), ?_⟩
    have okx : ∀ x ∈ xs, PyData.strOk x = true := fun x mx => (nm x mx).ok
    obtain ⟨vb, vg⟩ := B.apart hv
    obtain ⟨ov, gv, ev⟩ := hv
    have sub : ∀ {ys zs : List Str}, (ys ++ zs).Perm xs → ys.length ≤ 8 ∧ (∀ y ∈ ys, y ∈ xs) ∧ (xs.Nodup → ys.Nodup) := fun {ys zs} pm => by
      have e := pm.length_eq
      rw [List.length_append] at e
      exact ⟨by omega, fun y my => pm.mem_iff.mp (List.mem_append_left _ my), fun nd => (List.nodup_append.mp (pm.nodup_iff.mpr nd)).1⟩
    -- parts = _law_some(..)
    refine ⟨.ref b, rfl, .ref vp, rfl, b, g, m, vp, n, xs, rfl, B, by omega, ⟨ov, gv, ev⟩, x1, by omega, fun l ys zs H1 nl h1 y1 pm B1 K1 => ?_⟩
    obtain ⟨lb, lg, lm⟩ := B.ne nl
    obtain ⟨y8, ysub, ynd⟩ := sub pm
    have nf : ∀ o u, H l ≠ some (.frz o u) := fun o u e => by
      rw [nl] at e
      cases e
    -- how often
    refine ⟨by show 5 ≤ sizeLine; decide, fun l5 n5 => ?_⟩
    obtain ⟨l5b, l5g, l5m⟩ := B1.ne n5
    refine ⟨.ref b, rfl, b, g, m, _, 5, rfl, B1.same (same_new n5), by omega, by decide, by decide, fun v0 H2 a0 a1 B2 K2 => ?_⟩
    obtain ⟨cnt, at5, c0, c4⟩ := five a0 a1
    have K12 : Keep b g H1 H2 := (Same.keep (same_new n5)).trans K2
    obtain ⟨o1, g1, e1⟩ := h1
    refine ⟨l5, _, v0, .int cnt, rfl, rfl, SqL.of (K2 _ _ upd_same l5b l5g), at5, cnt, rfl, by omega, by omega, for_range (lo := 0) (n := cnt.toNat) (fun i σ H3 => ∃ (us : List V) (ps : List Part) (y3 y4 y5 : Option V), σ = [some (.ref b), some (.ref vp), some (.ref l), y3, y4, y5] ∧
      Box H3 b g m (n + 10 + 14 * i) ∧ Keep b g H H3 ∧ GLs H3 l us ∧ Parts H3 us ps ∧ Fine xs (8 + i) 12 ps ∧ 1 ≤ ps.length) ?_ ?_ ?_⟩
    · refine ⟨ys.map V.str, ys.map Sum.inl, none, none, none, rfl, B2.more (by omega), K1.trans K12, ⟨o1, g1, K12 _ _ e1 lb lg⟩, Parts.names ys, ⟨fun p mp => ?_, ?_, ?_, fun nd => inl_nodup (ynd nd)⟩, by rw [List.length_map]; exact y1⟩
      · obtain ⟨y, my, rfl⟩ := List.mem_map.mp mp
        exact ysub y my
      · rw [List.length_map]
        omega
      · rw [namesOf_names]
        omega
    · rintro i σ H3 hi ⟨us, ps, y3, y4, y5, rfl, B3, K3, ⟨o3, g3, h3⟩, PS, fine, one⟩
      have i4 : i < 4 := by omega
      have hv3 : GLs H3 vp (xs.map V.str) := ⟨ov, gv, K3 _ _ ev vb vg⟩
      -- inner = _law_some(..)[:..]
      refine ⟨.ref b, rfl, .ref vp, rfl, b, g, m, vp, _, xs, rfl, B3, by omega, hv3, x1, by omega, fun l2 ys2 zs2 H4 nl2 h4 y21 pm2 B4 K4 => ?_⟩
      obtain ⟨y28, y2sub, y2nd⟩ := sub pm2
      obtain ⟨l2b, l2g, l2m⟩ := B3.ne nl2
      obtain ⟨o4, g4, e4⟩ := h4
      refine ⟨.ref b, rfl, b, g, m, _, 4, rfl, B4, by omega, by decide, by decide, fun v1 H5 e0 e1 B5 K5 => ?_⟩
      refine ⟨_, _, rfl, rfl, 1 + v1, rfl, l2, _, rfl, .inl (.inr ⟨o4, K5 _ _ e4 l2b l2g⟩), fun l3 nl3 => ?_⟩
      rw [cut_to ys2 (by omega)]
      have is1 : 1 ≤ (ys2.take (1 + v1).toNat).length := by
        rw [List.length_take]
        omega
      have is8 : (ys2.take (1 + v1).toNat).length ≤ 8 := by
        rw [List.length_take]
        omega
      have isub : ∀ y ∈ ys2.take (1 + v1).toNat, y ∈ xs := fun y my => y2sub y (List.mem_of_mem_take my)
      have isnd : xs.Nodup → (ys2.take (1 + v1).toNat).Nodup := fun nd => (y2nd nd).sublist (List.take_sublist _ _)
      generalize ys2.take (1 + v1).toNat = is at is1 is8 isub isnd
      obtain ⟨l3b, l3g, l3m⟩ := B5.ne nl3
      have il : (is.map V.str).length = is.length := List.length_map _
      -- part = (.., tuple(inner))
      refine ⟨.ref b, rfl, .ref l3, rfl, l3, _, rfl, .inl (SqL.of upd_same), b, g, m, _, _, rfl, B5.same (same_new nl3), by omega, by omega, by omega, fun c' H7 d0 d1 B7 K7 => ?_⟩
      have h7 : H7 l3 = some (.lst (is.map V.str)) := K7 _ _ upd_same l3b l3g
      refine ⟨.ref l3, rfl, l3, _, rfl, .inl ⟨SqL.of h7, fun t1 nt1 => ⟨by show 2 ≤ sizeLine; decide, fun t2 nt2 => ?_⟩⟩⟩
      have K37 : Keep b g H3 H7 := ((K4.trans K5).trans (Same.keep (same_new nl3))).trans K7
      have s9 : Same H7 (upd (upd H7 t1 (.tup (is.map V.str))) t2 (.tup [.int c', .ref t1])) := (same_new nt1).trans (same_new nt2)
      have t12 : t1 ≠ t2 := ne_of_none (upd_same (H := H7) (o := .tup (is.map V.str))) nt2
      have pt : PartAt (upd (upd H7 t1 (.tup (is.map V.str))) t2 (.tup [.int c', .ref t1])) (.ref t2) (.inr (c', is)) := ⟨t2, t1, rfl, upd_same, by rw [upd_ne t12, upd_same]⟩
      generalize upd (upd H7 t1 (.tup (is.map V.str))) t2 (.tup [.int c', .ref t1]) = H9 at s9 pt ⊢
      have K39 : Keep b g H3 H9 := K37.trans (Same.keep s9)
      have tup39 : Tups H3 H9 := K39.tups B3
      have h9 : H9 l = some (.frz o3 (.lst us)) := K39 _ _ h3 lb lg
      have PS9 := PS.tups tup39.tup
      have B9 : Box H9 b g m (n + 10 + 14 * i + 13) := (B7.same s9).more (by omega)
      have good : Good xs (.inr (c', is)) := ⟨is1, is8, d0, by omega, isnd, isub⟩
      have ulen := PS.length
      have pl := fine.len
      have room : us.length < sizeLine := small1000 (by omega)
      have skip : ∀ H', Same H9 H' → ∃ (us : List V) (ps : List Part) (y3' y4 y5 : Option V), [some (.ref b), some (.ref vp), some (.ref l), some (.int (0 + i)), some (.ref l3), some (.ref t2)] = [some (.ref b), some (.ref vp), some (.ref l), y3', y4, y5] ∧
          Box H' b g m (n + 10 + 14 * (i + 1)) ∧ Keep b g H H' ∧ GLs H' l us ∧ Parts H' us ps ∧ Fine xs (8 + (i + 1)) 12 ps ∧ 1 ≤ ps.length := fun H' s' =>
        ⟨us, ps, _, _, _, rfl, (B9.same s').more (by omega), (K3.trans K39).trans (Same.keep s'), ⟨o3, g3, s' _ _ h9⟩, PS9.tups (Same.tups s').tup, ⟨fine.all, by have := fine.len; omega, fine.nam, fine.nd⟩, one⟩
      refine ⟨.ref t2, rfl, .ref l, rfl, _, _, pt.dp, .lst (.inl (.inr ⟨o3, h9⟩)) PS9.dp, shaped_part okx good, shaped_parts okx fine.all, _, rfl, ite2 (fun fresh => ?_) (fun _ => skip H9 (Same.refl _))⟩
      have fresh := not_among (Good.lay okx good).1 fresh
      refine ⟨.ref l, rfl, .ref t2, rfl, by show 1 ≤ sizeLine; decide, fun l7 nl7 => ⟨l, l7, us, [.ref t2], rfl, rfl, .inr ⟨o3, same_new nl7 _ _ h9⟩, .inl upd_same, ?_, fun l8 nl8 => ?_⟩⟩
      · show us.length + 1 ≤ sizeLine
        omega
      have s8 := (same_new (o := .lst [.ref t2]) nl7).trans (same_new (o := .lst (us ++ [.ref t2])) nl8)
      refine ⟨l8, _, ps ++ [Sum.inr (c', is)], rfl, upd_same, (PS9.append (.cons pt .nil)).tups (Same.tups s8).tup, ?_, fun H10 s10 => ?_⟩
      · rw [List.length_append]
        show ps.length + 1 ≤ 900
        omega
      have s910 := s8.trans s10
      refine ⟨_, _, rfl, rfl, _, rfl, ite2 (fun small => ?_) (fun _ => skip H10 s910)⟩
      have small := of_decide_eq_true small
      rw [namesOf_append, List.length_append, show namesOf [(Sum.inr (c', is) : Part)] = is from List.append_nil is] at small
      -- parts.insert(.., part)
      have h10 := s910 _ _ h9
      have g10 : GLs H10 l us := ⟨o3, g3, h10⟩
      refine ⟨.ref l, rfl, .inl ⟨rfl, _, g10.seq⟩, .ref b, rfl, .ref l, rfl, l, _, rfl, .inl g10.seq, _, _, rfl, rfl, b, g, m, _, _, rfl, B9.same s910, by omega, by omega, by omega, fun v2 H11 f0 f1 B11 K11 => ?_⟩
      have h11 := K11 _ _ h10 lb lg
      have tup11 : Tups H9 H11 := (Same.tups s910).trans (K11.tups (B9.same s910))
      have PS11 := PS9.tups tup11.tup
      have pt11 := pt.tups tup11.tup
      have cutp := PS11.cut v2.toNat
      have whole : ps.take v2.toNat ++ ps.drop v2.toNat = ps := List.take_append_drop _ _
      have namesN : (namesOf (ps.take v2.toNat ++ [Sum.inr (c', is)] ++ ps.drop v2.toNat)).length = (namesOf ps).length + is.length := by
        have e := congrArg (fun q => (namesOf q).length) whole
        rw [namesOf_append, List.length_append] at e
        rw [namesOf_append, namesOf_append, List.length_append, List.length_append, show namesOf [(Sum.inr (c', is) : Part)] = is from List.append_nil is]
        omega
      have lensN : (ps.take v2.toNat ++ [Sum.inr (c', is)] ++ ps.drop v2.toNat).length = ps.length + 1 := by
        have e := congrArg List.length whole
        rw [List.length_append] at e
        rw [List.length_append, List.length_append, List.length_singleton]
        omega
      have permN : (ps.take v2.toNat ++ [Sum.inr (c', is)] ++ ps.drop v2.toNat).Perm (Sum.inr (c', is) :: ps) := by
        rw [List.append_assoc]
        have := put_perm ps v2.toNat (Sum.inr (c', is))
        simpa using this
      refine ⟨.ref t2, rfl, l, us, v2, t2, rfl, rfl, ⟨o3, g3, h11⟩, nf, room, f0, by omega, fun o' g' => ⟨us.take v2.toNat ++ [.ref t2] ++ us.drop v2.toNat, ps.take v2.toNat ++ [Sum.inr (c', is)] ++ ps.drop v2.toNat, _, _, _, rfl, (B11.store lb lg lm).more (by omega), ?_, ⟨o', g', upd_same⟩, ?_, ⟨?_, ?_, ?_, ?_⟩, ?_⟩⟩
      · intro d o e n1 n2
        rw [upd_ne (ne_of_none e nl)]
        exact K11 _ _ (s910 _ _ (K39 _ _ (K3 _ _ e n1 n2) n1 n2)) n1 n2
      · refine ((cutp.1.append (.cons pt11 .nil)).append cutp.2).tups fun a xs e => ?_
        rw [upd_ne (fun z => by rw [z, h11] at e; cases e)]
        exact e
      · intro p mp
        rcases List.mem_append.mp mp with mp | mp
        · rcases List.mem_append.mp mp with mp | mp
          · exact fine.all p (List.mem_of_mem_take mp)
          · rw [List.mem_singleton.mp mp]
            exact good
        · exact fine.all p (List.mem_of_mem_drop mp)
      · rw [lensN]
        omega
      · rw [namesN]
        omega
      · intro nd
        exact permN.nodup_iff.mpr (List.nodup_cons.mpr ⟨fresh, fine.nd nd⟩)
      · rw [lensN]
        omega
    · rintro σ H3 ⟨us, ps, y3, y4, y5, rfl, B3, K3, ⟨o3, g3, h3⟩, PS, fine, one⟩
      have cn : cnt.toNat ≤ 4 := by omega
      refine ⟨.ref l, rfl, l, rfl, ⟨_, .inl (.inr ⟨o3, h3⟩)⟩, fun D nD => lc_list (K := K) (a := l) (xs := us) (fun i H4 => Same H3 H4 ∧ ∃ (vs : List V) (qs : List Part), H4 D = some (.lst vs) ∧ (∀ x ∈ vs, ∃ a, x = V.ref a) ∧ Parts H4 vs qs ∧ (∀ p ∈ qs, Good xs p) ∧ qs.Sublist (ps.take i)) ?_ (fun i H4 _ h => .inl (.inr ⟨o3, h.1 _ _ h3⟩)) ?_ ?_⟩
      · exact ⟨same_new nD, [], [], upd_same, fun x mx => by simp at mx, .nil, fun p mp => by simp at mp, List.Sublist.refl _⟩
      · rintro i x H4 hx ⟨s4, vs, qs, hD, rf, QS, gq, sl⟩
        have lt := (List.getElem?_eq_some_iff.mp hx).1
        rw [PS.length] at lt
        have pl := fine.len
        obtain ⟨p, hp, pa⟩ := PS.at hx
        have pa4 := pa.tups (Same.tups s4).tup
        obtain ⟨ty, ty1, ty2⟩ := isi_part (K := K) pa4
        have tk : ps.take (i + 1) = ps.take i ++ [p] := by
          rw [List.take_add_one, hp]
          rfl
        have ql : qs.length ≤ ps.length := by
          have := sl.length_le
          rw [List.length_take] at this
          omega
        refine ⟨rfl, x, rfl, _, _, ty, .type "str", _, rfl, .ty _, ty1, ty2, _, rfl, ?_⟩
        cases p with
        | inl z => exact iteF ⟨s4, vs, qs, hD, rf, QS, gq, by rw [tk]; exact sl.trans (List.sublist_append_left _ _)⟩
        | inr y =>
          refine iteT ⟨x, rfl, vs, hD, ?_, fun d o e => ?_, vs ++ [x], qs ++ [Sum.inr y], upd_same, ?_, ?_, ?_, ?_⟩
          · rw [QS.length]
            exact small1000 (by omega)
          · rw [upd_ne (ne_of_none e nD)]
            exact s4 d o e
          · intro z mz
            rcases List.mem_append.mp mz with mz | mz
            · exact rf z mz
            · rw [List.mem_singleton.mp mz]
              obtain ⟨cy, ny⟩ := y
              obtain ⟨a, _, ea, _⟩ := pa4
              exact ⟨a, ea⟩
          · exact (QS.append (.cons pa4 .nil)).tups (tups_store hD).tup
          · intro p mp
            rcases List.mem_append.mp mp with mp | mp
            · exact gq p mp
            · rw [List.mem_singleton.mp mp]
              exact fine.all _ (List.mem_of_getElem? hp)
          · rw [tk]
            exact sl.append (List.Sublist.refl _)
      · rintro H4 ⟨s4, vs, qs, hD, rf, QS, gq, sl⟩
        rw [PS.length, List.take_length] at sl
        have fl := fine.len
        have fnm := fine.nam
        have ql := sl.length_le
        have h4 := s4 _ _ h3
        have K4 : Keep b g H H4 := K3.trans (Same.keep s4)
        have B4 : Box H4 b g m (n + 66) := (B3.same s4).more (by omega)
        obtain ⟨Db, Dg, Dm⟩ := B3.ne nD
        refine ⟨fun σ H5 => ∃ (l' : Addr) (us' : List V) (ps' : List Part) (z3 z4 z5 : Option V), σ = [some (.ref b), some (.ref vp), some (.ref l'), z3, z4, z5] ∧ l' ≠ b ∧ l' ≠ g ∧ Box H5 b g m (n + 67) ∧ Keep b g H H5 ∧ Lst H5 l' us' ∧ Parts H5 us' ps' ∧ Fine xs 12 12 ps' ∧ 1 ≤ ps'.length, ?_, ?_⟩
        · have stay : ∀ H5, Keep b g H4 H5 → Box H5 b g m (n + 67) → ∃ (l' : Addr) (us' : List V) (ps' : List Part) (z3 z4 z5 : Option V), [some (.ref b), some (.ref vp), some (.ref l), y3, some (.ref D), y5] = [some (.ref b), some (.ref vp), some (.ref l'), z3, z4, z5] ∧ l' ≠ b ∧ l' ≠ g ∧ Box H5 b g m (n + 67) ∧ Keep b g H H5 ∧ Lst H5 l' us' ∧ Parts H5 us' ps' ∧ Fine xs 12 12 ps' ∧ 1 ≤ ps'.length := fun H5 K5 B5 =>
            ⟨l, us, ps, _, _, _, rfl, lb, lg, B5, K4.trans K5, .inl ⟨o3, g3, K5 _ _ h4 lb lg⟩, (PS.tups (Same.tups s4).tup).tups (K5.tups B4).tup, ⟨fine.all, by omega, fnm, fine.nd⟩, one⟩
          refine ⟨.ref D, rfl, D, _, rfl, .inl (SqL.of hD), _, _, rfl, rfl, _, rfl, ite2 (fun e => ?_) (fun _ => stay H4 (Keep.refl _ _ _) (B4.more (by omega)))⟩
          have pos := of_decide_eq_true e
          rw [QS.length] at pos
          refine ⟨.ref b, rfl, b, g, m, _, 4, rfl, B4, by omega, by decide, by decide, fun v H5 a0 a1 B5 K5 => ⟨rfl, _, rfl, ite2 (fun _ => ?_) (fun _ => stay H5 K5 B5)⟩⟩
          exact ⟨.ref D, rfl, D, vs, qs, _, _, _, rfl, Db, Dg, B5, K4.trans K5, .inr ⟨K5 _ _ hD Db Dg, rf⟩, QS.tups (K5.tups B4).tup, ⟨gq, by omega, Nat.le_trans (namesOf_sub sl) fnm, fun nd => (fine.nd nd).sublist sl⟩, by omega⟩
        · rintro σ H5 ⟨l', us', ps', z3, z4, z5, rfl, l'b, l'g, B5, K5, h5, PS', fine', one'⟩
          have ul := PS'.length
          have fl' := fine'.len
          refine ⟨.ref b, rfl, .ref l', rfl, l', _, rfl, .inl h5.seq, b, g, m, _, _, rfl, B5, by omega, by omega, by omega, fun c H6 e1 e2 B6 K6 => ?_⟩
          have h6 : GLs H6 l' us' ∨ (SqL K H6 l' us' ∧ ∀ x ∈ us', ∃ a, x = V.ref a) := by
            rcases h5 with ⟨o, go, e⟩ | ⟨e, r⟩
            · exact .inl ⟨o, go, K6 _ _ e l'b l'g⟩
            · exact .inr ⟨SqL.of (K6 _ _ e l'b l'g), r⟩
          refine ⟨.ref l', rfl, l', _, rfl, h6, fun t1 ot nt1 gt => ⟨by show 2 ≤ sizeLine; decide, fun t2 nt2 => ?_⟩⟩
          have s8 := (same_new (o := .frz ot (.tup us')) nt1).trans (same_new (o := .tup [.int c, .ref t1]) nt2)
          have t12 : t1 ≠ t2 := ne_of_none (upd_same (H := H6) (o := .frz ot (.tup us'))) nt2
          have K06 : Keep b g H H6 := K5.trans K6
          obtain ⟨t2b, t2g, _⟩ := B6.ne (p := t2) (by
            have z := nt2
            rw [upd_ne t12.symm] at z
            exact z)
          have new : H t2 = none := by
            refine K06.free t2b t2g ?_
            have z := nt2
            rw [upd_ne t12.symm] at z
            exact z
          refine q t2 c ps' _ new ⟨t1, us', upd_same, ⟨ot, gt, by rw [upd_ne t12, upd_same]⟩, (PS'.tups (K6.tups B5).tup).tups (Same.tups s8).tup⟩ fine' e1 (by omega) ((B6.same s8).more (by omega)) (K06.trans (Same.keep s8))
end
end Moot
namespace Moot
open PySem PySem.Spec PyProof.Rows L2
structure Bq (mg : Str → Option Value) : Prop where
  T : Blt mg
  all : mg "all" = none
  letters : ∃ u, mg "LETTERS" = some u ∧ RelV (.str abc) u
  longest : ∃ u, mg "LONGEST_NAME" = some u ∧ RelV (.int 8) u
  mostn : ∃ u, mg "MOST_NAMES" = some u ∧ RelV (.int 12) u
  mostd : ∃ u, mg "MOST_DIFFERENT_NAMES" = some u ∧ RelV (.int 8) u
theorem abc_mem {c : Nat} (h : 97 ≤ c ∧ c ≤ 122) : c ∈ abc.cps.toList := by
  rw [abc_list]
  exact List.mem_map.mpr ⟨c - 97, List.mem_range.mpr (by omega), by omega⟩
theorem all_true {α : Type} (l : List α) : ((l.map fun _ => true).all id) = true := by
  rw [List.all_map]
  exact List.all_eq_true.mpr fun _ _ => rfl
/-- an inner requirement as it must be -/
def InnOk (c : Int) (ns : List Str) : Prop := 1 ≤ c ∧ c ≤ (ns.length : Int) ∧ ns.length ≤ 12 ∧ ns.Nodup ∧ ∀ x ∈ ns, Nm x
/-- a requirement as it must be, over the names xs -/
structure Valid (xs : List Str) (c : Int) (ps : List Part) : Prop where
  c1 : 1 ≤ c
  c2 : c ≤ (ps.length : Int)
  nd : ps.Nodup
  nam : (namesOf ps).length ≤ 12
  few : xs.length ≤ 8
  sub : ∀ x ∈ namesOf ps, x ∈ xs
  nm : ∀ x ∈ xs, Nm x
  inn : ∀ d ns, Sum.inr (d, ns) ∈ ps → InnOk d ns
theorem mem_names {ps : List Part} {p : Part} (m : p ∈ ps) {x : Str} (h : x ∈ namesOf [p]) : x ∈ namesOf ps := by
  obtain ⟨a, b, rfl⟩ := List.append_of_mem m
  rw [namesOf_append, show p :: b = [p] ++ b from rfl, namesOf_append]
  exact List.mem_append_right _ (List.mem_append_left _ h)
theorem len_names : ∀ {ps : List Part}, (∀ d ns, Sum.inr (d, ns) ∈ ps → 1 ≤ ns.length) → ps.length ≤ (namesOf ps).length
  | [], _ => Nat.le_refl _
  | .inl x :: ps, h => by
    have := len_names (ps := ps) fun d ns m => h d ns (List.mem_cons_of_mem _ m)
    show ps.length + 1 ≤ (x :: namesOf ps).length
    rw [List.length_cons]
    omega
  | .inr (d, ns) :: ps, h => by
    have := len_names (ps := ps) fun d ns m => h d ns (List.mem_cons_of_mem _ m)
    have := h d ns List.mem_cons_self
    show ps.length + 1 ≤ (ns ++ namesOf ps).length
    rw [List.length_append]
    omega
theorem Valid.len {xs : List Str} {c : Int} {ps : List Part} (h : Valid xs c ps) : ps.length ≤ 12 := by
  have := len_names (ps := ps) fun d ns m => by
    have := h.inn d ns m
    have := this.1
    have := (h.inn d ns m).2.1
    omega
  have := h.nam
  omega
section
variable {P : Program} {w : World} {K : PySem.W.Frag} {mg : Str → Option Value} {base : Heap}
/-! is_name -/
abbrev sIn : Stmt := top 17
abbrev nIn : List Str := ["value", "letter"]
theorem scIn : FnScope nIn ["value"] (defScope sIn) := ⟨rfl, rfl, rfl, by decide +kernel, rfl, by decide +kernel, by decide +kernel⟩
def spIn (K : PySem.W.Frag) : Sp := fun vs H Q _ => (∃ z : Str, vs = [.str z] ∧ Nm z ∧ ∀ H', Same H H' → Q (.bl true) H') ∨ ∃ a, vs = [.ref a] ∧ TyX K H (.ref a) (.type "tuple") ∧ Q (.bl false) H
theorem ok_isname {f : Addr} {fd : FuncData} {k : Nat} (F : Fun K "is_name" "is_name" sIn f fd) (T : Bq mg) : FnOk P w K mg base CX0 (k + 1) f fd ["value"] (spIn K) := by
  obtain ⟨uL, mL, rL⟩ := T.letters
  obtain ⟨uG, mG, rG⟩ := T.longest
  refine F.ok scIn (fun vs H Q E h => ?_) (fun cdv A outer s H vs Q E hr h => ?_)
  · rcases h with ⟨z, rfl, _⟩ | ⟨a, rfl, _⟩ <;> rfl
  · refine ⟨_, pss_cons (ps_if (pt_not (pt_val (pe_callB call_isi (by rfl) T.T.isi (by decide +kernel) (pa_cons (pv 0) (pa_cons (pe_bltn (v := .ty "str") (by rfl) T.T.str (by decide +kernel) rfl) pa_nil))))) (pss_one (ps_ret pe_bl)) pss_nil)
      (pss_cons (ps_if (pt_not (pt_chain op_le op_le pe_int (pe_callB call_len_str (by rfl) T.T.len PySem.boot_len (pa_cons (pv 0) pa_nil)) (pe_glob (by rfl) mG rG))) (pss_one (ps_ret pe_bl)) pss_nil)
      (pss_one (ps_ret (pe_callB (cr_all rfl) (by rfl) T.all (by decide +kernel) (pa_cons (pe_lc (own := [("letter", 1)]) (g := gName 1) (tt := tYes) (by rfl) scIn.nd (pi_str (pv 0)) (blkOk_by (N := nIn) (sc := defScope sIn) (by decide +kernel))
          (fun _ _ _ _ _ => pg_name (i := 1) scIn.nd rfl (Or.inl rfl)) (fun _ _ _ _ _ => pts_nil) (fun _ _ _ _ _ => pe_cmpR op_in_sign (pv 1) (pe_glob (by rfl) mL rL) (by rfl))) pa_nil))))), ?_⟩
    rcases h with ⟨z, rfl, nz, q⟩ | ⟨a, rfl, ty, q⟩
    rotate_left
    · exact ⟨.ref a, rfl, _, _, .type "tuple", .type "str", false, rfl, .ty _, ty, kit_ty (r := false) (by decide +kernel), _, rfl, iteT q⟩
    have l8 : z.length ≤ 8 := nz.hi
    have l1 : 1 ≤ z.length := nz.lo
    refine ⟨.str z, rfl, _, _, .type "str", .type "str", true, rfl, .ty _, .base (.str z), kit_ty (r := true) (by decide +kernel), _, rfl, iteF ?_⟩
    refine ⟨.str z, rfl, z, rfl, Nat.le_of_lt (small1000 (by omega)), _, _, rfl, rfl, _, rfl, ?_⟩
    rw [decide_eq_true (show (1 : Int) ≤ (z.length : Int) by omega)]
    refine iteT ⟨_, _, rfl, rfl, _, rfl, ?_⟩
    rw [decide_eq_true (show (z.length : Int) ≤ 8 by omega)]
    refine iteF ?_
    refine ⟨.str z, rfl, z, rfl, fun D nD => ?_⟩
    refine lc_it walk_str (fun j H1 => Same H H1 ∧ H1 D = some (.lst (((z.cps.toList.take j).map fun _ => true).map V.bl))) ?_ (fun _ _ _ _ => trivial) ?_ ?_
    · exact ⟨same_new nD, upd_same⟩
    · rintro j x H1 H2 hj ⟨s1, hD⟩ ⟨rfl, c, hc, rfl⟩
      have tk : z.cps.toList.take (j + 1) = z.cps.toList.take j ++ [c] := by
        rw [List.take_add_one, Array.getElem?_toList, hc]
        rfl
      have mc : c ∈ z.cps.toList := List.mem_of_getElem? (by rw [Array.getElem?_toList]; exact hc)
      refine ⟨rfl, .str (sg c), rfl, c, abc, rfl, rfl, ?_⟩
      rw [decide_eq_true (abc_mem (nz.low c mc))]
      refine ⟨_, hD, ?_, fun a o e => ?_, ?_⟩
      · rw [List.length_map, List.length_map, List.length_take]
        have : z.cps.toList.length = z.length := by simp [Str.length]
        exact small1000 (by omega)
      · rw [upd_ne (ne_of_none e nD)]
        exact s1 a o e
      · rw [upd_same, tk, List.map_append, List.map_append]
        rfl
    · rintro H1 ⟨s1, hD⟩
      refine ⟨D, _, rfl, SqL.of hD, ?_⟩
      rw [all_true]
      exact q H1 s1
/-! is_whole_number -/
abbrev sWh : Stmt := top 18
theorem scWh : FnScope ["value"] ["value"] (defScope sWh) := ⟨rfl, rfl, rfl, by decide +kernel, rfl, by decide +kernel, by decide +kernel⟩
def spWh : Sp := fun vs H Q _ => ∃ i : Int, vs = [.int i] ∧ Q (.bl true) H
theorem ok_whole {f : Addr} {fd : FuncData} {k : Nat} (F : Fun K "is_whole_number" "is_whole_number" sWh f fd) (T : Bq mg) : FnOk P w K mg base CX0 (k + 1) f fd ["value"] spWh := by
  refine F.ok scWh (fun vs H Q E h => ?_) (fun cdv A outer s H vs Q E hr h => ?_)
  · obtain ⟨i, rfl, _⟩ := h
    rfl
  · obtain ⟨i, rfl, q⟩ := h
    refine ⟨_, pss_one (ps_ret (pe_and (pe_callB call_isi (by rfl) T.T.isi (by decide +kernel) (pa_cons (pv 0) (pa_cons (pe_bltn (v := .ty "int") (by rfl) T.T.int (by decide +kernel) rfl) pa_nil)))
      (pe_one (pe_not (pe_callB call_isi (by rfl) T.T.isi (by decide +kernel) (pa_cons (pv 0) (pa_cons (pe_bltn (v := .ty "bool") (by rfl) T.T.bool (by decide +kernel) rfl) pa_nil))))))), ?_⟩
    exact ⟨.int i, rfl, _, _, .type "int", .type "int", true, rfl, .ty _, .base (.int i), kit_ty (r := true) (by decide +kernel), _, rfl, iteT ⟨.int i, rfl, _, _, .type "int", .type "bool", false, rfl, .ty _, .base (.int i), kit_ty (r := false) (by decide +kernel), _, rfl, q⟩⟩
/-! is_counted_tuple -/
abbrev sCt : Stmt := top 19
abbrev nCt : List Str := ["value", "count", "parts"]
theorem scCt : FnScope nCt ["value"] (defScope sCt) := ⟨rfl, rfl, rfl, by decide +kernel, rfl, by decide +kernel, by decide +kernel⟩
theorem PTup.ty {H : Hp} {p : Addr} {vs : List V} (h : PTup H p vs) : TyX K H (.ref p) (.type "tuple") := by
  rcases h with ⟨o, _, e⟩ | ⟨e, _⟩
  · exact .fTuple e
  · exact .base (.tup e)
def spCt : Sp := fun vs H Q _ => ∃ (r p : Addr) (c : Int) (ws : List V), vs = [.ref r] ∧ H r = some (.tup [.int c, .ref p]) ∧ PTup H p ws ∧ 1 ≤ c ∧ c ≤ (ws.length : Int) ∧ Q (.bl true) H
theorem ok_counted {f fW : Addr} {fd fdW : FuncData} {k : Nat} (F : Fun K "is_counted_tuple" "is_counted_tuple" sCt f fd) (T : Bq mg) (FW : Fun K "is_whole_number" "is_whole_number" sWh fW fdW) (bW : Binds K fdW ["value"] []) (gW : mg "is_whole_number" = some (.ref fW)) :
    FnOk P w K mg base CX0 (k + 2) f fd ["value"] spCt := by
  have GW : FnOk P w K mg base CX0 (k + 1) fW fdW ["value"] spWh := ok_whole FW T
  refine F.ok scCt (fun vs H Q E h => ?_) (fun cdv A outer s H vs Q E hr h => ?_)
  · obtain ⟨r, p, c, ws, rfl, _⟩ := h
    rfl
  · obtain ⟨r, p, c, ws, rfl, hr1, hp1, c1, c2, q⟩ := h
    refine ⟨_, pss_cons (ps_if (PW.pt (pw_or (pt_not (pt_val (pe_callB call_isi (by rfl) T.T.isi (by decide +kernel) (pa_cons (pv 0) (pa_cons (pe_bltn (v := .ty "tuple") (by rfl) T.T.tup (by decide +kernel) rfl) pa_nil)))))
          (pw_or1 (pt_cmpR op_ne (pe_callB call_len_seq (by rfl) T.T.len PySem.boot_len (pa_cons (pv 0) pa_nil)) pe_int (nomark _))))) (pss_one (ps_ret pe_bl)) pss_nil)
      (pss_cons (ps_asg (pv 0) (pg_tup (by rfl) (pgs_cons (pg_name (i := 1) scCt.nd rfl (Or.inl rfl)) (pgs_cons (pg_name (i := 2) scCt.nd rfl (Or.inl rfl)) pgs_nil))))
      (pss_cons (ps_if (PW.pt (pw_or (pt_not (pt_val (pe_call GW hr (by rfl) gW FW.kp bW .nil pass0 (pa_cons (pv 1) pa_nil)))) (pw_or1 (pt_not (pt_val (pe_callB call_isi (by rfl) T.T.isi (by decide +kernel) (pa_cons (pv 2) (pa_cons (pe_bltn (v := .ty "tuple") (by rfl) T.T.tup (by decide +kernel) rfl) pa_nil)))))))) (pss_one (ps_ret pe_bl)) pss_nil)
      (pss_one (ps_ret (pe_chain op_le op_le pe_int (pv 1) (pe_callB call_len_seq (by rfl) T.T.len PySem.boot_len (pa_cons (pv 2) pa_nil))))))), ?_⟩
    refine ⟨.ref r, rfl, _, _, .type "tuple", .type "tuple", true, rfl, .ty _, .base (.tup hr1), kit_ty (r := true) (by decide +kernel), _, rfl, iteF ⟨.ref r, rfl, r, _, rfl, .inr (SqT.of hr1), rfl, _, rfl, iteF ?_⟩⟩
    refine ⟨.ref r, rfl, r, _, rfl, SqT.of hr1, rfl, _, _, rfl, _, _, rfl, rfl, ?_⟩
    refine ⟨.int c, rfl, c, rfl, _, rfl, iteF ⟨.ref p, rfl, _, _, .type "tuple", .type "tuple", true, rfl, .ty _, hp1.ty, kit_ty (r := true) (by decide +kernel), _, rfl, iteF ?_⟩⟩
    refine ⟨.int c, rfl, _, _, rfl, rfl, _, rfl, ?_⟩
    rw [decide_eq_true c1]
    refine iteT ⟨.ref p, rfl, p, _, rfl, .inr hp1.seq, _, _, rfl, rfl, ?_⟩
    show Q (.bl (decide (c ≤ (ws.length : Int)))) H
    rw [decide_eq_true c2]
    exact q
/-! has_duplicates -/
abbrev sHd : Stmt := top 20
theorem scHd : FnScope ["parts"] ["parts"] (defScope sHd) := ⟨rfl, rfl, rfl, by decide +kernel, rfl, by decide +kernel, by decide +kernel⟩
/-- none twice: texts alone, or mixed with tokens -/
def spHd (K : PySem.W.Frag) : Sp := fun vs H Q _ => ∃ p, vs = [.ref p] ∧ ((∃ zs : List Str, NodesAt K H p zs ∧ zs.length < 64 ∧ zs.Nodup) ∨ ∃ (ws : List V) (ps : List Part), GTp H p ws ∧ Parts H ws ps ∧ ps.length < 63 ∧ ps.Nodup) ∧ ∀ H', Same H H' → Q (.bl false) H'
theorem ok_dup {f : Addr} {fd : FuncData} {k : Nat} (F : Fun K "has_duplicates" "has_duplicates" sHd f fd) (T : Bq mg) : FnOk P w K mg base CX0 (k + 1) f fd ["parts"] (spHd K) := by
  refine F.ok scHd (fun vs H Q E h => ?_) (fun cdv A outer s H vs Q E hr h => ?_)
  · obtain ⟨p, rfl, _⟩ := h
    rfl
  · obtain ⟨p, rfl, hp, q⟩ := h
    have hu : (A.deeper (envOfC "has_duplicates" (defScope sHd) s.heap.objs.size f cdv)).units + 12 < cLine := by
      have := hr.un
      omega
    refine ⟨_, pss_one (ps_ret (pe_cmpR op_lt (pe_callB (CallR.or cr_txtLen cr_mixLen) (by rfl) T.T.len PySem.boot_len (pa_cons (pe_callTy (CallR.or (cr_txtSetA rfl) (cr_mixSet rfl hu)) (by rfl) T.T.set (by decide +kernel) (pa_cons (pv 0) pa_nil)) pa_nil)) (pe_callB call_len_seq (by rfl) T.T.len PySem.boot_len (pa_cons (pv 0) pa_nil)) (nomark _))), ?_⟩
    rcases hp with ⟨zs, hp, few, nd⟩ | ⟨ws, ps, hp, PS, few, nd⟩
    · refine ⟨.ref p, rfl, .inl ⟨p, zs, rfl, hp, few, fun a m na hm => .inl ⟨a, _, m, rfl, upd_same, by omega, fun least => ?_⟩⟩⟩
      have le := least zs nd fun k mk => decide_eq_true mk
      have s1 := same_new (o := TxtSet P w a (fun k => decide (k ∈ zs)) m) na
      refine ⟨.ref p, rfl, p, _, rfl, hp.same s1, _, _, rfl, rfl, ?_⟩
      show Q (.bl (decide ((m : Int) < ((zs.map V.str).length : Int)))) _
      rw [List.length_map, decide_eq_false (show ¬ ((m : Int) < (zs.length : Int)) by omega)]
      exact q _ s1
    · refine ⟨.ref p, rfl, .inr ⟨p, ws, ps, rfl, hp, PS, few, fun a n na hn all _ => .inr ⟨a, n, rfl, upd_same, by omega, ?_⟩⟩⟩
      have e := all nd
      have s1 := same_new (o := NSet a n) na
      have hp1 : PTup (upd H a (NSet a n)) p ws := (show PTup H p ws from .inl hp).tups (Same.tups s1)
      refine ⟨.ref p, rfl, p, _, rfl, .inr hp1.seq, _, _, rfl, rfl, ?_⟩
      show Q (.bl (decide ((n : Int) < (ws.length : Int)))) _
      rw [PS.length, decide_eq_false (show ¬ ((n : Int) < (ps.length : Int)) by omega)]
      exact q _ s1
/-! is_simple_requirement -/
abbrev sSr : Stmt := top 21
abbrev nSr : List Str := ["value", "names", "name"]
theorem scSr : FnScope nSr ["value"] (defScope sSr) := ⟨rfl, rfl, rfl, by decide +kernel, rfl, by decide +kernel, by decide +kernel⟩
def spSr : Sp := fun vs H Q _ => ∃ (r p : Addr) (c : Int) (ns : List Str), vs = [.ref r] ∧ H r = some (.tup [.int c, .ref p]) ∧ H p = some (.tup (ns.map V.str)) ∧ InnOk c ns ∧ ∀ H', Same H H' → Q (.bl true) H'
theorem ok_simple {f f1 f2 f4 : Addr} {fd fd1 fd2 fd4 : FuncData} {k : Nat} (F : Fun K "is_simple_requirement" "is_simple_requirement" sSr f fd) (T : Bq mg)
    (F1 : Fun K "is_counted_tuple" "is_counted_tuple" sCt f1 fd1) (b1 : Binds K fd1 ["value"] []) (g1 : mg "is_counted_tuple" = some (.ref f1)) (G1 : FnOk P w K mg base CX0 k f1 fd1 ["value"] spCt)
    (F2 : Fun K "is_name" "is_name" sIn f2 fd2) (b2 : Binds K fd2 ["value"] []) (g2 : mg "is_name" = some (.ref f2)) (G2 : FnOk P w K mg base CX0 k f2 fd2 ["value"] (spIn K))
    (F4 : Fun K "has_duplicates" "has_duplicates" sHd f4 fd4) (b4 : Binds K fd4 ["parts"] []) (g4 : mg "has_duplicates" = some (.ref f4)) (G4 : FnOk P w K mg base CX0 k f4 fd4 ["parts"] (spHd K)) :
    FnOk P w K mg base CX0 (k + 1) f fd ["value"] spSr := by
  refine F.ok scSr (fun vs H Q E h => ?_) (fun cdv A outer s H vs Q E hr h => ?_)
  · obtain ⟨r, p, c, ns, rfl, _⟩ := h
    rfl
  · obtain ⟨r, p, c, ns, rfl, hr1, hp1, ⟨c1, c2, few, nd, nm⟩, q⟩ := h
    refine ⟨_, pss_cons (ps_if (pt_not (pt_val (pe_call G1 hr (by rfl) g1 F1.kp b1 .nil pass0 (pa_cons (pv 0) pa_nil)))) (pss_one (ps_ret pe_bl)) pss_nil)
      (pss_cons (ps_set (i := 1) scSr.nd rfl (Or.inl rfl) (pe_ix ix_tup (pv 0) pe_int (fun _ _ => rfl)))
      (pss_one (ps_ret (pe_and (pe_callB (cr_all rfl) (by rfl) T.all (by decide +kernel) (pa_cons (pe_lc (own := [("name", 2)]) (g := gName 2) (tt := tYes) (by rfl) scSr.nd (pi_tup (pv 1)) (blkOk_by (N := nSr) (sc := defScope sSr) (by decide +kernel))
          (fun _ _ _ _ _ => pg_name (i := 2) scSr.nd rfl (Or.inl rfl)) (fun _ _ _ _ _ => pts_nil)
          (fun _ _ _ _ _ => pe_call G2 hr (by rfl) g2 F2.kp b2 .nil pass0 (pa_cons (pv 2) pa_nil))) pa_nil))
        (pe_one (pe_not (pe_call G4 hr (by rfl) g4 F4.kp b4 .nil pass0 (pa_cons (pv 1) pa_nil)))))))), ?_⟩
    refine ⟨.ref r, rfl, r, p, c, _, rfl, hr1, .inr ⟨hp1, ns, rfl⟩, c1, by rw [List.length_map]; exact c2, _, rfl, iteF ?_⟩
    refine ⟨.ref r, rfl, r, _, 1, .ref p, rfl, rfl, SqT.of hr1, atI_nat (j := 1) rfl, ?_⟩
    refine ⟨.ref p, rfl, p, rfl, ⟨_, SqT.of hp1⟩, fun D nD => lc_tup (K := K) (a := p) (xs := ns.map V.str) (fun i H1 => Same H H1 ∧ H1 D = some (.lst (((ns.take i).map fun _ => true).map V.bl))) ⟨same_new nD, upd_same⟩ (fun i H1 _ h => SqT.of (h.1 _ _ hp1)) ?_ ?_⟩
    · rintro i x H1 hx ⟨s1, hD⟩
      rw [List.getElem?_map] at hx
      obtain ⟨z, hz, rfl⟩ := Option.map_eq_some_iff.mp hx
      have tk : ns.take (i + 1) = ns.take i ++ [z] := by
        rw [List.take_add_one, hz]
        rfl
      refine ⟨rfl, .str z, rfl, .inl ⟨z, rfl, nm z (List.mem_of_getElem? hz), fun H2 s2 => ?_⟩⟩
      refine ⟨_, s2 _ _ hD, ?_, fun d o e => ?_, ?_⟩
      · rw [List.length_map, List.length_map, List.length_take]
        exact small1000 (by omega)
      · rw [upd_ne (ne_of_none e nD)]
        exact s2 _ _ (s1 d o e)
      · rw [upd_same, tk, List.map_append, List.map_append]
        rfl
    · rintro H1 ⟨s1, hD⟩
      refine ⟨D, _, rfl, SqL.of hD, ?_⟩
      rw [all_true]
      refine ⟨_, rfl, iteT ?_⟩
      exact ⟨.ref p, rfl, p, rfl, .inl ⟨ns, .inr (SqT.of (s1 _ _ hp1)), by omega, nd⟩, fun H2 s2 => ⟨_, rfl, q H2 (s1.trans s2)⟩⟩
/-! is_requirement -/
abbrev sIr : Stmt := top 22
abbrev nIr : List Str := ["value", "parts", "names", "part"]
theorem scIr : FnScope nIr ["value"] (defScope sIr) := ⟨rfl, rfl, rfl, by decide +kernel, rfl, by decide +kernel, by decide +kernel⟩
def spIr : Sp := fun vs H Q _ => ∃ (r : Addr) (c : Int) (ps : List Part) (xs : List Str), vs = [.ref r] ∧ ReqAt H r c ps ∧ Valid xs c ps ∧ ∀ H', Same H H' → Q (.bl true) H'
theorem ok_isreq {f f1 f2 f3 f4 f5 : Addr} {fd fd1 fd2 fd3 fd4 fd5 : FuncData} {k : Nat} (F : Fun K "is_requirement" "is_requirement" sIr f fd) (T : Bq mg)
    (F1 : Fun K "is_counted_tuple" "is_counted_tuple" sCt f1 fd1) (b1 : Binds K fd1 ["value"] []) (g1 : mg "is_counted_tuple" = some (.ref f1)) (G1 : FnOk P w K mg base CX0 k f1 fd1 ["value"] spCt)
    (F2 : Fun K "is_name" "is_name" sIn f2 fd2) (b2 : Binds K fd2 ["value"] []) (g2 : mg "is_name" = some (.ref f2)) (G2 : FnOk P w K mg base CX0 k f2 fd2 ["value"] (spIn K))
    (F3 : Fun K "is_simple_requirement" "is_simple_requirement" sSr f3 fd3) (b3 : Binds K fd3 ["value"] []) (g3 : mg "is_simple_requirement" = some (.ref f3)) (G3 : FnOk P w K mg base CX0 k f3 fd3 ["value"] spSr)
    (F4 : Fun K "has_duplicates" "has_duplicates" sHd f4 fd4) (b4 : Binds K fd4 ["parts"] []) (g4 : mg "has_duplicates" = some (.ref f4)) (G4 : FnOk P w K mg base CX0 k f4 fd4 ["parts"] (spHd K))
    (F5 : Fun K "names_with_repetition" "names_with_repetition" sNwr f5 fd5) (b5 : Binds K fd5 ["requirement"] []) (g5 : mg "names_with_repetition" = some (.ref f5)) (G5 : FnOk P w K mg base CX0 k f5 fd5 ["requirement"] (spNwr fun _ => True)) :
    FnOk P w K mg base CX0 (k + 1) f fd ["value"] spIr := by
  obtain ⟨uN, mN, rN⟩ := T.mostn
  obtain ⟨uD, mD, rD⟩ := T.mostd
  refine F.ok scIr (fun vs H Q E h => ?_) (fun cdv A outer s H vs Q E hr h => ?_)
  · obtain ⟨r, c, ps, xs, rfl, _⟩ := h
    rfl
  · obtain ⟨r, c, ps, xs, rfl, R, V0, q⟩ := h
    refine ⟨_, pss_cons (ps_if (pt_not (pt_val (pe_call G1 hr (by rfl) g1 F1.kp b1 .nil pass0 (pa_cons (pv 0) pa_nil)))) (pss_one (ps_ret pe_bl)) pss_nil)
      (pss_cons (ps_set (i := 1) scIr.nd rfl (Or.inl rfl) (pe_ix ix_tup (pv 0) pe_int (fun _ _ => rfl)))
      (pss_cons (ps_if (pt_not (pt_val (pe_callB (cr_all rfl) (by rfl) T.all (by decide +kernel) (pa_cons (pe_lc (own := [("part", 3)]) (g := gName 3) (tt := tYes) (by rfl) scIr.nd (pi_tup (pv 1)) (blkOk_by (N := nIr) (sc := defScope sIr) (by decide +kernel))
          (fun _ _ _ _ _ => pg_name (i := 3) scIr.nd rfl (Or.inl rfl)) (fun _ _ _ _ _ => pts_nil)
          (fun _ _ _ _ _ => pe_or (pe_call G2 hr (by rfl) g2 F2.kp b2 .nil pass0 (pa_cons (pv 3) pa_nil)) (pe_one (pe_call G3 hr (by rfl) g3 F3.kp b3 .nil pass0 (pa_cons (pv 3) pa_nil))))) pa_nil)))) (pss_one (ps_ret pe_bl)) pss_nil)
      (pss_cons (ps_if (pt_val (pe_call G4 hr (by rfl) g4 F4.kp b4 .nil pass0 (pa_cons (pv 1) pa_nil))) (pss_one (ps_ret pe_bl)) pss_nil)
      (pss_cons (ps_set (i := 2) scIr.nd rfl (Or.inl rfl) (pe_call G5 hr (by rfl) g5 F5.kp b5 .nil pass0 (pa_cons (pv 0) pa_nil)))
      (pss_one (ps_ret (pe_and (pe_cmpR op_le (pe_callB call_len_seq (by rfl) T.T.len PySem.boot_len (pa_cons (pv 2) pa_nil)) (pe_glob (by rfl) mN rN) (nomark _))
        (pe_one (pe_cmpR op_le (pe_callB cr_txtLen2 (by rfl) T.T.len PySem.boot_len (pa_cons (pe_callTy (cr_txtSetA rfl) (by rfl) T.T.set (by decide +kernel) (pa_cons (pv 2) pa_nil)) pa_nil)) (pe_glob (by rfl) mD rD) (nomark _)))))))))), ?_⟩
    obtain ⟨p, ws, hr1, hp1, PS⟩ := id R
    have l12 := V0.len
    have wl := PS.length
    refine ⟨.ref r, rfl, r, p, c, _, rfl, hr1, hp1, V0.c1, by rw [wl]; exact V0.c2, _, rfl, iteF ?_⟩
    refine ⟨.ref r, rfl, r, _, 1, .ref p, rfl, rfl, SqT.of hr1, atI_nat (j := 1) rfl, ?_⟩
    refine ⟨.ref p, rfl, p, rfl, ⟨_, hp1.seq⟩, fun D nD => lc_tup (K := K) (a := p) (xs := ws) (fun i H1 => Same H H1 ∧ H1 D = some (.lst (((ps.take i).map fun _ => true).map V.bl))) ⟨same_new nD, upd_same⟩ (fun i H1 _ h => (hp1.tups (Same.tups h.1)).seq) ?_ ?_⟩
    · rintro i x H1 hx ⟨s1, hD⟩
      obtain ⟨pt, hpt, pa⟩ := PS.at hx
      have mem : pt ∈ ps := List.mem_of_getElem? hpt
      have tk : ps.take (i + 1) = ps.take i ++ [pt] := by
        rw [List.take_add_one, hpt]
        rfl
      have fin : ∀ H2, Same H1 H2 → ∃ acc, H2 D = some (.lst acc) ∧ acc.length < sizeLine ∧ Same H (upd H2 D (.lst (acc ++ [.bl true]))) ∧ upd H2 D (.lst (acc ++ [.bl true])) D = some (.lst (((ps.take (i + 1)).map fun _ => true).map V.bl)) := fun H2 s2 => by
        refine ⟨_, s2 _ _ hD, ?_, fun d o e => ?_, ?_⟩
        · rw [List.length_map, List.length_map, List.length_take]
          exact small1000 (by omega)
        · rw [upd_ne (ne_of_none e nD)]
          exact s2 _ _ (s1 d o e)
        · rw [upd_same, tk, List.map_append, List.map_append]
          rfl
      have pa1 := pa.tups (Same.tups s1).tup
      cases pt with
      | inl z =>
        cases pa
        exact ⟨rfl, .str z, rfl, .inl ⟨z, rfl, V0.nm z (V0.sub z (mem_names mem List.mem_cons_self)), fun H2 s2 => ⟨_, rfl, iteT (fin H2 s2)⟩⟩⟩
      | inr y =>
        obtain ⟨d, ns⟩ := y
        obtain ⟨a, b, rfl, ha, hb⟩ := pa1
        exact ⟨rfl, .ref a, rfl, .inr ⟨a, rfl, .base (.tup ha), _, rfl, iteF ⟨.ref a, rfl, a, b, d, ns, rfl, ha, hb, V0.inn d ns mem, fun H2 s2 => fin H2 s2⟩⟩⟩
    · rintro H1 ⟨s1, hD⟩
      refine ⟨D, _, rfl, SqL.of hD, ?_⟩
      rw [all_true]
      refine ⟨_, rfl, iteF ?_⟩
      have dup : (∃ zs : List Str, NodesAt K H1 p zs ∧ zs.length < 64 ∧ zs.Nodup) ∨ ∃ (ws : List V) (ps : List Part), GTp H1 p ws ∧ Parts H1 ws ps ∧ ps.length < 63 ∧ ps.Nodup := by
        rcases hp1 with ⟨o, g, e⟩ | ⟨e, ns, rfl⟩
        · exact .inr ⟨ws, ps, ⟨o, g, s1 _ _ e⟩, PS.tups (Same.tups s1).tup, by omega, V0.nd⟩
        · have en : ps = ns.map Sum.inl := by
            clear V0 l12 wl q e hD R hr1 s1 nD
            have : ∀ {us : List V} {qs : List Part}, Parts H us qs → ∀ ms : List Str, us = ms.map V.str → qs = ms.map Sum.inl := by
              intro us qs h
              induction h with
              | nil =>
                intro ms e
                cases ms with
                | nil => rfl
                | cons _ _ => cases e
              | @cons v vs p ps a _ ih =>
                intro ms e
                cases ms with
                | nil => cases e
                | cons y ms =>
                  rw [List.map_cons] at e
                  injection e with e1 e2
                  subst e1
                  rw [ih ms e2]
                  cases p with
                  | inl z =>
                    have a : V.str y = .str z := a
                    injection a with a
                    rw [a]
                    rfl
                  | inr z =>
                    obtain ⟨d, l⟩ := z
                    obtain ⟨_, _, e, _⟩ := a
                    cases e
            exact this PS ns rfl
          refine .inl ⟨ns, .inr (SqT.of (s1 _ _ e)), ?_, ?_⟩
          · have := l12
            rw [en, List.length_map] at this
            omega
          · have := V0.nd
            rw [en] at this
            exact List.Pairwise.of_map Sum.inl (fun a b ne e => ne (congrArg Sum.inl e)) this
      refine ⟨.ref p, rfl, p, rfl, dup, fun H2 s2 => ⟨_, rfl, iteF ?_⟩⟩
      have s02 := s1.trans s2
      have n12 := V0.nam
      refine ⟨.ref r, rfl, r, c, ps, rfl, R.tups (Same.tups s02), trivial, by omega, fun l H3 s3 nl hl => ?_⟩
      refine ⟨.ref l, rfl, l, _, rfl, .inl (SqL.of hl), _, _, rfl, rfl, _, rfl, ?_⟩
      rw [List.length_map, decide_eq_true (show (((namesOf ps).length : Nat) : Int) ≤ 12 by omega)]
      refine iteT ⟨.ref l, rfl, l, namesOf ps, rfl, .inl (SqL.of hl), by omega, fun a m na hm => ⟨a, _, m, rfl, upd_same, by omega, fun most => ⟨_, _, rfl, rfl, ?_⟩⟩⟩
      have le := most xs fun k hk => V0.sub k (of_decide_eq_true hk)
      have f8 := V0.few
      show Q (.bl (decide ((m : Int) ≤ 8))) _
      rw [decide_eq_true (show (m : Int) ≤ 8 by omega)]
      exact q _ ((s02.trans s3).trans (same_new na))
end
end Moot
namespace Moot
open PySem PySem.Spec PyProof.Rows L2
/-- more of the builtins -/
structure Bn (mg : Str → Option Value) : Prop where
  any : mg "any" = none
  dict : mg "dict" = none
theorem nd_len {α : Type} [DecidableEq α] : ∀ (l D : List α), l.Nodup → (∀ y ∈ l, y ∈ D) → l.length ≤ D.length
  | [], _, _, _ => Nat.zero_le _
  | y :: l, D, n, s => by
    obtain ⟨n1, n2⟩ := List.nodup_cons.mp n
    have my := s y List.mem_cons_self
    have := nd_len l (D.erase y) n2 fun z mz => (List.mem_erase_of_ne fun (e : z = y) => n1 (e ▸ mz)).mpr (s z (List.mem_cons_of_mem _ mz))
    have e := List.length_erase_of_mem my
    have := List.length_pos_of_mem my
    rw [List.length_cons]
    omega
/-! one sorted list of the same names -/
theorem lt_tr {a b c : List Nat} (h1 : ltCps b a = false) (h2 : ltCps c b = false) : ltCps c a = false := by
  rw [ltCps_eq] at h1 h2 ⊢
  have h1' : ¬ b < a := of_decide_eq_false h1
  have h2' : ¬ c < b := of_decide_eq_false h2
  exact decide_eq_false (List.not_lt.mpr (List.le_trans (List.not_lt.mp h1') (List.not_lt.mp h2')))
theorem rising_all : ∀ {r : List Str} {x : Str}, risingS x r = true → (∀ y ∈ r, ltCps y.cps.toList x.cps.toList = false) ∧ r.Pairwise fun a b => ltCps b.cps.toList a.cps.toList = false
  | [], _, _ => ⟨fun y m => by simp at m, List.Pairwise.nil⟩
  | z :: r, x, h => by
    have h' : (!ltCps z.cps.toList x.cps.toList && risingS z r) = true := h
    rw [Bool.and_eq_true, Bool.not_eq_true'] at h'
    obtain ⟨a, b⟩ := rising_all h'.2
    refine ⟨fun y m => ?_, List.pairwise_cons.mpr ⟨a, b⟩⟩
    rcases List.mem_cons.mp m with e | m
    · rw [e]
      exact h'.1
    · exact lt_tr h'.1 (a y m)
theorem sorted_pairs {l : List Str} (h : sortedS l = true) : l.Pairwise fun a b => ltCps b.cps.toList a.cps.toList = false := by
  cases l with
  | nil => exact List.Pairwise.nil
  | cons x r => exact List.pairwise_cons.mpr (rising_all h)
abbrev Srt (L : List Str) : Prop := L.Pairwise fun a b => ltCps b.cps.toList a.cps.toList = false
theorem srt_one {a b : List Str} (ha : Srt a) (na : a.Nodup) (hb : Srt b) (nb : b.Nodup) (h : ∀ x, x ∈ a ↔ x ∈ b) : a = b := by
  refine List.Perm.eq_of_pairwise (fun x y _ _ h1 h2 => ?_) ha hb ((List.perm_ext_iff_of_nodup na nb).mpr h)
  rw [ltCps_eq] at h1 h2
  have h1' : ¬ y.cps.toList < x.cps.toList := of_decide_eq_false h1
  have h2' : ¬ x.cps.toList < y.cps.toList := of_decide_eq_false h2
  have e := List.le_antisymm (List.not_lt.mp h1') (List.not_lt.mp h2')
  rcases x with ⟨x⟩
  rcases y with ⟨y⟩
  have : x = y := Array.toList_inj.mp e
  rw [this]
section
variable {P : Program} {w : World} {K : PySem.W.Frag} {mg : Str → Option Value} {base : Heap}
/-! of node sets -/
def spNs2 (K : PySem.W.Frag) : Sp := fun vs H Q _ => ∃ (l : Addr) (zs : List Str), vs = [.ref l] ∧ NodesAt K H l zs ∧ zs.length < 64 ∧
  ∀ (p : Addr) (ys : List Str) (H' : Hp), Same H H' → H p = none → H' p = some (.tup (ys.map V.str)) → Srt ys → ys.Nodup → (∀ x, x ∈ ys ↔ x ∈ zs) → Q (.ref p) H'
theorem ok_ns2 {f : Addr} {fd : FuncData} {k : Nat} (F : Fun K "node_set" "node_set" sNs f fd) (T : Bq mg) : FnOk P w K mg base CX0 (k + 1) f fd ["names"] (spNs2 K) := by
  refine F.ok scNs (fun vs H Q E h => ?_) (fun cdv A outer s H vs Q E hr h => ?_)
  · obtain ⟨l, zs, rfl, _⟩ := h
    rfl
  · obtain ⟨l, zs, rfl, hl, few, q⟩ := h
    refine ⟨_, pss_one (ps_ret (pe_callTy call_tuple_of (by rfl) T.T.tup (by decide +kernel) (pa_cons (pe_callB (cr_txtSorted rfl) (by rfl) T.T.srt (by decide +kernel)
      (pa_cons (pe_callTy (cr_txtSetA rfl) (by rfl) T.T.set (by decide +kernel) (pa_cons (pv 0) pa_nil)) pa_nil)) pa_nil))), ?_⟩
    refine ⟨.ref l, rfl, l, zs, rfl, hl, few, fun a m na hm => ?_⟩
    refine ⟨a, _, m, rfl, upd_same, by omega, fun ys p srt nd mem len np => ?_⟩
    refine ⟨p, _, rfl, .inl ⟨SqL.of upd_same, fun t nt => ?_⟩⟩
    have s1 := same_new (o := TxtSet P w a (fun k => decide (k ∈ zs)) m) na
    have s2 := same_new (o := .lst (ys.map V.str)) np
    have s3 := same_new (o := .tup (ys.map V.str)) nt
    exact q t ys _ ((s1.trans s2).trans s3) ((s1.trans s2).free nt) upd_same (sorted_pairs srt) nd fun x => (mem x).trans (by simp)
/-! names_outside -/
abbrev sOut : Stmt := top 10
abbrev nOut : List Str := ["names", "excluded", "name"]
theorem scOut : FnScope nOut ["names", "excluded"] (defScope sOut) := ⟨rfl, rfl, rfl, by decide +kernel, rfl, by decide +kernel, by decide +kernel⟩
def spOut (K : PySem.W.Frag) : Sp := fun vs H Q _ => ∃ (a e : Addr) (xs es : List Str), vs = [.ref a, .ref e] ∧ H a = some (.tup (xs.map V.str)) ∧ NodesAt K H e es ∧ xs.length ≤ 100 ∧
  ∀ (p : Addr) (H' : Hp), Same H H' → H p = none → H' p = some (.tup ((xs.filter fun x => decide (x ∉ es)).map V.str)) → Q (.ref p) H'
theorem ok_out {f : Addr} {fd : FuncData} {k : Nat} (F : Fun K "names_outside" "names_outside" sOut f fd) (T : Bq mg) : FnOk P w K mg base CX0 (k + 1) f fd ["names", "excluded"] (spOut K) := by
  refine F.ok scOut (fun vs H Q E h => ?_) (fun cdv A outer s H vs Q E hr h => ?_)
  · obtain ⟨a, e, xs, es, rfl, _⟩ := h
    rfl
  · obtain ⟨a, e, xs, es, rfl, ha, he, few, q⟩ := h
    refine ⟨_, pss_one (ps_ret (pe_callTy call_tuple_of (by rfl) T.T.tup (by decide +kernel) (pa_cons (pe_lc (own := [("name", 2)]) (g := gName 2) (by rfl) scOut.nd (pi_tup (pv 0)) (blkOk_by (N := nOut) (sc := defScope sOut) (by decide +kernel))
        (fun _ _ _ _ _ => pg_name (i := 2) scOut.nd rfl (Or.inl rfl)) (fun _ _ _ _ _ => pts_one (pt_cmpR (show OpR _ (compareOp .NotIn) (rIn K true) from op_notIn_seq) (pv 2) (pv 1) (by rfl))) (fun _ _ _ _ _ => pv 2)) pa_nil))), ?_⟩
    refine ⟨.ref a, rfl, a, rfl, ⟨_, SqT.of ha⟩, fun D nD => lc_tup (K := K) (a := a) (xs := xs.map V.str) (fun i H1 => Same H H1 ∧ H1 D = some (.lst (((xs.take i).filter fun x => decide (x ∉ es)).map V.str))) ?_ (fun i H1 _ h => SqT.of (h.1 _ _ ha)) ?_ ?_⟩
    · exact ⟨same_new nD, upd_same⟩
    · rintro i x H1 hx ⟨s1, hD⟩
      rw [List.getElem?_map] at hx
      obtain ⟨z, hz, rfl⟩ := Option.map_eq_some_iff.mp hx
      have tk : xs.take (i + 1) = xs.take i ++ [z] := by
        rw [List.take_add_one, hz]
        rfl
      refine ⟨rfl, .str z, rfl, .ref e, rfl, e, _, rfl, he.same s1, rfl, flats es, _, rfl, ?_⟩
      rw [inV_str]
      by_cases m : z ∈ es
      · rw [decide_eq_true m]
        refine iteF ⟨s1, ?_⟩
        rw [hD, tk, List.filter_append]
        simp [m]
      · rw [decide_eq_false m]
        refine iteT ⟨.str z, rfl, _, hD, ?_, fun d o c => ?_, ?_⟩
        · rw [List.length_map]
          refine small1000 (Nat.le_trans (List.length_filter_le _ _) ?_)
          rw [List.length_take]
          omega
        · rw [upd_ne (ne_of_none c nD)]
          exact s1 d o c
        · rw [upd_same, tk, List.filter_append]
          simp [m]
    · rintro H1 ⟨s1, hD⟩
      rw [List.length_map, List.take_length] at hD
      refine ⟨D, _, rfl, .inl ⟨SqL.of hD, fun t nt => ?_⟩⟩
      exact q t _ (s1.trans (same_new nt)) (s1.free nt) upd_same
end
/-! tuple(d), d a dict; a dict comprehension over a list -/
section
variable {X : Cx}
def rTupD : List V → Hp → VK → Prop := fun xs H Q => ∃ (p : Addr) (kvs : List (L2.Key × V)), xs = [.ref p] ∧ H p = some (.dK kvs) ∧ ∀ q, H q = none → Q (.ref q) (upd H q (.tup (kvs.map fun kv => kV kv.1)))
theorem call_tuple_dK (hc : X.calm = true) : CallR X (.type "tuple") rTupD := by
  intro pins s σ H xs us Q I r h
  obtain ⟨p, kvs, rfl, hk, q⟩ := h
  obtain ⟨u, rfl, rx⟩ := vals1 r
  cases rx
  obtain ⟨z, lo, vs, rk, hd⟩ := (show ObjOk X.prog X.w H s.heap p (.dK kvs) from I.hok p _ hk)
  obtain ⟨ep, hat⟩ := hd.dictAt
  have hl : kvs.length = vs.length := Paired.length rk
  have ht : s.TypeIs (.ref p) "dict" := by
    obtain ⟨o, es, ep', e1, e2, _⟩ := hd
    exact ⟨o, e1, e2.1⟩
  refine callType_codes (Q₁ := fun obj s₁ => s₁.TypeIs obj "tuple" ∧ EP X pins σ Q obj s₁) F.called_tuple (F.typeCall_tuple_1 _) F.entry_object_init ?_ fun obj s₁ h₁ => ?_
  · refine codeAny_of_tree ?_
    show wpAny _ _ (do checkBuiltinCall "tuple.__new__" ⟨[.type "tuple", .ref p], []⟩; again (.builtin "tuple.__new__" ⟨[.type "tuple", .ref p], []⟩)) _ _ s
    refine wpAny_bind (wpAny_of_eq (F.newCall_tuple_1 _) (wpAny_pure ⟨plainId_quiet F.plain_tuple_new _, codeAny_builtin F.entry_tuple_new ?_⟩))
    rw [Around.under_plainId F.plain_tuple_new _]
    have hsub := sub_tuple_self
    have hinit := init_tuple_lookup
    have hmh := madeHere_tuple
    have src := PySem.W.kdl_dict (prog := X.prog) (w := X.w) (knd := mixKind X.prog X.w) (kvs := vs) (ep := ep) lo
    unfold Builtin.«tuple.__new__»
    generalize hcol : collect = col
    wp_walk using wpAny_typeOf ht
    subst hcol
    refine PySem.W.kdu_collect src (I.ok.hd hc) hat (by rw [← hl]; exact z) fun h' tk acc hkeep hacc => ?_
    have el : acc.toList.length = vs.length := by rw [Array.length_toList, hacc.1]
    have vals : Vals (kvs.map fun kv => kV kv.1) acc.toList := by
      have e := keys_at el fun j v e => hacc.2 j v (by rw [← Array.getElem?_toList]; exact e)
      have e2 : (vs.map fun p => kV p.1) = kvs.map fun kv => kV kv.1 := by
        have e3 := congrArg (List.map kV) (KV.keys rk)
        rw [List.map_map, List.map_map] at e3
        exact e3.symm
      rw [e2] at e
      exact e
    have I1 : Inv X pins σ H { s with heap := h', toks := tk } := I.kept hkeep
    show wpAny _ _ (Builtin.Tuple.tupleExact acc.toList.toArray >>= fun v => ret v) _ _ _
    unfold Builtin.Tuple.tupleExact
    refine wpAny_bind (wpAny_newObj_type ?_ (by show acc.toList.toArray.size ≤ sizeLine; rw [List.size_toArray, el, ← hl]; exact z))
    refine wpAny_pure ⟨⟨_, Heap.get?_push_size _ rfl, rfl⟩, .ref _, _, I1.laid (t' := tk) (o := .tup (kvs.map fun kv => kV kv.1)) (fun b ob q => Heap.get?_push_of_some _ q) (Nat.le_refl _) ?_, rfl, q _ (I1.hok.fresh (Nat.le_refl _))⟩
    exact ⟨by rw [List.length_map]; exact z, acc.toList, vals, ⟨_, Heap.get?_push_size _ rfl, rfl, 0, rfl⟩⟩
  · exact ⟨h₁.1, F.args_object_init_2 obj _, object_init_meets F.called_tuple.init.lookup F.called_tuple.made (by decide) X.prog X.w X.A.in1 _ s₁ ⟨h₁.1, rfl, h₁.2⟩⟩
end
theorem dc_it {J : It} {n : Nat} {G : Hp → Prop} {Y : Nat → Hp → V → Hp → Prop} (wk : Walk J n G Y) {g : TG} {tt : TT} {tk tv : TE} {vs : List Nat} {σ : L2.St} {H1 : Hp} {D : Addr} {Qd : Hp → Prop} (Pv : Nat → Hp → Prop) (h0 : Pv 0 (upd H1 D (.dK []))) (hG : ∀ i H, i ≤ n → Pv i H → G H)
    (hs : ∀ i x H H', i < n → Pv i H → Y i H x H' → g x (wipe σ vs) H' fun σ2 H2 => wipe σ2 vs = wipe σ vs ∧ tt σ2 H2 fun b H3 =>
      if b = true then tk σ2 H3 fun y H4 => tv σ2 H4 fun z H5 => ∃ kvs k, y = kV k ∧ H5 D = some (.dK kvs) ∧ kvs.length < sizeLine ∧ Pv (i + 1) (upd H5 D (.dK (putK kvs k z))) else Pv (i + 1) H3) (hd : ∀ H, Pv n H → Qd H) :
    ∃ W : Nat → Nat → Hp → Prop, (∃ m, W 0 m (upd H1 D (.dK []))) ∧ ∀ i m H, W i m H →
      (J.stop i H ∧ Qd H) ∨ (J.go i H ∧ ∃ Nx : Hp → Prop, (∀ H', Nx H' → ∃ m', m' < m ∧ W (i + 1) m' H') ∧ ∀ x H', J.yld i H x H' → g x (wipe σ vs) H' fun σ2 H2 => wipe σ2 vs = wipe σ vs ∧ tt σ2 H2 fun b H3 =>
        if b = true then tk σ2 H3 fun y H4 => tv σ2 H4 fun z H5 => ∃ kvs k, y = kV k ∧ H5 D = some (.dK kvs) ∧ kvs.length < sizeLine ∧ Nx (upd H5 D (.dK (putK kvs k z))) else Nx H3) := by
  refine ⟨fun i m H => m + i = n ∧ Pv i H, ⟨n, rfl, h0⟩, ?_⟩
  rintro i m H ⟨e, p⟩
  have q := hG i H (by omega) p
  by_cases lt : i < n
  · exact .inr ⟨wk.goes i H lt q, Pv (i + 1), fun H' p' => ⟨n - (i + 1), by omega, by omega, p'⟩, fun x H' y => hs i x H H' lt p (wk.yields i H x H' lt q y)⟩
  · obtain rfl : i = n := by omega
    exact .inl ⟨wk.stops H q, hd H p⟩
end Moot
namespace Moot
open PySem PySem.Spec PyProof.Rows L2
/-- what each name requires -/
abbrev Rq := Str → Int × List Part
/-! a dict from names to requirements -/
abbrev Rws := List (Str × Addr)
def kvs (rs : Rws) : List (L2.Key × V) := rs.map fun p => ((Sum.inr p.1 : L2.Key), V.ref p.2)
theorem kvs_len (rs : Rws) : (kvs rs).length = rs.length := List.length_map _
theorem val_in : ∀ {rs : Rws} {y : Str}, y ∈ rs.map (·.1) → ∃ r, (y, r) ∈ rs ∧ valV (kvs rs) (Sum.inr y : L2.Key) = some (.ref r)
  | [], _, h => by cases h
  | (x, r) :: rs, y, h => by
    by_cases e : x = y
    · subst e
      exact ⟨r, List.mem_cons_self, valV_pos (p := ((Sum.inr x : L2.Key), V.ref r)) rfl⟩
    · have m : y ∈ rs.map (·.1) := by
        rcases List.mem_cons.mp h with h | h
        · exact absurd h.symm e
        · exact h
      obtain ⟨r', m', e'⟩ := val_in m
      refine ⟨r', List.mem_cons_of_mem _ m', ?_⟩
      show valV (((Sum.inr x : L2.Key), V.ref r) :: kvs rs) (Sum.inr y : L2.Key) = _
      rw [← e']
      unfold valV
      rw [List.find?_cons_of_neg (by simpa using e)]
theorem val_out {rs : Rws} {y : Str} (h : y ∉ rs.map (·.1)) : valV (kvs rs) (Sum.inr y : L2.Key) = none := by
  unfold valV kvs
  rw [List.find?_eq_none.mpr]
  · rfl
  · intro p mp
    obtain ⟨q, mq, rfl⟩ := List.mem_map.mp mp
    simp
    intro e
    exact h (List.mem_map.mpr ⟨q, mq, e⟩)
/-- rows as a list of pairs -/
def RowsAt (H : Hp) (ts : List Addr) (rs : Rws) : Prop := ts.length = rs.length ∧ ∀ (i : Nat) (t : Addr), ts[i]? = some t → ∃ x r, rs[i]? = some (x, r) ∧ Rd H t (.tup [.str x, .ref r])
theorem RowsAt.same {H H' : Hp} {ts : List Addr} {rs : Rws} (h : RowsAt H ts rs) (s : Same H H') : RowsAt H' ts rs := ⟨h.1, fun i t e => let ⟨x, r, h1, h2⟩ := h.2 i t e; ⟨x, r, h1, h2.imp (fun e => s _ _ e) fun ⟨o, e⟩ => ⟨o, s _ _ e⟩⟩⟩
section
variable {P : Program} {w : World} {K : PySem.W.Frag} {mg : Str → Option Value} {base : Heap}
/-! requirements_by_name -/
abbrev sRb : Stmt := top 55
abbrev nRb : List Str := ["rows", "requirements", "name", "requirement"]
theorem scRb : FnScope nRb ["rows"] (defScope sRb) := ⟨rfl, rfl, rfl, by decide +kernel, rfl, by decide +kernel, by decide +kernel⟩
/-- what rows of this kind keep -/
structure Fit (H : Hp) (c : Rq) (xs : List Str) (rs : Rws) : Prop where
  nd : xs.Nodup
  few : xs.length ≤ 8
  nm : ∀ x ∈ xs, Nm x
  ok : ∀ x ∈ xs, Valid xs (c x).1 (c x).2
  keys : (rs.map (·.1)).Perm xs
  each : ∀ q ∈ rs, ReqAt H q.2 (c q.1).1 (c q.1).2
theorem Fit.same {H H' : Hp} {c : Rq} {xs : List Str} {rs : Rws} (h : Fit H c xs rs) (s : Same H H') : Fit H' c xs rs := { h with each := fun q m => (h.each q m).tups (Same.tups s) }
theorem Fit.len {H : Hp} {c : Rq} {xs : List Str} {rs : Rws} (h : Fit H c xs rs) : rs.length = xs.length := by
  have := h.keys.length_eq
  rwa [List.length_map] at this
def spRb (K : PySem.W.Frag) : Sp := fun vs H Q _ => ∃ (l : Addr) (ts : List Addr) (rs : Rws) (c : Rq) (xs : List Str), vs = [.ref l] ∧ SqL K H l (ts.map V.ref) ∧ RowsAt H ts rs ∧ Fit H c xs rs ∧ ∀ (D : Addr) (H' : Hp), Same H H' → H D = none → H' D = some (.dK (kvs rs)) → Q (.ref D) H'
theorem ok_byname {f f1 f2 : Addr} {fd fd1 fd2 : FuncData} {k : Nat} (F : Fun K "requirements_by_name" "requirements_by_name" sRb f fd) (T : Bq mg)
    (F1 : Fun K "is_name" "is_name" sIn f1 fd1) (b1 : Binds K fd1 ["value"] []) (g1 : mg "is_name" = some (.ref f1)) (G1 : FnOk P w K mg base CX0 k f1 fd1 ["value"] (spIn K))
    (F2 : Fun K "is_requirement" "is_requirement" sIr f2 fd2) (b2 : Binds K fd2 ["value"] []) (g2 : mg "is_requirement" = some (.ref f2)) (G2 : FnOk P w K mg base CX0 k f2 fd2 ["value"] spIr) :
    FnOk P w K mg base CX0 (k + 1) f fd ["rows"] (spRb K) := by
  refine F.ok scRb (fun vs H Q E h => ?_) (fun cdv A outer s H vs Q E hr h => ?_)
  · obtain ⟨l, ts, rs, c, xs, rfl, _⟩ := h
    rfl
  · obtain ⟨l, ts, rs, c, xs, rfl, hl, ra, fit, q⟩ := h
    have hu := hu_of hr
    refine ⟨_, pss_cons (ps_set (i := 1) scRb.nd rfl (Or.inl rfl) pe_dnewK)
      (pss_cons (ps_for PassesOwn.never rfl (pi_list (pv 0)) (pg_tup (by rfl) (pgs_cons (pg_name (i := 2) scRb.nd rfl (Or.inl rfl)) (pgs_cons (pg_name (i := 3) scRb.nd rfl (Or.inl rfl)) pgs_nil)))
        (pss_cons (ps_if (pt_not (pt_val (pe_call G1 hr (by rfl) g1 F1.kp b1 .nil pass0 (pa_cons (pv 2) pa_nil)))) (pss_one ps_never) pss_nil)
        (pss_cons (ps_if (pt_cmp (pc_din hu (pv 2) (pv 1))) (pss_one ps_never) pss_nil)
        (pss_cons (ps_if (pt_not (pt_val (pe_call G2 hr (by rfl) g2 F2.kp b2 .nil pass0 (pa_cons (pv 3) pa_nil)))) (pss_one ps_never) pss_nil)
        (pss_one (ps_dput hu (pv 1) (pv 2) (pv 3) rfl))))))
      (pss_one (ps_ret (pv 1)))), ?_⟩
    intro D nD
    have flen := fit.len
    have few := fit.few
    have knd : (rs.map (·.1)).Nodup := fit.keys.nodup_iff.mpr fit.nd
    refine ⟨.ref l, rfl, l, rfl, ⟨_, Same.seq (same_new nD) hl⟩, for_list (K := K) (a := l) (xs := ts.map V.ref) (fun i σ H1 => ∃ (y2 y3 : Option V), σ = [some (.ref l), some (.ref D), y2, y3] ∧ Same H H1 ∧ H1 D = some (.dK (kvs (rs.take i)))) ?_ ?_ ?_ ?_⟩
    · exact ⟨none, none, rfl, same_new nD, upd_same⟩
    · rintro i σ H1 _ ⟨_, _, _, s1, _⟩
      exact Same.seq s1 hl
    · rintro i y σ H1 hy ⟨y2, y3, rfl, s1, hD⟩
      rw [List.getElem?_map] at hy
      obtain ⟨t, ht, rfl⟩ := Option.map_eq_some_iff.mp hy
      obtain ⟨x, r, hxr, htt⟩ := ra.2 i t ht
      have mem : (x, r) ∈ rs := List.mem_of_getElem? hxr
      have tk : rs.take (i + 1) = rs.take i ++ [(x, r)] := by
        rw [List.take_add_one, hxr]
        rfl
      have xin : x ∈ xs := fit.keys.mem_iff.mp (List.mem_map.mpr ⟨_, mem, rfl⟩)
      have new : x ∉ (rs.take i).map (·.1) := by
        intro m
        have e : rs.map (·.1) = (rs.take i).map (·.1) ++ (rs.drop i).map (·.1) := by rw [← List.map_append, List.take_append_drop]
        rw [e] at knd
        refine (List.nodup_append.mp knd).2.2 x m x ?_ rfl
        refine List.mem_map.mpr ⟨(x, r), ?_, rfl⟩
        exact List.mem_of_getElem? (i := 0) (by rw [List.getElem?_drop]; exact hxr)
      refine ⟨t, _, rfl, .inl (htt.imp (fun e => s1 _ _ e) fun ⟨o, e⟩ => ⟨o, s1 _ _ e⟩), rfl, _, _, rfl, _, _, rfl, rfl, ?_⟩
      refine ⟨.str x, rfl, .inl ⟨x, rfl, fit.nm x xin, fun H2 s2 => ⟨_, rfl, iteF ?_⟩⟩⟩
      have hD2 := s2 _ _ hD
      refine ⟨.str x, rfl, .ref D, rfl, D, _, rfl, DGet.k (k := Sum.inr x) hD2, _, rfl, ?_⟩
      rw [val_out new]
      refine iteF ?_
      have u2 : ReqAt H2 r (c x).1 (c x).2 := (fit.each _ mem).tups (Same.tups (s1.trans s2))
      refine ⟨.ref r, rfl, r, _, _, xs, rfl, u2, fit.ok x xin, fun H3 s3 => ⟨_, rfl, iteF ?_⟩⟩
      have hD3 := s3 _ _ hD2
      refine ⟨.ref r, rfl, .ref D, rfl, .str x, rfl, D, _, rfl, DPut.k (k := Sum.inr x) hD3 ?_, ?_⟩
      · rw [kvs_len, List.length_take]
        exact small1000 (by omega)
      · refine ⟨_, _, rfl, fun d o e => ?_, ?_⟩
        · rw [upd_ne (ne_of_none e nD)]
          exact s3 _ _ (s2 _ _ (s1 d o e))
        · rw [upd_same, putK_new _ (val_out new), tk]
          show some (HO.dK (kvs (rs.take i) ++ _)) = some (HO.dK ((rs.take i ++ [(x, r)]).map _))
          rw [List.map_append]
          rfl
    · rintro σ H1 ⟨y2, y3, rfl, s1, hD⟩
      rw [List.length_map, ra.1, List.take_length] at hD
      exact ⟨.ref D, rfl, q D H1 s1 nD hD⟩
end
end Moot
namespace Moot
open PySem PySem.Spec PyProof.Rows L2
/-- all but what stands at D stays -/
def But (D : Addr) (H H' : Hp) : Prop := ∀ b o, H b = some o → b ≠ D → H' b = some o
theorem But.refl (D : Addr) (H : Hp) : But D H H := fun _ _ e _ => e
theorem But.same {D : Addr} {H H1 H2 : Hp} (b : But D H H1) (s : Same H1 H2) : But D H H2 := fun c o e n => s c o (b c o e n)
theorem but_upd {D : Addr} {H : Hp} {o : HO} : But D H (upd H D o) := fun b u e n => by rw [upd_ne n]; exact e
theorem But.req {D : Addr} {H H' : Hp} {o : HO} {r : Addr} {c : Int} {ps : List Part} (b : But D H H') (hD : H D = some o) (no : (∀ xs, o ≠ .tup xs) ∧ ∀ u x, o ≠ .frz u x) (h : ReqAt H r c ps) : ReqAt H' r c ps :=
  h.tups ⟨fun a xs e => b _ _ e fun z => by rw [z, hD] at e; cases e; exact no.1 _ rfl, fun a u x e => b _ _ e fun z => by rw [z, hD] at e; cases e; exact no.2 _ _ rfl⟩
section
variable {P : Program} {w : World} {K : PySem.W.Frag} {mg : Str → Option Value} {base : Heap}
/-! check_names_used -/
abbrev sCu : Stmt := top 56
abbrev nCu : List Str := ["requirements", "name", "used"]
theorem scCu : FnScope nCu ["requirements"] (defScope sCu) := ⟨rfl, rfl, rfl, by decide +kernel, rfl, by decide +kernel, by decide +kernel⟩
def spCu : Sp := fun vs H Q _ => ∃ (D : Addr) (rs : Rws) (c : Rq) (xs : List Str), vs = [.ref D] ∧ H D = some (.dK (kvs rs)) ∧ Fit H c xs rs ∧ ∀ H', Same H H' → Q .non H'
theorem ok_used {f f1 : Addr} {fd fd1 : FuncData} {k : Nat} (F : Fun K "check_names_used" "check_names_used" sCu f fd) (T : Bq mg)
    (F1 : Fun K "names_in" "names_in" sNin f1 fd1) (b1 : Binds K fd1 ["requirement"] []) (g1 : mg "names_in" = some (.ref f1)) (G1 : FnOk P w K mg base CX0 k f1 fd1 ["requirement"] spNin) : FnOk P w K mg base CX0 (k + 1) f fd ["requirements"] spCu := by
  refine F.ok scCu (fun vs H Q E h => ?_) (fun cdv A outer s H vs Q E hr h => ?_)
  · obtain ⟨D, rs, c, xs, rfl, _⟩ := h
    rfl
  · obtain ⟨D, rs, c, xs, rfl, hD, fit, q⟩ := h
    have hu := hu_of hr
    refine ⟨_, pss_one (ps_lock (ps_for PassesOwn.never rfl (pi_keys (pv 0)) (pg_name (i := 1) scCu.nd rfl (Or.inl rfl))
      (pss_one (ps_for PassesOwn.never rfl (pi_tup (pe_call G1 hr (by rfl) g1 F1.kp b1 .nil pass0 (pa_cons (pe_dget hu (pv 0) (pv 1) (fun _ _ => rfl)) pa_nil))) (pg_name (i := 2) scCu.nd rfl (Or.inl rfl))
        (pss_one (ps_if (pt_cmp (pc_dnotin hu (pv 2) (pv 0))) (pss_one ps_never) pss_nil)))))), ?_⟩
    refine ⟨D, _, hD, trivial, fun od => ?_⟩
    have bt : But D H (upd H D (.frz od (.dK (kvs rs)))) := but_upd
    have hF : upd H D (.frz od (.dK (kvs rs))) D = some (.frz od (.dK (kvs rs))) := upd_same
    generalize upd H D (.frz od (.dK (kvs rs))) = H1 at bt hF ⊢
    refine ⟨.ref D, rfl, D, od, rfl, .inl ⟨_, hF, ?_⟩⟩
    refine for_it walk_keys (fun i σ H2 => ∃ y1 y2 : Option V, σ = [some (.ref D), y1, y2] ∧ But D H H2 ∧ H2 D = some (.frz od (.dK (kvs rs)))) ⟨none, none, rfl, bt, hF⟩ (fun i σ H2 _ ⟨_, _, _, _, h⟩ => h) ?_ ?_
    · rintro i x σ H2 H2' hi ⟨y1, y2, rfl, bt2, hF2⟩ ⟨rfl, kk, vv, hkv, rfl⟩
      obtain ⟨⟨x, r⟩, hxr, e⟩ : ∃ q, rs[i]? = some q ∧ ((Sum.inr q.1 : L2.Key), V.ref q.2) = (kk, vv) := by
        unfold kvs at hkv
        rw [List.getElem?_map] at hkv
        obtain ⟨q, h1, h2⟩ := Option.map_eq_some_iff.mp hkv
        exact ⟨q, h1, h2⟩
      cases e
      have mem : (x, r) ∈ rs := List.mem_of_getElem? hxr
      obtain ⟨r', mem', hv⟩ := val_in (rs := rs) (y := x) (List.mem_map.mpr ⟨_, mem, rfl⟩)
      have R := bt2.req hD ⟨fun _ z => (by cases z), fun _ _ z => (by cases z)⟩ (fit.each _ mem')
      have ok := fit.ok x (fit.keys.mem_iff.mp (List.mem_map.mpr ⟨_, mem', rfl⟩))
      have few := ok.nam
      refine ⟨.ref D, rfl, .str x, rfl, D, _, rfl, .inl ⟨_, Sum.inr x, .inr ⟨od, hF2⟩, rfl, hv.symm⟩, ?_⟩
      refine ⟨r', (c x).1, (c x).2, rfl, R, by omega, fun p ys H3 s3 np hp srt nd mem3 => ?_⟩
      refine ⟨p, rfl, ⟨_, SqT.of hp⟩, for_tup (K := K) (a := p) (xs := ys.map V.str) (fun j σ H4 => H4 = H3 ∧ ∃ y2 : Option V, σ = [some (.ref D), some (.str x), y2]) ⟨rfl, _, rfl⟩ (fun j σ H4 _ ⟨e, _⟩ => by rw [e]; exact SqT.of hp) ?_ ?_⟩
      · rintro j y σ H4 hy ⟨rfl, y2', rfl⟩
        rw [List.getElem?_map] at hy
        obtain ⟨z, hz, rfl⟩ := Option.map_eq_some_iff.mp hy
        have mz : z ∈ rs.map (·.1) := by
          exact fit.keys.mem_iff.mpr (ok.sub z ((mem3 z).mp (List.mem_of_getElem? hz)))
        obtain ⟨r2, _, hv2⟩ := val_in mz
        refine ⟨.str z, rfl, .ref D, rfl, D, _, rfl, .inl ⟨_, Sum.inr z, .inr ⟨od, s3 _ _ hF2⟩, rfl, hv2.symm⟩, _, rfl, iteF ⟨rfl, _, rfl⟩⟩
      · rintro σ H4 ⟨rfl, y2', rfl⟩
        exact ⟨_, _, rfl, bt2.same s3, s3 _ _ hF2⟩
    · rintro σ H2 ⟨y1, y2, rfl, bt2, hF2⟩
      refine ⟨hF2, q _ fun b o e => ?_⟩
      by_cases eb : b = D
      · subst eb
        rw [hD] at e
        cases e
        exact upd_same
      · rw [upd_ne eb]
        exact bt2 b o e eb
/-! Network -/
structure Txt (K : PySem.W.Frag) (mg : Str → Option Value) (C : Addr) : Prop where
  cl : Cls K C
  nR : NoAttr K C "requirements"
  mgC : mg "Network" = some (.ref C)
abbrev fld (D : Addr) : List (Str × V) := [("requirements", V.ref D)]
theorem fld_get (D : Addr) : (fld D).lookup ("requirements" : Str) = some (.ref D) := by
  have e : fld D = putF "requirements" (V.ref D) [] := rfl
  rw [e, lookup_putF, if_pos rfl]
/-- a network -/
structure NetAt (C : Addr) (H : Hp) (net D : Addr) (c : Rq) (xs : List Str) (rs : Rws) : Prop where
  ob : ∃ dx, H net = some (.ins C dx (fld D))
  dc : H D = some (.dK (kvs rs))
  fit : Fit H c xs rs
  srt : Srt (rs.map (·.1))
theorem NetAt.same {C : Addr} {H H' : Hp} {net D : Addr} {c : Rq} {xs : List Str} {rs : Rws} (h : NetAt C H net D c xs rs) (s : Same H H') : NetAt C H' net D c xs rs :=
  ⟨let ⟨dx, e⟩ := h.ob; ⟨dx, s _ _ e⟩, s _ _ h.dc, h.fit.same s, h.srt⟩
abbrev sNi : Stmt := inClass (top 57) 0
abbrev nNi : List Str := ["self", "rows", "requirements", "name"]
theorem scNi : FnScope nNi ["self", "rows"] (defScope sNi) := ⟨rfl, rfl, rfl, by decide +kernel, rfl, by decide +kernel, by decide +kernel⟩
def spNi (K : PySem.W.Frag) (C : Addr) : Sp := fun vs H Q _ => ∃ (net dx l : Addr) (ts : List Addr) (rs : Rws) (c : Rq) (xs : List Str), vs = [.ref net, .ref l] ∧ H net = some (.ins C dx []) ∧ SqL K H l (ts.map V.ref) ∧ RowsAt H ts rs ∧ Fit H c xs rs ∧
  ∀ (D : Addr) (rs' : Rws) (H' : Hp), NetAt C H' net D c xs rs' → (∀ q ∈ rs', q ∈ rs) → But net H H' → Q .non H'
theorem pairs_of {rs : Rws} : ∀ (ys : List Str), (∀ y ∈ ys, y ∈ rs.map (·.1)) → ∃ rs' : Rws, rs'.map (·.1) = ys ∧ (∀ q ∈ rs', q ∈ rs ∧ valV (kvs rs) (Sum.inr q.1 : L2.Key) = some (.ref q.2))
  | [], _ => ⟨[], rfl, fun q m => by cases m⟩
  | y :: ys, h => by
    obtain ⟨r, m, e⟩ := val_in (h y List.mem_cons_self)
    obtain ⟨rs', e1, e2⟩ := pairs_of (rs := rs) ys fun z mz => h z (List.mem_cons_of_mem _ mz)
    refine ⟨(y, r) :: rs', by rw [List.map_cons, e1], fun q mq => ?_⟩
    rcases List.mem_cons.mp mq with rfl | mq
    · exact ⟨m, e⟩
    · exact e2 q mq
theorem ok_netinit {f C f1 f2 e : Addr} {fd fd1 fd2 : FuncData} {k : Nat} (F : FunD K "__init__" "Network.__init__" (defArgs sNi) (defBody sNi) (defScope sNi) [.ref e] [] f fd) (T : Bq mg) (X : Txt K mg C)
    (F1 : Fun K "requirements_by_name" "requirements_by_name" sRb f1 fd1) (b1 : Binds K fd1 ["rows"] []) (g1 : mg "requirements_by_name" = some (.ref f1)) (G1 : FnOk P w K mg base CX0 k f1 fd1 ["rows"] (spRb K))
    (F2 : Fun K "check_names_used" "check_names_used" sCu f2 fd2) (b2 : Binds K fd2 ["requirements"] []) (g2 : mg "check_names_used" = some (.ref f2)) (G2 : FnOk P w K mg base CX0 k f2 fd2 ["requirements"] spCu) :
    FnOk P w K mg base CX0 (k + 1) f fd ["self", "rows"] (spNi K C) := by
  refine F.ok scNi (fun vs H Q E h => ?_) (fun cdv A outer s H vs Q E hr h => ?_)
  · obtain ⟨net, dx, l, ts, rs, c, xs, rfl, _⟩ := h
    rfl
  · obtain ⟨net, dx, l, ts, rs, c, xs, rfl, hn, hl, ra, fit, q⟩ := h
    have hu := hu_of hr
    refine ⟨_, pss_cons (ps_set (i := 2) scNi.nd rfl (Or.inr rfl) (pe_call G1 hr (by rfl) g1 F1.kp b1 .nil pass0 (pa_cons (pv 1) pa_nil)))
      (pss_cons (ps_expr (pe_call G2 hr (by rfl) g2 F2.kp b2 .nil pass0 (pa_cons (pv 2) pa_nil)))
      (pss_one (ps_fld (pv 0) (pe_dc (own := [("name", 3)]) (g := gName 3) (tt := tYes) (by rfl) scNi.nd (pi_list (pe_callB (call_sortedD rfl) (by rfl) T.T.srt (by decide +kernel) (pa_cons (pv 2) pa_nil))) (blkOk_by (N := nNi) (sc := defScope sNi) (by decide +kernel))
        (fun _ _ _ _ _ => pg_name (i := 3) scNi.nd rfl (Or.inl rfl)) (fun _ _ _ _ _ => pts_nil) (fun _ _ _ _ _ => pv 3) (fun _ _ _ _ _ => pe_dget hu (pv 2) (pv 3) (fun _ _ => rfl))) rfl))), ?_⟩
    refine ⟨.ref l, rfl, l, ts, rs, c, xs, rfl, hl, ra, fit, fun D H1 s1 nD hD => ?_⟩
    refine ⟨.ref D, rfl, D, rs, c, xs, rfl, hD, fit.same s1, fun H2 s2 => ?_⟩
    have hD2 := s2 _ _ hD
    have flen := fit.len
    have few := fit.few
    refine ⟨.ref D, rfl, D, _, rs.map (·.1), rfl, .inl hD2, by unfold kvs; rw [List.map_map, List.map_map]; rfl, by rw [List.length_map]; omega, fun ys p pm srt np => ?_⟩
    have s3 := same_new (o := .lst (ys.map V.str)) np
    have hp : (upd H2 p (.lst (ys.map V.str))) p = some (.lst (ys.map V.str)) := upd_same
    generalize upd H2 p (.lst (ys.map V.str)) = H3 at s3 hp ⊢
    obtain ⟨rs', e1, e2⟩ := pairs_of (rs := rs) ys fun y my => pm.mem_iff.mp my
    have nd1 : (rs.map (·.1)).Nodup := fit.keys.nodup_iff.mpr fit.nd
    have nd2 : ys.Nodup := pm.nodup_iff.mpr nd1
    have l2 : rs'.length = ys.length := by rw [← e1, List.length_map]
    refine ⟨p, rfl, ⟨_, SqL.of hp⟩, fun D2 nD2 => ?_⟩
    refine dc_it (walk_list (K := K) (a := p) (xs := ys.map V.str)) (fun i H4 => Same H3 H4 ∧ H4 D2 = some (.dK (kvs (rs'.take i)))) ⟨same_new nD2, upd_same⟩ (fun i H4 _ h => SqL.of (h.1 _ _ hp)) ?_ ?_
    · rintro i x H4 H4' hi ⟨s4, hD4⟩ ⟨rfl, hx⟩
      rw [List.getElem?_map] at hx
      obtain ⟨y, hy, rfl⟩ := Option.map_eq_some_iff.mp hx
      obtain ⟨r, hr'⟩ : ∃ r, rs'[i]? = some (y, r) := by
        rw [← e1, List.getElem?_map] at hy
        obtain ⟨⟨y', r⟩, h1, h2⟩ := Option.map_eq_some_iff.mp hy
        cases h2
        exact ⟨r, h1⟩
      have val := (e2 _ (List.mem_of_getElem? hr')).2
      have tk : rs'.take (i + 1) = rs'.take i ++ [(y, r)] := by
        rw [List.take_add_one, hr']
        rfl
      have new : y ∉ (rs'.take i).map (·.1) := by
        intro m
        have e : rs'.map (·.1) = (rs'.take i).map (·.1) ++ (rs'.drop i).map (·.1) := by rw [← List.map_append, List.take_append_drop]
        rw [← e1, e] at nd2
        refine (List.nodup_append.mp nd2).2.2 y m y ?_ rfl
        exact List.mem_map.mpr ⟨(y, r), List.mem_of_getElem? (i := 0) (by rw [List.getElem?_drop]; exact hr'), rfl⟩
      have hDD := s4 _ _ (s3 _ _ hD2)
      refine ⟨rfl, .str y, rfl, .ref D, rfl, .str y, rfl, D, _, rfl, .inl ⟨_, Sum.inr y, .inl hDD, rfl, val.symm⟩, _, Sum.inr y, rfl, hD4, ?_, fun b o eb => ?_, ?_⟩
      · rw [kvs_len, List.length_take]
        have := pm.length_eq
        rw [List.length_map] at this
        exact small1000 (by omega)
      · rw [upd_ne (ne_of_none eb nD2)]
        exact s4 b o eb
      · rw [upd_same, putK_new _ (val_out new), tk]
        show some (HO.dK (kvs (rs'.take i) ++ _)) = some (HO.dK ((rs'.take i ++ [(y, r)]).map _))
        rw [List.map_append]
        rfl
    · rintro H4 ⟨s4, hD4⟩
      rw [List.length_map, ← l2, List.take_length] at hD4
      have s04 : Same H H4 := ((s1.trans s2).trans s3).trans s4
      have nD2n : D2 ≠ net := (ne_of_none (s3 _ _ (s2 _ _ (s1 _ _ hn))) nD2).symm
      refine ⟨.ref net, rfl, net, C, dx, [], rfl, s04 _ _ hn, X.cl, X.nR, by show 0 < 1000; decide, ?_⟩
      have bt : But net H (upd H4 net (.ins C dx (putF "requirements" (.ref D2) []))) := fun b o eb nb => by
        rw [upd_ne nb]
        exact s04 b o eb
      have unis : ∀ r c' ps, ReqAt H r c' ps → ReqAt (upd H4 net (.ins C dx (putF "requirements" (.ref D2) []))) r c' ps := fun r c' ps u => bt.req hn ⟨fun _ z => (by cases z), fun _ _ z => (by cases z)⟩ u
      refine q D2 rs' _ ⟨⟨dx, upd_same⟩, ?_, ⟨fit.nd, fit.few, fit.nm, fit.ok, ?_, fun q mq => unis _ _ _ (fit.each _ (e2 q mq).1)⟩, ?_⟩ (fun q mq => (e2 q mq).1) bt
      · rw [upd_ne nD2n]
        exact hD4
      · rw [e1]
        exact pm.trans fit.keys
      · rw [e1]
        exact sorted_pairs srt
/-! node_names -/
abbrev sNn : Stmt := inClass (top 57) 3
theorem scNn : FnScope ["self"] ["self"] (defScope sNn) := ⟨rfl, rfl, rfl, by decide +kernel, rfl, by decide +kernel, by decide +kernel⟩
def spNn (C : Addr) : Sp := fun vs H Q _ => ∃ (net D : Addr) (c : Rq) (xs : List Str) (rs : Rws), vs = [.ref net] ∧ NetAt C H net D c xs rs ∧ ∀ (p : Addr) (H' : Hp), Same H H' → H p = none → H' p = some (.tup ((rs.map (·.1)).map V.str)) → Q (.ref p) H'
theorem ok_nodenames {f C : Addr} {fd : FuncData} {k : Nat} (F : Fun K "node_names" "Network.node_names" sNn f fd) (T : Bq mg) (X : Txt K mg C) : FnOk P w K mg base CX0 (k + 1) f fd ["self"] (spNn C) := by
  refine F.ok scNn (fun vs H Q E h => ?_) (fun cdv A outer s H vs Q E hr h => ?_)
  · obtain ⟨net, D, c, xs, rs, rfl, _⟩ := h
    rfl
  · obtain ⟨net, D, c, xs, rs, rfl, N, q⟩ := h
    refine ⟨_, pss_one (ps_ret (pe_callTy (call_tuple_dK rfl) (by rfl) T.T.tup (by decide +kernel) (pa_cons (pe_fld (pv 0) rfl) pa_nil))), ?_⟩
    obtain ⟨dx, hn⟩ := N.ob
    refine ⟨.ref net, rfl, net, C, dx, _, _, rfl, hn, X.cl, X.nR, fld_get D, D, _, rfl, N.dc, fun p np => ?_⟩
    have e : (kvs rs).map (fun kv => kV kv.1) = (rs.map (·.1)).map V.str := by
      unfold kvs
      rw [List.map_map, List.map_map]
      rfl
    rw [e]
    exact q p _ (same_new np) np upd_same
/-! check_nodes -/
abbrev sCn : Stmt := inClass (top 57) 5
abbrev nCn : List Str := ["self", "names", "name"]
theorem scCn : FnScope nCn ["self", "names"] (defScope sCn) := ⟨rfl, rfl, rfl, by decide +kernel, rfl, by decide +kernel, by decide +kernel⟩
def spCn (K : PySem.W.Frag) (C : Addr) : Sp := fun vs H Q _ => ∃ (net D a : Addr) (c : Rq) (xs : List Str) (rs : Rws) (S : List Str), vs = [.ref net, .ref a] ∧ NetAt C H net D c xs rs ∧ NodesAt K H a S ∧ (∀ x ∈ S, x ∈ xs) ∧ Q .non H
end
end Moot
namespace Moot
open PySem PySem.Spec PyProof.Rows L2
theorem pi_or {X : Cx} {tg e : Expr} {w1 w2 : TI} (h1 : PI X tg e w1) (h2 : PI X tg e w2) : PI X tg e (fun σ H R => w1 σ H R ∨ w2 σ H R) :=
  ⟨fun pins s σ H R I h => h.elim (h1.run pins s σ H R I) (h2.run pins s σ H R I)⟩
theorem fld_no (D : Addr) {m : Str} (h : ¬ m = "requirements") : (fld D).lookup m = none := by
  have e : fld D = putF "requirements" (V.ref D) [] := rfl
  rw [e, lookup_putF, if_neg h]
  rfl
/-- whether a set satisfies what a name requires -/
def okN (c : Rq) (x : Str) (S : List Str) : Bool := sat S (c x).1 (c x).2
/-- what first_removable gives -/
def frV (c : Rq) (R Fs : List Str) : V := match R.find? fun x => !okN c x (R ++ Fs) with
  | some x => .str x
  | none => .non
theorem Valid.short {xs : List Str} {c : Int} {ps : List Part} (h : Valid xs c ps) : Short ps := fun d ns m => by
  have := (h.inn d ns m).2.2.1
  omega
section
variable {P : Program} {w : World} {K : PySem.W.Frag} {mg : Str → Option Value} {base : Heap}
theorem ok_checknodes {f C : Addr} {fd : FuncData} {k : Nat} (F : Fun K "check_nodes" "Network.check_nodes" sCn f fd) (T : Bq mg) (X : Txt K mg C) : FnOk P w K mg base CX0 (k + 1) f fd ["self", "names"] (spCn K C) := by
  refine F.ok scCn (fun vs H Q E h => ?_) (fun cdv A outer s H vs Q E hr h => ?_)
  · obtain ⟨net, D, a, c, xs, rs, S, rfl, _⟩ := h
    rfl
  · obtain ⟨net, D, a, c, xs, rs, S, rfl, N, ha, sub, q⟩ := h
    have hu := hu_of hr
    obtain ⟨dx, hn⟩ := N.ob
    refine ⟨_, pss_one (ps_for PassesOwn.never rfl (pi_or (pi_list (pv 1)) (pi_tup (pv 1))) (pg_name (i := 2) scCn.nd rfl (Or.inl rfl))
      (pss_one (ps_if (pt_cmp (pc_dnotin hu (pv 2) (pe_fld (pv 0) rfl))) (pss_one ps_never) pss_nil))), ?_⟩
    rcases ha with ha | ha
    · refine .inl ⟨.ref a, rfl, a, rfl, ⟨_, ha⟩, for_it (walk_list (K := K) (a := a) (xs := S.map V.str)) (fun i σ H1 => H1 = H ∧ ∃ y2 : Option V, σ = [some (.ref net), some (.ref a), y2]) ⟨rfl, none, rfl⟩ (fun i σ H1 _ ⟨e, _⟩ => by rw [e]; exact ha) ?_ ?_⟩
      · rintro i y σ H1 H2 hi ⟨rfl, y2, rfl⟩ ⟨rfl, hy⟩
        rw [List.getElem?_map] at hy
        obtain ⟨z, hz, rfl⟩ := Option.map_eq_some_iff.mp hy
        obtain ⟨r, _, hv⟩ := val_in (N.fit.keys.mem_iff.mpr (sub z (List.mem_of_getElem? hz)))
        exact ⟨.str z, rfl, .ref net, rfl, net, C, dx, _, _, rfl, hn, X.cl, X.nR, fld_get D, D, _, rfl, .inl ⟨_, Sum.inr z, .inl N.dc, rfl, hv.symm⟩, _, rfl, iteF ⟨rfl, _, rfl⟩⟩
      · rintro σ H1 ⟨rfl, y2, rfl⟩
        exact q
    · refine .inr ⟨.ref a, rfl, a, rfl, ⟨_, ha⟩, for_it (walk_tup (K := K) (a := a) (xs := S.map V.str)) (fun i σ H1 => H1 = H ∧ ∃ y2 : Option V, σ = [some (.ref net), some (.ref a), y2]) ⟨rfl, none, rfl⟩ (fun i σ H1 _ ⟨e, _⟩ => by rw [e]; exact ha) ?_ ?_⟩
      · rintro i y σ H1 H2 hi ⟨rfl, y2, rfl⟩ ⟨rfl, hy⟩
        rw [List.getElem?_map] at hy
        obtain ⟨z, hz, rfl⟩ := Option.map_eq_some_iff.mp hy
        obtain ⟨r, _, hv⟩ := val_in (N.fit.keys.mem_iff.mpr (sub z (List.mem_of_getElem? hz)))
        exact ⟨.str z, rfl, .ref net, rfl, net, C, dx, _, _, rfl, hn, X.cl, X.nR, fld_get D, D, _, rfl, .inl ⟨_, Sum.inr z, .inl N.dc, rfl, hv.symm⟩, _, rfl, iteF ⟨rfl, _, rfl⟩⟩
      · rintro σ H1 ⟨rfl, y2, rfl⟩
        exact q
/-! requirement_of -/
abbrev sRo : Stmt := inClass (top 57) 7
theorem scRo : FnScope ["self", "name"] ["self", "name"] (defScope sRo) := ⟨rfl, rfl, rfl, by decide +kernel, rfl, by decide +kernel, by decide +kernel⟩
def spRo (C : Addr) : Sp := fun vs H Q _ => ∃ (net D : Addr) (c : Rq) (xs : List Str) (rs : Rws) (x : Str), vs = [.ref net, .str x] ∧ NetAt C H net D c xs rs ∧ x ∈ xs ∧ ∀ (r : Addr) (H' : Hp), Same H H' → ReqAt H' r (c x).1 (c x).2 → Q (.ref r) H'
theorem ok_reqof {f f1 C : Addr} {fd fd1 : FuncData} {k : Nat} (F : Fun K "requirement_of" "Network.requirement_of" sRo f fd) (T : Bq mg) (X : Txt K mg C) (M1 : Meth K C "check_nodes" f1) (b1 : Binds K fd1 ["self", "names"] []) (G1 : FnOk P w K mg base CX0 k f1 fd1 ["self", "names"] (spCn K C)) :
    FnOk P w K mg base CX0 (k + 1) f fd ["self", "name"] (spRo C) := by
  refine F.ok scRo (fun vs H Q E h => ?_) (fun cdv A outer s H vs Q E hr h => ?_)
  · obtain ⟨net, D, c, xs, rs, x, rfl, _⟩ := h
    rfl
  · obtain ⟨net, D, c, xs, rs, x, rfl, N, mx, q⟩ := h
    have hu := hu_of hr
    obtain ⟨dx, hn⟩ := N.ob
    refine ⟨_, pss_cons (ps_expr (pe_meth (pv 0) X.cl M1 G1 hr b1 .nil pass0 (pa_cons (pe_lst (pa_cons (pv 1) pa_nil)) pa_nil)))
      (pss_one (ps_ret (pe_dget hu (pe_fld (pv 0) rfl) (pv 1) (fun _ _ => rfl)))), ?_⟩
    refine ⟨.ref net, rfl, net, dx, _, rfl, hn, fld_no D (by decide +kernel), .str x, rfl, by show 1 ≤ sizeLine; decide, fun l nl => ?_⟩
    have s1 := same_new (o := .lst [.str x]) nl
    have hl : (upd H l (.lst [.str x])) l = some (.lst ([x].map V.str)) := upd_same
    generalize upd H l (.lst [.str x]) = H1 at s1 hl ⊢
    have N1 := N.same s1
    obtain ⟨dx1, hn1⟩ := N1.ob
    obtain ⟨r, mr, hv⟩ := val_in (N1.fit.keys.mem_iff.mpr mx)
    refine ⟨net, D, l, c, xs, rs, [x], rfl, N1, .inl (SqL.of hl), fun y my => by rw [List.mem_singleton.mp my]; exact mx, ?_⟩
    exact ⟨.ref net, rfl, net, C, dx1, _, _, rfl, hn1, X.cl, X.nR, fld_get D, .str x, rfl, D, _, rfl, .inl ⟨_, Sum.inr x, .inl N1.dc, rfl, hv.symm⟩, q r H1 s1 (N1.fit.each _ mr)⟩
end
end Moot
namespace Moot
open PySem PySem.Spec PyProof.Rows L2
/-- whether a set of nodes is a quorum beside the faulty ones -/
def qm (c : Rq) (L Fs : List Str) : Bool := decide (L ≠ []) && (L.all fun x => decide (x ∉ Fs)) && L.all fun x => okN c x (L ++ Fs)
theorem okN_same {c : Rq} {x : Str} {S S' : List Str} (h : ∀ y, y ∈ S ↔ y ∈ S') : okN c x S = okN c x S' := sat_same fun y _ => h y
theorem qm_same {c : Rq} {L L' Fs Fs' : List Str} (h : ∀ y, y ∈ L ↔ y ∈ L') (hF : ∀ y, y ∈ Fs ↔ y ∈ Fs') : qm c L Fs = qm c L' Fs' := by
  have a : decide (L ≠ []) = decide (L' ≠ []) := by
    refine decide_eq_decide.mpr (not_congr ⟨fun e => ?_, fun e => ?_⟩)
    · rw [e] at h
      exact List.eq_nil_iff_forall_not_mem.mpr fun y m => by cases (h y).mpr m
    · rw [e] at h
      exact List.eq_nil_iff_forall_not_mem.mpr fun y m => by cases (h y).mp m
  have all2 : ∀ (p : Str → Bool), L.all p = L'.all p := fun p => by
    rw [Bool.eq_iff_iff, List.all_eq_true, List.all_eq_true]
    exact ⟨fun z x m => z x ((h x).mpr m), fun z x m => z x ((h x).mp m)⟩
  unfold qm
  rw [a, all2, all2]
  have b : (fun x => decide (x ∉ Fs)) = fun x : Str => decide (x ∉ Fs') := funext fun x => decide_eq_decide.mpr (not_congr (hF x))
  have d : (fun x => okN c x (L ++ Fs)) = fun x => okN c x (L' ++ Fs') := funext fun x => okN_same fun y => by rw [List.mem_append, List.mem_append, h y, hF y]
  rw [b, d]
theorem frV_non {c : Rq} {R Fs : List Str} : frV c R Fs = .non ↔ (R.all fun x => okN c x (R ++ Fs)) = true := by
  unfold frV
  rw [List.all_eq_true]
  cases e : R.find? fun x => !okN c x (R ++ Fs) with
  | none =>
    refine ⟨fun _ x m => ?_, fun _ => rfl⟩
    have := List.find?_eq_none.mp e x m
    simpa using this
  | some x =>
    refine ⟨fun z => (by cases z), fun z => ?_⟩
    have h1 := List.find?_some e
    have h2 := z x (List.mem_of_find?_eq_some e)
    rw [h2] at h1
    cases h1
section
variable {P : Program} {w : World} {K : PySem.W.Frag} {mg : Str → Option Value} {base : Heap}
abbrev Kb (K : PySem.W.Frag) (fd : FuncData) (ps : List Str) (n : Nat) : Prop := KBn K fd ps n ["faulty"] (fun us ws => us ++ ws) (fun vs zs => vs ++ zs)
end
end Moot
namespace Moot
open PySem PySem.Spec PyProof.Rows L2
theorem cut_from (ys : List Str) {j : Int} (h : 0 ≤ j) : cutV (ys.map V.str) (some j) none = (ys.drop j.toNat).map V.str := by
  obtain ⟨n, rfl⟩ := Int.eq_ofNat_of_zero_le h
  unfold cutV
  rw [HT.sIx_none, HT.sIx_nat, List.length_map]
  show ((ys.map V.str).drop (min n ys.length)).take (ys.length - min n ys.length) = _
  rw [← List.map_drop, ← List.map_take]
  congr 1
  rw [List.take_of_length_le (by rw [List.length_drop]; exact Nat.le_refl _)]
  rw [Nat.min_def]
  split
  · rfl
  · rw [List.drop_eq_nil_of_le (Nat.le_refl _), List.drop_eq_nil_of_le (by show ys.length ≤ n; omega)]
/-- a requirement of names alone -/
theorem names_valid {xs zs : List Str} {c : Int} (few : xs.length ≤ 8) (nm : ∀ x ∈ xs, Nm x) (nd : zs.Nodup) (sub : ∀ z ∈ zs, z ∈ xs) (c1 : 1 ≤ c) (c2 : c ≤ (zs.length : Int)) : Valid xs c (zs.map Sum.inl) := by
  have l : zs.length ≤ xs.length := nd_len zs xs nd sub
  refine ⟨c1, by rw [List.length_map]; exact c2, inl_nodup nd, by rw [namesOf_names]; omega, few, fun x m => ?_, nm, fun d ns m => ?_⟩
  · rw [namesOf_names] at m
    exact sub x m
  · obtain ⟨z, _, e⟩ := List.mem_map.mp m
    cases e
theorem fine_valid {xs : List Str} {c : Int} {ps : List Part} (few : xs.length ≤ 8) (nd : xs.Nodup) (nm : ∀ x ∈ xs, Nm x) (fine : Fine xs 12 12 ps) (c1 : 1 ≤ c) (c2 : c ≤ (ps.length : Int)) : Valid xs c ps := by
  refine ⟨c1, c2, fine.nd nd, fine.nam, few, ?_, nm, fun d ns m => ?_⟩
  · intro x m
    have go : ∀ {qs : List Part}, (∀ p ∈ qs, Good xs p) → ∀ x ∈ namesOf qs, x ∈ xs := by
      intro qs
      induction qs with
      | nil => intro _ x m; cases m
      | cons p qs ih =>
        intro g x m
        cases p with
        | inl y =>
          rcases List.mem_cons.mp (show x ∈ y :: namesOf qs from m) with e | m
          · rw [e]
            exact g _ List.mem_cons_self
          · exact ih (fun p m => g p (List.mem_cons_of_mem _ m)) x m
        | inr y =>
          rcases List.mem_append.mp (show x ∈ y.2 ++ namesOf qs from m) with m | m
          · exact (g _ List.mem_cons_self).2.2.2.2.2 x m
          · exact ih (fun p m => g p (List.mem_cons_of_mem _ m)) x m
    exact go fine.all x m
  · have g := fine.all _ m
    exact ⟨g.2.2.1, g.2.2.2.1, by have := g.2.1; omega, g.2.2.2.2.1 nd, fun x mx => nm x (g.2.2.2.2.2 x mx)⟩
/-- some requirement that is as it must be -/
def Some1 (H : Hp) (xs : List Str) (r : Addr) : Prop := ∃ d ps, ReqAt H r d ps ∧ Valid xs d ps
theorem Some1.tups {H H' : Hp} {xs : List Str} {r : Addr} (h : Some1 H xs r) (t : Tups H H') : Some1 H' xs r := let ⟨d, ps, a, b⟩ := h; ⟨d, ps, a.tups t, b⟩
theorem fit_of {H : Hp} {xs : List Str} {rs : Rws} (nd : xs.Nodup) (few : xs.length ≤ 8) (nm : ∀ x ∈ xs, Nm x) (keys : rs.map (·.1) = xs) (each : ∀ q ∈ rs, Some1 H xs q.2) : ∃ c : Rq, Fit H c xs rs := by
  have one : ∀ y : Str, ∃ dp : Int × List Part, ∀ r, (y, r) ∈ rs → ReqAt H r dp.1 dp.2 ∧ Valid xs dp.1 dp.2 := fun y => by
    by_cases m : y ∈ xs
    · rw [← keys] at m
      obtain ⟨⟨y', r⟩, mr, rfl⟩ := List.mem_map.mp m
      obtain ⟨d, ps, a, b⟩ := each _ mr
      refine ⟨(d, ps), fun r' mr' => ?_⟩
      have e : r' = r := by
        have uniq : ∀ {l : Rws}, (l.map (·.1)).Nodup → (y', r) ∈ l → (y', r') ∈ l → r' = r := by
          intro l
          induction l with
          | nil => intro _ h; cases h
          | cons q l ih =>
            intro n h1 h2
            obtain ⟨n1, n2⟩ := List.nodup_cons.mp n
            rcases List.mem_cons.mp h1 with e1 | h1 <;> rcases List.mem_cons.mp h2 with e2 | h2
            · rw [← e1] at e2
              exact (Prod.mk.inj e2).2
            · exact absurd (List.mem_map.mpr ⟨_, h2, rfl⟩) (by rw [← e1] at n1; exact n1)
            · exact absurd (List.mem_map.mpr ⟨_, h1, rfl⟩) (by rw [← e2] at n1; exact n1)
            · exact ih n2 h1 h2
        exact uniq (by rw [keys]; exact nd) mr mr'
      subst e
      exact ⟨a, b⟩
    · exact ⟨(0, []), fun r mr => absurd (by rw [← keys]; exact List.mem_map.mpr ⟨_, mr, rfl⟩) m⟩
  refine ⟨fun y => Classical.choose (one y), ⟨nd, few, nm, fun x mx => ?_, by rw [keys], fun q mq => ?_⟩⟩
  · rw [← keys] at mx
    obtain ⟨⟨y', r⟩, mr, rfl⟩ := List.mem_map.mp mx
    exact (Classical.choose_spec (one y') r mr).2
  · exact (Classical.choose_spec (one q.1) q.2 mq).1
theorem RowsAt.tups {H H' : Hp} {ts : List Addr} {rs : Rws} (h : RowsAt H ts rs) (t : Tups H H') : RowsAt H' ts rs := ⟨h.1, fun i a e => let ⟨x, r, h1, h2⟩ := h.2 i a e; ⟨x, r, h1, h2.imp (fun e => t.tup _ _ e) fun ⟨o, e⟩ => ⟨o, t.frz _ _ _ e⟩⟩⟩
theorem RowsAt.snoc {H : Hp} {ts : List Addr} {rs : Rws} {p r : Addr} {x : Str} (h : RowsAt H ts rs) (e : H p = some (.tup [.str x, .ref r])) : RowsAt H (ts ++ [p]) (rs ++ [(x, r)]) := by
  refine ⟨by rw [List.length_append, List.length_append, h.1]; rfl, fun j tj hj => ?_⟩
  by_cases lt : j < ts.length
  · rw [List.getElem?_append_left lt] at hj
    obtain ⟨x', r', h1, h2⟩ := h.2 j tj hj
    exact ⟨x', r', by rw [List.getElem?_append_left (by rw [← h.1]; exact lt)]; exact h1, h2⟩
  · rw [List.getElem?_append_right (by omega)] at hj
    have l2 := (List.getElem?_eq_some_iff.mp hj).1
    rw [List.length_singleton] at l2
    have j0 : j - ts.length = 0 := by omega
    rw [j0] at hj
    cases hj
    exact ⟨x, r, by rw [List.getElem?_append_right (by rw [← h.1]; omega), ← h.1, j0]; rfl, .inl e⟩
theorem RowsAt.put {H : Hp} {ts : List Addr} {rs : Rws} {p r : Addr} {x : Str} {j : Nat} (h : RowsAt H ts rs) (hj : j < ts.length) (e : H p = some (.tup [.str x, .ref r])) : RowsAt H (ts.set j p) (rs.set j (x, r)) := by
  refine ⟨by rw [List.length_set, List.length_set, h.1], fun i ti hi => ?_⟩
  by_cases eq : j = i
  · subst eq
    rw [List.getElem?_set_self hj] at hi
    cases hi
    exact ⟨x, r, List.getElem?_set_self (by rw [← h.1]; exact hj), .inl e⟩
  · rw [List.getElem?_set_ne eq] at hi
    obtain ⟨x', r', h1, h2⟩ := h.2 i ti hi
    exact ⟨x', r', by rw [List.getElem?_set_ne eq]; exact h1, h2⟩
section
variable {P : Program} {w : World} {K : PySem.W.Frag} {mg : Str → Option Value} {base : Heap}
/-! _law_rows -/
abbrev sRows : Stmt := top 67
abbrev nRows : List Str := ["_law_box_here", "_law_most", "_law_names_here", "_law_core", "_law_way", "_law_rows_here", "_law_at", "_law_ring", "_law_some_here"]
theorem scRows : FnScope nRows ["_law_box_here", "_law_most"] (defScope sRows) := ⟨rfl, rfl, rfl, by decide +kernel, rfl, by decide +kernel, by decide +kernel⟩
def spRows : Sp := fun vs H Q _ => ∃ (b g m : Addr) (n most : Nat), vs = [.ref b, .int most] ∧ Box H b g m n ∧ n ≤ 700000 ∧ 1 ≤ most ∧ most ≤ 8 ∧
  ∀ (l : Addr) (ts : List Addr) (rs : Rws) (c : Rq) (xs : List Str) (H' : Hp), H l = none → H' l = some (.lst (ts.map V.ref)) → RowsAt H' ts rs → Fit H' c xs rs → 1 ≤ xs.length → xs.length ≤ most → Box H' b g m (n + 3000) → Keep b g H H' → Q (.ref l) H'
theorem ok_rows {f f1 f2 f3 : Addr} {fd fd1 fd2 fd3 : FuncData} {k : Nat} (F : Fun K "_law_rows" "_law_rows" sRows f fd)
    (FT : Fun K "_law_take" "_law_take" sTake f1 fd1) (bT : Binds K fd1 ["_law_box_here", "_law_size"] []) (gT : mg "_law_take" = some (.ref f1)) (GT : FnOk P w K mg base CX0 k f1 fd1 ["_law_box_here", "_law_size"] spTake)
    (FN : Fun K "_law_names" "_law_names" sNames f2 fd2) (bN : Binds K fd2 ["_law_box_here", "_law_many"] []) (gN : mg "_law_names" = some (.ref f2)) (GN : FnOk P w K mg base CX0 k f2 fd2 ["_law_box_here", "_law_many"] spNames)
    (FR : Fun K "_law_requirement" "_law_requirement" sReq f3 fd3) (bR : Binds K fd3 ["_law_box_here", "_law_names_here"] []) (gR : mg "_law_requirement" = some (.ref f3)) (GR : FnOk P w K mg base CX0 k f3 fd3 ["_law_box_here", "_law_names_here"] spReq) (T : Blt mg) :
    FnOk P w K mg base CX0 (k + 1) f fd ["_law_box_here", "_law_most"] spRows := by
  refine F.ok scRows (fun vs H Q E h => ?_) (fun cdv A outer s H vs Q E hr h => ?_)
  · obtain ⟨b, g, m, n, most, rfl, _⟩ := h
    rfl
  · obtain ⟨b, g, m, n, most, rfl, B, hn, m1, m8, q⟩ := h
    refine ⟨_, pss_cons (ps_set (i := 2) scRows.nd rfl (Or.inl rfl) (pe_call GN hr (by rfl) gN FN.kp bN .nil pass0 (pa_cons (pv 0) (pa_cons (pe_op op_add pe_int (pe_call GT hr (by rfl) gT FT.kp bT .nil pass0 (pa_cons (pv 0) (pa_cons (pv 1) pa_nil)))) pa_nil))))
      (pss_cons (ps_set (i := 3) scRows.nd rfl (Or.inl rfl) (pe_callTy call_tuple_of (by rfl) T.tup (by decide +kernel) (pa_cons (pe_slice sl_list (pv 2) po_none (po_some (pe_callB (call_max2 rfl) (by rfl) T.max (by decide +kernel) (pa_cons pe_int (pa_cons (pe_op op_sub (pe_callB call_len_seq (by rfl) T.len PySem.boot_len (pa_cons (pv 2) pa_nil)) (pe_call GT hr (by rfl) gT FT.kp bT .nil pass0 (pa_cons (pv 0) (pa_cons pe_int pa_nil)))) pa_nil))))) pa_nil)))
      (pss_cons (ps_set (i := 4) scRows.nd rfl (Or.inl rfl) (pe_call GT hr (by rfl) gT FT.kp bT .nil pass0 (pa_cons (pv 0) (pa_cons pe_int pa_nil))))
      (pss_cons (ps_set (i := 5) scRows.nd rfl (Or.inl rfl) (pe_lst pa_nil))
      (pss_cons (ps_for PassesOwn.never rfl (pi_range1 rfl T.rng (pa_cons (pe_callB call_len_seq (by rfl) T.len PySem.boot_len (pa_cons (pv 2) pa_nil)) pa_nil)) (pg_name (i := 6) scRows.nd rfl (Or.inl rfl))
        (pss_cons (ps_set (i := 7) scRows.nd rfl (Or.inl rfl) (pe_callTy call_tuple_of (by rfl) T.tup (by decide +kernel) (pa_cons (pe_slice sl_list (pe_op op_cat (pe_slice sl_list (pv 2) (po_some (pv 6)) po_none) (pe_slice sl_list (pv 2) po_none (po_some (pv 6)))) po_none (po_some pe_int)) pa_nil)))
        (pss_cons (ps_set (i := 8) scRows.nd rfl (Or.inl rfl) (pe_lst (pa_cons (pe_tup (pa_cons (pe_op op_add (pe_op op_fdiv (pe_op op_mul pe_int (pe_callB call_len_seq (by rfl) T.len PySem.boot_len (pa_cons (pv 3) pa_nil))) pe_int) pe_int) (pa_cons (pv 3) pa_nil)))
            (pa_cons (pe_tup (pa_cons (pe_op op_add (pe_op op_fdiv (pe_callB call_len_seq (by rfl) T.len PySem.boot_len (pa_cons (pv 3) pa_nil)) pe_int) pe_int) (pa_cons (pv 3) pa_nil)))
            (pa_cons (pe_tup (pa_cons (pe_callB (call_min2 rfl) (by rfl) T.min (by decide +kernel) (pa_cons pe_int (pa_cons (pe_callB call_len_seq (by rfl) T.len PySem.boot_len (pa_cons (pv 7) pa_nil)) pa_nil))) (pa_cons (pv 7) pa_nil))) pa_nil)))))
        (pss_one (ps_expr (pe_bm PySem.F.plainAttrs_list PySem.F.slot_list_append PySem.F.type_list_append mt_append (pv 5) (pa_cons (pe_tup (pa_cons (pe_ix ix_list (pv 2) (pv 6) (fun _ _ => rfl))
            (pa_cons (pe_ix ix_list (pe_op op_cat (pv 8) (pe_lst (pa_cons (pe_call GR hr (by rfl) gR FR.kp bR .nil pass0 (pa_cons (pv 0) (pa_cons (pv 2) pa_nil))) pa_nil))) (pv 4) (fun _ _ => rfl)) pa_nil))) pa_nil)))))))
      (pss_cons (ps_if (pt_cmpR op_eq (pe_call GT hr (by rfl) gT FT.kp bT .nil pass0 (pa_cons (pv 0) (pa_cons pe_int pa_nil))) pe_int (nomark _))
        (pss_cons (ps_set (i := 6) scRows.nd rfl (Or.inl rfl) (pe_call GT hr (by rfl) gT FT.kp bT .nil pass0 (pa_cons (pv 0) (pa_cons (pe_callB call_len_seq (by rfl) T.len PySem.boot_len (pa_cons (pv 2) pa_nil)) pa_nil))))
        (pss_one (ps_asg (pe_tup (pa_cons (pe_ix ix_list (pv 2) (pv 6) (fun _ _ => rfl)) (pa_cons (pe_call GR hr (by rfl) gR FR.kp bR .nil pass0 (pa_cons (pv 0) (pa_cons (pv 2) pa_nil))) pa_nil))) (pg_sub (pv 5) (pv 6) L2.set_list)))) pss_nil)
      (pss_one (ps_ret (pv 5)))))))), ?_⟩
    refine ⟨.ref b, rfl, .ref b, rfl, .int most, rfl, b, g, m, n, most, rfl, B, by omega, by omega, by omega, fun v0 H1 a0 a1 B1 K1 => ⟨_, _, rfl, rfl, ?_⟩⟩
    have ev : (1 : Int) + v0 = (((1 + v0).toNat : Nat) : Int) := by omega
    refine ⟨b, g, m, _, (1 + v0).toNat, by rw [← ev]; rfl, B1, by omega, by omega, fun np xs H2 nnp h2 xl nd nm B2 K2 => ?_⟩
    have x1 : 1 ≤ xs.length := by omega
    have x8 : xs.length ≤ 8 := by omega
    have xm : xs.length ≤ most := by omega
    obtain ⟨npb, npg⟩ := B2.apart h2
    obtain ⟨o2, g2, e2⟩ := h2
    -- core
    refine ⟨.ref np, rfl, .ref np, rfl, np, _, rfl, .inl (.inl (.inr ⟨o2, e2⟩)), .ref b, rfl, b, g, m, _, 2, rfl, B2, by omega, by decide, by decide, fun v1 H3 b0 b1 B3 K3 => ⟨_, _, rfl, rfl, _, _, rfl, _, rfl, np, _, rfl, .inl (.inr ⟨o2, K3 _ _ e2 npb npg⟩), fun l3 nl3 => ?_⟩⟩
    rw [List.length_map]
    have jn : (0 : Int) ≤ (if (xs.length : Int) - v1 > 1 then (xs.length : Int) - v1 else 1) := by split <;> omega
    have jp : 1 ≤ (if (xs.length : Int) - v1 > 1 then (xs.length : Int) - v1 else 1).toNat := by split <;> omega
    rw [cut_to xs jn]
    have cnd : (xs.take (if (xs.length : Int) - v1 > 1 then (xs.length : Int) - v1 else 1).toNat).Nodup := nd.sublist (List.take_sublist _ _)
    have csub : ∀ z ∈ xs.take (if (xs.length : Int) - v1 > 1 then (xs.length : Int) - v1 else 1).toNat, z ∈ xs := fun z mz => List.mem_of_mem_take mz
    have cl : 1 ≤ (xs.take (if (xs.length : Int) - v1 > 1 then (xs.length : Int) - v1 else 1).toNat).length := by rw [List.length_take]; omega
    have c8 : (xs.take (if (xs.length : Int) - v1 > 1 then (xs.length : Int) - v1 else 1).toNat).length ≤ 8 := by rw [List.length_take]; omega
    generalize xs.take (if (xs.length : Int) - v1 > 1 then (xs.length : Int) - v1 else 1).toNat = cs at cnd csub cl c8 ⊢
    refine ⟨l3, _, rfl, .inl ⟨SqL.of upd_same, fun t1 nt1 => ?_⟩⟩
    have s4 := (same_new (o := .lst (cs.map V.str)) nl3).trans (same_new (o := .tup (cs.map V.str)) nt1)
    have ht1 : upd (upd H3 l3 (.lst (cs.map V.str))) t1 (.tup (cs.map V.str)) t1 = some (.tup (cs.map V.str)) := upd_same
    have B4 := B3.same s4
    have K14 : Keep b g H2 (upd (upd H3 l3 (.lst (cs.map V.str))) t1 (.tup (cs.map V.str))) := K3.trans (Same.keep s4)
    obtain ⟨t1b, t1g, _⟩ := (B3.same (same_new nl3)).ne nt1
    generalize upd (upd H3 l3 (.lst (cs.map V.str))) t1 (.tup (cs.map V.str)) = H4 at ht1 B4 K14 ⊢
    -- way, rows
    refine ⟨.ref b, rfl, b, g, m, _, 4, rfl, B4, by omega, by decide, by decide, fun way H5 w0 w1 B5 K5 => ⟨Nat.zero_le _, fun l nl => ?_⟩⟩
    obtain ⟨lb, lg, lm⟩ := B5.ne nl
    have K05 : Keep b g H H5 := ((K1.trans K2).trans K14).trans K5
    have s6 := same_new (o := .lst []) nl
    have nl0 : H l = none := K05.free lb lg nl
    have np5 := K5 _ _ (K14 _ _ e2 npb npg) npb npg
    have t15 := K5 _ _ ht1 t1b t1g
    refine ⟨.ref np, rfl, np, _, rfl, .inl (.inl (.inr ⟨o2, s6 _ _ np5⟩)), xs.length, by rw [List.length_map], by omega, by omega, for_range (lo := 0) (n := xs.length) (fun i σ H7 => ∃ (y6 y7 y8 : Option V) (ts : List Addr) (rs : Rws), σ = [some (.ref b), some (.int most), some (.ref np), some (.ref t1), some (.int way), some (.ref l), y6, y7, y8] ∧
      Box H7 b g m (n + 200 + 101 * i) ∧ Keep b g H H7 ∧ H7 np = some (.frz o2 (.lst (xs.map V.str))) ∧ H7 t1 = some (.tup (cs.map V.str)) ∧ H7 l = some (.lst (ts.map V.ref)) ∧ RowsAt H7 ts rs ∧ rs.map (·.1) = xs.take i ∧ ∀ q ∈ rs, Some1 H7 xs q.2) ?_ ?_ ?_⟩
    · exact ⟨none, none, none, [], [], rfl, (B5.same s6).more (by omega), K05.trans (Same.keep s6), s6 _ _ np5, s6 _ _ t15, upd_same, ⟨rfl, fun i t e => by cases e⟩, rfl, fun q mq => by cases mq⟩
    · rintro i σ H7 hi ⟨y6, y7, y8, ts, rs, rfl, B7, K7, np7, t17, hl7, ra, ek, each⟩
      have i8 : i < 8 := by omega
      obtain ⟨xi, hxi⟩ : ∃ x, xs[i]? = some x := ⟨xs[i], List.getElem?_eq_getElem hi⟩
      have i0 : (0 : Int) ≤ 0 + (i : Int) := by omega
      have it : (0 + (i : Int)).toNat = i := by omega
      -- ring
      refine ⟨.ref np, rfl, .int (0 + i), rfl, 0 + i, rfl, np, _, rfl, .inl (.inr ⟨o2, np7⟩), fun a1 na1 => ?_⟩
      rw [cut_from xs i0, it]
      have s8 := same_new (o := .lst ((xs.drop i).map V.str)) na1
      have ha1 : upd H7 a1 (.lst ((xs.drop i).map V.str)) a1 = some (.lst ((xs.drop i).map V.str)) := upd_same
      generalize upd H7 a1 (.lst ((xs.drop i).map V.str)) = H8 at s8 ha1 ⊢
      refine ⟨.ref np, rfl, .int (0 + i), rfl, 0 + i, rfl, np, _, rfl, .inl (.inr ⟨o2, s8 _ _ np7⟩), fun a2 na2 => ?_⟩
      rw [cut_to xs i0, it]
      have s9 := same_new (o := .lst ((xs.take i).map V.str)) na2
      have ha2 : upd H8 a2 (.lst ((xs.take i).map V.str)) a2 = some (.lst ((xs.take i).map V.str)) := upd_same
      generalize upd H8 a2 (.lst ((xs.take i).map V.str)) = H9 at s9 ha2 ⊢
      refine ⟨a1, a2, _, _, rfl, rfl, s9 _ _ ha1, ha2, ?_, fun a3 na3 => ?_⟩
      · rw [List.length_map, List.length_map, List.length_drop, List.length_take]
        exact Nat.le_of_lt (small1000 (by omega))
      rw [← List.map_append]
      have s10 := same_new (o := .lst ((xs.drop i ++ xs.take i).map V.str)) na3
      have ha3 : upd H9 a3 (.lst ((xs.drop i ++ xs.take i).map V.str)) a3 = some (.lst ((xs.drop i ++ xs.take i).map V.str)) := upd_same
      generalize upd H9 a3 (.lst ((xs.drop i ++ xs.take i).map V.str)) = H10 at s10 ha3 ⊢
      refine ⟨3, rfl, a3, _, rfl, SqL.of ha3, fun a4 na4 => ?_⟩
      rw [cut_to _ (show (0 : Int) ≤ 3 by decide)]
      have rperm : (xs.drop i ++ xs.take i).Perm xs := List.perm_append_comm.trans (by rw [List.take_append_drop])
      have rnd : ((xs.drop i ++ xs.take i).take (3 : Int).toNat).Nodup := (rperm.nodup_iff.mpr nd).sublist (List.take_sublist _ _)
      have rsub : ∀ z ∈ (xs.drop i ++ xs.take i).take (3 : Int).toNat, z ∈ xs := fun z mz => rperm.mem_iff.mp (List.mem_of_mem_take mz)
      have rl : 1 ≤ ((xs.drop i ++ xs.take i).take (3 : Int).toNat).length := by
        rw [List.length_take, rperm.length_eq]
        show 1 ≤ min 3 _
        omega
      generalize (xs.drop i ++ xs.take i).take (3 : Int).toNat = ring at rnd rsub rl ⊢
      refine ⟨a4, _, rfl, .inl ⟨SqL.of upd_same, fun t2 nt2 => ?_⟩⟩
      have s12 := (((s8.trans s9).trans s10).trans (same_new (o := .lst (ring.map V.str)) na4)).trans (same_new (o := .tup (ring.map V.str)) nt2)
      have ht2 : upd (upd H10 a4 (.lst (ring.map V.str))) t2 (.tup (ring.map V.str)) t2 = some (.tup (ring.map V.str)) := upd_same
      generalize upd (upd H10 a4 (.lst (ring.map V.str))) t2 (.tup (ring.map V.str)) = H12 at s12 ht2 ⊢
      clear s8 s9 s10 ha1 ha2 ha3 na1 na2 na3 na4 nt2
      have t112 := s12 _ _ t17
      -- some_here
      refine ⟨.ref t1, rfl, t1, _, rfl, .inr (SqT.of t112), _, _, rfl, rfl, .inl ⟨by decide, by decide⟩, _, _, rfl, rfl, ⟨by decide, by decide⟩, _, _, rfl, rfl, .ref t1, rfl, by show 2 ≤ sizeLine; decide, fun p1 np1 => ?_⟩
      have s13 := same_new (o := .tup [.int (2 * ((cs.map V.str).length : Int) / 3 + 1), .ref t1]) np1
      refine ⟨.ref t1, rfl, t1, _, rfl, .inr (SqT.of (s13 _ _ t112)), _, _, rfl, rfl, ⟨by decide, by decide⟩, _, _, rfl, rfl, .ref t1, rfl, by show 2 ≤ sizeLine; decide, fun p2 np2 => ?_⟩
      have s14 := same_new (o := .tup [.int (((cs.map V.str).length : Int) / 2 + 1), .ref t1]) np2
      refine ⟨.ref t2, rfl, t2, _, rfl, .inr (SqT.of ((s13.trans s14) _ _ ht2)), _, _, rfl, .ref t2, rfl, by show 2 ≤ sizeLine; decide, fun p3 np3 => ⟨by show 3 ≤ sizeLine; decide, fun a5 na5 => ?_⟩⟩
      have s15 := same_new (o := .tup [.int (if ((ring.map V.str).length : Int) < 2 then ((ring.map V.str).length : Int) else 2), .ref t2]) np3
      have s16 := same_new (o := .lst [.ref p1, .ref p2, .ref p3]) na5
      have hp1 := ((s14.trans s15).trans s16) _ _ (upd_same (H := H12) (a := p1) (o := .tup [.int (2 * ((cs.map V.str).length : Int) / 3 + 1), .ref t1]))
      have hp2 := (s15.trans s16) _ _ (upd_same (H := upd H12 p1 (.tup [.int (2 * ((cs.map V.str).length : Int) / 3 + 1), .ref t1])) (a := p2) (o := .tup [.int (((cs.map V.str).length : Int) / 2 + 1), .ref t1]))
      have hp3 := s16 _ _ (upd_same (H := upd (upd H12 p1 (.tup [.int (2 * ((cs.map V.str).length : Int) / 3 + 1), .ref t1])) p2 (.tup [.int (((cs.map V.str).length : Int) / 2 + 1), .ref t1])) (a := p3) (o := .tup [.int (if ((ring.map V.str).length : Int) < 2 then ((ring.map V.str).length : Int) else 2), .ref t2]))
      have s1216 := ((s13.trans s14).trans s15).trans s16
      have ha5 : upd (upd (upd (upd H12 p1 (.tup [.int (2 * ((cs.map V.str).length : Int) / 3 + 1), .ref t1])) p2 (.tup [.int (((cs.map V.str).length : Int) / 2 + 1), .ref t1])) p3 (.tup [.int (if ((ring.map V.str).length : Int) < 2 then ((ring.map V.str).length : Int) else 2), .ref t2])) a5 (.lst [.ref p1, .ref p2, .ref p3]) a5 = some (.lst [.ref p1, .ref p2, .ref p3]) := upd_same
      obtain ⟨a5b, a5g, _⟩ := (B7.same s12).ne (((s13.trans s14).trans s15).free na5)
      have s716 := s12.trans s1216
      have B16 := B7.same s716
      have np16 := s716 _ _ np7
      have l16 := s716 _ _ hl7
      have rl3 : (ring.map V.str).length = ring.length := List.length_map _
      have cl3 : (cs.map V.str).length = cs.length := List.length_map _
      have r1 : Some1 _ xs p1 := ⟨_, cs.map Sum.inl, ⟨t1, _, hp1, .inr ⟨s1216 _ _ t112, cs, rfl⟩, Parts.names cs⟩, names_valid x8 nm cnd csub (by rw [cl3]; omega) (by rw [cl3]; omega)⟩
      have r2 : Some1 _ xs p2 := ⟨_, cs.map Sum.inl, ⟨t1, _, hp2, .inr ⟨s1216 _ _ t112, cs, rfl⟩, Parts.names cs⟩, names_valid x8 nm cnd csub (by rw [cl3]; omega) (by rw [cl3]; omega)⟩
      have r3 : Some1 _ xs p3 := ⟨_, ring.map Sum.inl, ⟨t2, _, hp3, .inr ⟨s1216 _ _ ht2, ring, rfl⟩, Parts.names ring⟩, names_valid x8 nm rnd rsub (by rw [rl3]; split <;> omega) (by rw [rl3]; split <;> omega)⟩
      have atx : atI (xs.map V.str) (0 + (i : Int)) = some (.str xi) := by
        rw [show (0 : Int) + (i : Int) = ((i : Nat) : Int) from by omega]
        exact atI_nat (by rw [List.getElem?_map, hxi]; rfl)
      refine ⟨.ref l, rfl, .inl ⟨rfl, _, SqL.of l16⟩, .ref np, rfl, .int (0 + i), rfl, np, _, _, _, rfl, rfl, .inl (.inr ⟨o2, np16⟩), atx, .ref a5, rfl, .ref b, rfl, .ref np, rfl, b, g, m, np, _, xs, rfl, B16, by omega, ⟨o2, g2, np16⟩, x1, by omega, nm, fun r d ps H17 nr R fine d1 d2 B17 K17 => ⟨by show 1 ≤ sizeLine; decide, fun a6 na6 => ?_⟩⟩
      have a517 := K17 _ _ ha5 a5b a5g
      have s18 := same_new (o := .lst [.ref r]) na6
      refine ⟨a5, a6, _, _, rfl, rfl, s18 _ _ a517, upd_same, by show 3 + 1 ≤ sizeLine; decide, fun a7 na7 => ?_⟩
      have s19 := same_new (o := .lst ([.ref p1, .ref p2, .ref p3] ++ [.ref r])) na7
      have tup17 := K17.tups B16
      have t19 := tup17.trans (Same.tups (s18.trans s19))
      obtain ⟨rr, atr, somer⟩ : ∃ rr, atI [V.ref p1, V.ref p2, V.ref p3, V.ref r] way = some (.ref rr) ∧ Some1 (upd (upd H17 a6 (.lst [.ref r])) a7 (.lst ([.ref p1, .ref p2, .ref p3] ++ [.ref r]))) xs rr := by
        have cw : way = 0 ∨ way = 1 ∨ way = 2 ∨ way = 3 := by omega
        rcases cw with rfl | rfl | rfl | rfl
        · exact ⟨p1, atI_nat (j := 0) rfl, r1.tups t19⟩
        · exact ⟨p2, atI_nat (j := 1) rfl, r2.tups t19⟩
        · exact ⟨p3, atI_nat (j := 2) rfl, r3.tups t19⟩
        · exact ⟨r, atI_nat (j := 3) rfl, d, ps, R.at.tups (Same.tups (s18.trans s19)), fine_valid x8 nd nm fine d1 d2⟩
      refine ⟨.int way, rfl, a7, _, way, .ref rr, rfl, rfl, SqL.of upd_same, atr, by show 2 ≤ sizeLine; decide, fun p4 np4 => ?_⟩
      have s20 := same_new (o := .tup [.str xi, .ref rr]) np4
      have s1720 := (s18.trans s19).trans s20
      have l20 := s1720 _ _ (K17 _ _ l16 lb lg)
      have hp4 : upd (upd (upd H17 a6 (.lst [.ref r])) a7 (.lst ([.ref p1, .ref p2, .ref p3] ++ [.ref r]))) p4 (.tup [.str xi, .ref rr]) p4 = some (.tup [.str xi, .ref rr]) := upd_same
      have K20 : Keep b g H7 (upd (upd (upd H17 a6 (.lst [.ref r])) a7 (.lst ([.ref p1, .ref p2, .ref p3] ++ [.ref r]))) p4 (.tup [.str xi, .ref rr])) := ((Same.keep s716).trans K17).trans (Same.keep s1720)
      have B20 := B17.same s1720
      have np20 := K20 _ _ np7 npb npg
      have t120 := K20 _ _ t17 t1b t1g
      have tup20 := K20.tups B7
      have some20 := somer.tups (Same.tups s20)
      have rlen : rs.length = i := by
        have := congrArg List.length ek
        rw [List.length_map, List.length_take] at this
        omega
      have tlen : ts.length = i := ra.1.trans rlen
      refine ⟨l, _, _, rfl, rfl, l20, ?_, some (.int (0 + i)), some (.ref t2), some (.ref a5), ts ++ [p4], rs ++ [(xi, rr)], rfl, (B20.store lb lg lm).more (by omega), ?_, ?_, ?_, ?_, ?_, ?_, ?_⟩
      · rw [List.length_map]
        exact small1000 (by omega)
      · intro x o e n1 n2
        rw [upd_ne (ne_of_none e nl0)]
        exact K20 _ _ (K7 _ _ e n1 n2) n1 n2
      · rw [upd_ne (fun z => by rw [z, l20] at np20; cases np20)]
        exact np20
      · rw [upd_ne (fun z => by rw [z, l20] at t120; cases t120)]
        exact t120
      · rw [upd_same, List.map_append]
        rfl
      · exact (((ra.tups tup20).snoc hp4)).tups (tups_store (ys := ts.map V.ref ++ [.ref p4]) l20)
      · rw [List.map_append, ek, List.take_add_one, hxi]
        rfl
      · intro q mq
        have tl : Tups (upd (upd (upd H17 a6 (.lst [.ref r])) a7 (.lst ([.ref p1, .ref p2, .ref p3] ++ [.ref r]))) p4 (.tup [.str xi, .ref rr])) _ := tups_store (ys := ts.map V.ref ++ [.ref p4]) l20
        rcases List.mem_append.mp mq with mq | mq
        · exact ((each q mq).tups tup20).tups tl
        · rw [List.mem_singleton.mp mq]
          exact some20.tups tl
    · rintro σ H7 ⟨y6, y7, y8, ts, rs, rfl, B7, K7, np7, t17, hl7, ra, ek, each⟩
      rw [List.take_length] at ek
      have rlen : rs.length = xs.length := by
        have := congrArg List.length ek
        rw [List.length_map] at this
        exact this
      have fin : ∀ (H' : Hp) (ts : List Addr) (rs : Rws), Keep b g H H' → Box H' b g m (n + 3000) → H' l = some (.lst (ts.map V.ref)) → RowsAt H' ts rs → rs.map (·.1) = xs → (∀ q ∈ rs, Some1 H' xs q.2) → Q (.ref l) H' := fun H' ts rs KK BB hl ra ek each => by
        obtain ⟨c, fit⟩ := fit_of nd x8 nm ek each
        exact q l ts rs c xs H' nl0 hl ra fit x1 xm BB KK
      refine ⟨.ref b, rfl, b, g, m, _, 3, rfl, B7, by omega, by decide, by decide, fun v H8 c0 c1 B8 K8 => ⟨rfl, _, rfl, ite2 (fun _ => ?_) fun _ => ?_⟩⟩
      · have np8 := K8 _ _ np7 npb npg
        refine ⟨.ref b, rfl, .ref np, rfl, np, _, rfl, .inl (.inl (.inr ⟨o2, np8⟩)), b, g, m, _, xs.length, by rw [List.length_map]; rfl, B8, by omega, by omega, by omega, fun at' H9 f0 f1 B9 K9 => ?_⟩
        obtain ⟨j, rfl⟩ := Int.eq_ofNat_of_zero_le f0
        have jl : j < xs.length := by omega
        obtain ⟨xj, hxj⟩ : ∃ x, xs[j]? = some x := ⟨xs[j], List.getElem?_eq_getElem jl⟩
        have np9 := K9 _ _ np8 npb npg
        refine ⟨.ref np, rfl, .int j, rfl, np, _, _, _, rfl, rfl, .inl (.inr ⟨o2, np9⟩), atI_nat (by rw [List.getElem?_map, hxj]; rfl), .ref b, rfl, .ref np, rfl, b, g, m, np, _, xs, rfl, B9, by omega, ⟨o2, g2, np9⟩, x1, by omega, nm, fun r d ps H10 nr R fine d1 d2 B10 K10 => ⟨by show 2 ≤ sizeLine; decide, fun p4 np4 => ?_⟩⟩
        have s11 := same_new (o := .tup [.str xj, .ref r]) np4
        have K711 := ((K8.trans K9).trans K10).trans (Same.keep s11)
        have l11 := K711 _ _ hl7 lb lg
        have tup11 := K711.tups B7
        have B11 := B10.same s11
        refine ⟨.ref l, rfl, .int j, rfl, l, _, j, j, rfl, rfl, l11, ?_, .ref l, rfl, ?_⟩
        · rw [List.length_map, ra.1, rlen]
          unfold ixN
          rw [if_pos (by omega), if_pos (by omega)]
          simp
        have ts2 : ((ts.map V.ref).set j (.ref p4)) = (ts.set j p4).map V.ref := by rw [List.map_set]
        have tl := tups_store (ys := (ts.map V.ref).set j (.ref p4)) l11
        refine fin _ (ts.set j p4) (rs.set j (xj, r)) ?_ ((B11.store lb lg lm).more (by omega)) ?_ ?_ ?_ ?_
        · intro x o e n1 n2
          rw [upd_ne (ne_of_none e nl0)]
          exact K711 _ _ (K7 _ _ e n1 n2) n1 n2
        · rw [upd_same, ts2]
        · exact ((ra.tups tup11).put (by rw [ra.1]; omega) upd_same).tups tl
        · rw [List.map_set, ek]
          refine List.ext_getElem? fun i => ?_
          by_cases e : j = i
          · subst e
            rw [List.getElem?_set_self jl, hxj]
          · rw [List.getElem?_set_ne e]
        · intro q mq
          rcases List.mem_or_eq_of_mem_set mq with mq | rfl
          · exact ((each q mq).tups tup11).tups tl
          · exact (Some1.tups ⟨d, ps, R.at, fine_valid x8 nd nm fine d1 d2⟩ (Same.tups s11)).tups tl
      · exact ⟨.ref l, rfl, fin H8 ts rs (K7.trans K8) (B8.more (by omega)) (K8 _ _ hl7 lb lg) (ra.tups (K8.tups B7)) ek fun q mq => (each q mq).tups (K8.tups B7)⟩
end
end Moot
namespace Moot
open PySem PySem.Spec PyProof.Rows L2
theorem Keep.nl {H H' : Hp} {b g m a : Addr} {n : Nat} {o : HO} (k : Keep b g H H') (B : Box H b g m n) (h : H a = some o) (no : ∀ xs, o ≠ .lst xs) : H' a = some o := by
  obtain ⟨x, c, gs, ms, hb, hg, _⟩ := B.ex
  exact k a o h (fun e => by rw [e, hb] at h; cases h; exact no _ rfl) (fun e => by rw [e, hg] at h; cases h; exact no _ rfl)
/-- the rows as a dict -/
structure Rw0 (H : Hp) (W : Addr) (c : Rq) (xs : List Str) (rs : Rws) : Prop where
  dc : Rd H W (.dK (kvs rs))
  fit : Fit H c xs rs
theorem rd_same {H H' : Hp} {a : Addr} {u : HO} (h : Rd H a u) (s : Same H H') : Rd H' a u := h.imp (fun e => s _ _ e) fun ⟨o, e⟩ => ⟨o, s _ _ e⟩
theorem Rw0.same {H H' : Hp} {W : Addr} {c : Rq} {xs : List Str} {rs : Rws} (h : Rw0 H W c xs rs) (s : Same H H') : Rw0 H' W c xs rs := ⟨rd_same h.dc s, h.fit.same s⟩
theorem Fit.tups {H H' : Hp} {c : Rq} {xs : List Str} {rs : Rws} (h : Fit H c xs rs) (t : Tups H H') : Fit H' c xs rs := { h with each := fun q m => (h.each q m).tups t }
theorem Rw0.keep {H H' : Hp} {b g m W : Addr} {n : Nat} {c : Rq} {xs : List Str} {rs : Rws} (h : Rw0 H W c xs rs) (k : Keep b g H H') (B : Box H b g m n) : Rw0 H' W c xs rs := ⟨h.dc.imp (fun e => k.nl B e fun _ z => (by cases z)) fun ⟨o, e⟩ => ⟨o, k.nl B e fun _ z => (by cases z)⟩, h.fit.tups (k.tups B)⟩
theorem keys_strs (rs : Rws) : (kvs rs).map (fun kv => kV kv.1) = (rs.map (·.1)).map V.str := by
  unfold kvs
  rw [List.map_map, List.map_map]
  rfl
section
variable {P : Program} {w : World} {K : PySem.W.Frag} {mg : Str → Option Value} {base : Heap}
/-! of names without tokens -/
def spSomeP (K : PySem.W.Frag) : Sp := fun vs H Q _ => ∃ (b g m vp : Addr) (n : Nat) (xs : List Str), vs = [.ref b, .ref vp] ∧ Box H b g m n ∧ n ≤ 900000 ∧ SqL K H vp (xs.map V.str) ∧ 1 ≤ xs.length ∧ xs.length ≤ 100 ∧
  ∀ (p : Addr) (ys zs : List Str) (H' : Hp), H p = none → H' p = some (.lst (ys.map V.str)) → 1 ≤ ys.length → (ys ++ zs).Perm xs → Box H' b g m (n + 1 + xs.length) → Keep b g H H' → Q (.ref p) H'
theorem ok_someP {f fT : Addr} {fd fdT : FuncData} {k : Nat} (F : Fun K "_law_some" "_law_some" sSome f fd) (FT : Fun K "_law_take" "_law_take" sTake fT fdT) (bT : Binds K fdT ["_law_box_here", "_law_size"] []) (gT : mg "_law_take" = some (.ref fT))
    (GT : FnOk P w K mg base CX0 k fT fdT ["_law_box_here", "_law_size"] spTake) (mr : mg "range" = none) (ml : mg "len" = none) (mls : mg "list" = none) : FnOk P w K mg base CX0 (k + 1) f fd ["_law_box_here", "_law_values"] (spSomeP K) := by
  refine F.ok scSome (fun vs H Q E h => ?_) (fun cdv A outer s H vs Q E hr h => ?_)
  · obtain ⟨b, g, m, vp, n, xs, rfl, _⟩ := h
    rfl
  · obtain ⟨b, g, m, vp, n, xs, rfl, B, hn, hv, x1, x2, q⟩ := h
    refine ⟨_, pss_cons (ps_set (i := 2) scSome.nd rfl (Or.inr rfl) (pe_callTy call_list_of (by rfl) mls (by decide +kernel) (pa_cons (pv 1) pa_nil)))
      (pss_one (ps_ret (pe_lc (own := [("_law_k", 3)]) (g := gName 3) (tt := tYes) (by rfl) scSome.nd
        (pi_range1 rfl mr (pa_cons (pe_op op_add pe_int (pe_call GT hr (by rfl) gT FT.kp bT .nil pass0 (pa_cons (pv 0) (pa_cons (pe_callB call_len_seq (by rfl) ml PySem.boot_len (pa_cons (pv 2) pa_nil)) pa_nil)))) pa_nil)) (blkOk_by (N := nSome) (sc := defScope sSome) (by decide +kernel))
        (fun _ _ _ _ _ => pg_name (i := 3) scSome.nd rfl (Or.inl rfl)) (fun _ _ _ _ _ => pts_nil)
        (fun _ _ _ _ _ => (show PE _ _ (tBM K "list" rPopAt _ _) from pe_bm PySem.F.plainAttrs_list PySem.F.slot_list_pop PySem.F.type_list_pop mt_popAt (pv 2) (pa_cons (pe_call GT hr (by rfl) gT FT.kp bT .nil pass0 (pa_cons (pv 0) (pa_cons
          (pe_callB (show CallR _ (.builtin "len") (rLen K) from call_len_seq) (by rfl) ml PySem.boot_len (pa_cons (pv 2) pa_nil)) pa_nil))) pa_nil)))))), ?_⟩
    refine ⟨.ref vp, rfl, vp, _, rfl, .inl hv, fun l nl => ?_⟩
    obtain ⟨lb, lg, lm⟩ := B.ne nl
    have s1 : Same H (upd H l (.lst (xs.map V.str))) := same_new nl
    have lx : (xs.map V.str).length = xs.length := List.length_map _
    refine ⟨.ref b, rfl, .ref l, rfl, l, _, rfl, .inl (SqL.of upd_same), b, g, m, n, _, rfl, B.same s1, by omega, by omega, by omega, fun v0 H1 a0 a1 B1 K1 => ?_⟩
    refine ⟨_, _, rfl, rfl, 1 + v0, rfl, by omega, by omega, fun D nD => ?_⟩
    obtain ⟨Db, Dg, Dm⟩ := B1.ne nD
    have hl1 : H1 l = some (.lst (xs.map V.str)) := K1 _ _ upd_same lb lg
    have Dl : D ≠ l := (ne_of_none hl1 nD).symm
    have K01 : Keep b g H H1 := (Same.keep s1).trans K1
    have fD : H D = none := K01.free Db Dg nD
    refine lc_range (lo := 0) (n := (1 + v0).toNat) (fun j H4 => Box H4 b g m (n + 1 + j) ∧ Keep b g H H4 ∧ ∃ ys zs : List Str, H4 D = some (.lst (ys.map V.str)) ∧ H4 l = some (.lst (zs.map V.str)) ∧ ys.length = j ∧ (ys ++ zs).Perm xs) ?_ ?_ ?_
    · refine ⟨B1.store Db Dg Dm, K01.trans (Same.keep (same_new nD)), [], xs, upd_same, ?_, rfl, List.Perm.refl _⟩
      rw [upd_ne Dl.symm]
      exact hl1
    · rintro j H4 hj ⟨B4, K4, ys, zs, hD, hl, ly, pm⟩
      have total := pm.length_eq
      rw [List.length_append] at total
      have lz : (zs.map V.str).length = zs.length := List.length_map _
      refine ⟨rfl, .ref l, rfl, .inl ⟨rfl, _, SqL.of hl⟩, .ref b, rfl, .ref l, rfl, l, _, rfl, .inl (SqL.of hl), b, g, m, _, _, rfl, B4, by omega, by omega, by omega, fun v H5 c0 c1 B5 K5 => ?_⟩
      have hl5 := K5 _ _ hl lb lg
      have hD5 := K5 _ _ hD Db Dg
      have hv : v.toNat < zs.length := by omega
      refine ⟨l, _, v, v.toNat, .str zs[v.toNat], rfl, rfl, hl5, by omega, by omega, seq_at c0 c1, ?_, ys.map V.str, ?_, ?_, ?_⟩
      · rw [List.getElem?_map, List.getElem?_eq_getElem hv]
        rfl
      · rw [upd_ne Dl]
        exact hD5
      · rw [List.length_map]
        exact small1000 (by omega)
      · refine ⟨((B5.store lb lg lm).store Db Dg Dm).more (by omega), fun d o e n1 n2 => ?_, ys ++ [zs[v.toNat]], zs.eraseIdx v.toNat, ?_, ?_, ?_, ?_⟩
        · rw [upd_ne (ne_of_none e fD), upd_ne (ne_of_none e nl)]
          exact K5 _ _ (K4 _ _ e n1 n2) n1 n2
        · rw [upd_same, List.map_append]
          rfl
        · rw [upd_ne Dl.symm, upd_same, erase_map]
        · rw [List.length_append, ly]
          rfl
        · refine List.Perm.trans ?_ pm
          rw [List.append_assoc]
          exact List.Perm.append_left ys (erase_perm zs v.toNat _ (List.getElem?_eq_getElem hv))
    · rintro H4 ⟨B4, K4, ys, zs, hD, hl, ly, pm⟩
      exact q D ys zs H4 fD hD (by omega) pm (B4.more (by omega)) K4
/-! _law_faulty -/
abbrev sFau : Stmt := top 68
abbrev nFau : List Str := ["_law_box_here", "_law_rows_here", "_law_names_here", "_law_many"]
theorem scFau : FnScope nFau ["_law_box_here", "_law_rows_here"] (defScope sFau) := ⟨rfl, rfl, rfl, by decide +kernel, rfl, by decide +kernel, by decide +kernel⟩
def spFau : Sp := fun vs H Q _ => ∃ (b g m W : Addr) (n : Nat) (c : Rq) (xs : List Str) (rs : Rws), vs = [.ref b, .ref W] ∧ Box H b g m n ∧ n ≤ 800000 ∧ Rw0 H W c xs rs ∧ 1 ≤ xs.length ∧
  ∀ (p : Addr) (Fs : List Str) (H' : Hp), H p = none → H' p = some (.lst (Fs.map V.str)) → Fs.Nodup → (∀ x ∈ Fs, x ∈ xs) → Srt Fs → Box H' b g m (n + 20) → Keep b g H H' → Q (.ref p) H'
theorem ok_faulty {f f1 f2 : Addr} {fd fd1 fd2 : FuncData} {k : Nat} (F : Fun K "_law_faulty" "_law_faulty" sFau f fd)
    (FT : Fun K "_law_take" "_law_take" sTake f1 fd1) (bT : Binds K fd1 ["_law_box_here", "_law_size"] []) (gT : mg "_law_take" = some (.ref f1)) (GT : FnOk P w K mg base CX0 k f1 fd1 ["_law_box_here", "_law_size"] spTake)
    (FS : Fun K "_law_some" "_law_some" sSome f2 fd2) (bS : Binds K fd2 ["_law_box_here", "_law_values"] []) (gS : mg "_law_some" = some (.ref f2)) (GS : FnOk P w K mg base CX0 k f2 fd2 ["_law_box_here", "_law_values"] (spSomeP K)) (T : Blt mg) :
    FnOk P w K mg base CX0 (k + 1) f fd ["_law_box_here", "_law_rows_here"] spFau := by
  refine F.ok scFau (fun vs H Q E h => ?_) (fun cdv A outer s H vs Q E hr h => ?_)
  · obtain ⟨b, g, m, W, n, c, xs, rs, rfl, _⟩ := h
    rfl
  · obtain ⟨b, g, m, W, n, c, xs, rs, rfl, B, hn, R, x1, q⟩ := h
    refine ⟨_, pss_cons (ps_set (i := 2) scFau.nd rfl (Or.inl rfl) (pe_callB cr_sortedS (by rfl) T.srt (by decide +kernel) (pa_cons (pe_callTy (call_listD rfl) (by rfl) T.lst (by decide +kernel) (pa_cons (pv 1) pa_nil)) pa_nil)))
      (pss_cons (ps_set (i := 3) scFau.nd rfl (Or.inl rfl) (pe_ix ix_list (pe_lst (pa_cons pe_int (pa_cons pe_int (pa_cons pe_int (pa_cons pe_int (pa_cons (pe_callB call_len_seq (by rfl) T.len PySem.boot_len (pa_cons (pv 2) pa_nil)) pa_nil)))))) (pe_call GT hr (by rfl) gT FT.kp bT .nil pass0 (pa_cons (pv 0) (pa_cons pe_int pa_nil))) (fun _ _ => rfl)))
      (pss_one (ps_ret (pe_callB cr_sortedS (by rfl) T.srt (by decide +kernel) (pa_cons (pe_slice sl_list (pe_call GS hr (by rfl) gS FS.kp bS .nil pass0 (pa_cons (pv 0) (pa_cons (pv 2) pa_nil))) po_none (po_some (pv 3))) pa_nil))))), ?_⟩
    have few := R.fit.few
    have flen := R.fit.len
    have knd : (rs.map (·.1)).Nodup := R.fit.keys.nodup_iff.mpr R.fit.nd
    refine ⟨.ref W, rfl, W, _, rfl, R.dc, fun l1 nl1 => ?_⟩
    rw [keys_strs]
    refine ⟨l1, rs.map (·.1), rfl, SqL.of upd_same, by rw [List.length_map]; omega, fun ys p1 pm srt np1 => ?_⟩
    have s2 := (same_new (o := .lst ((rs.map (·.1)).map V.str)) nl1).trans (same_new (o := .lst (ys.map V.str)) np1)
    have hp1 : upd (upd H l1 (.lst ((rs.map (·.1)).map V.str))) p1 (.lst (ys.map V.str)) p1 = some (.lst (ys.map V.str)) := upd_same
    obtain ⟨p1b, p1g, _⟩ := (B.same (same_new nl1)).ne np1
    have B2 := B.same s2
    generalize upd (upd H l1 (.lst ((rs.map (·.1)).map V.str))) p1 (.lst (ys.map V.str)) = H2 at s2 hp1 B2 ⊢
    have yp : ys.Perm xs := pm.trans R.fit.keys
    have yl := yp.length_eq
    refine ⟨.ref p1, rfl, p1, _, rfl, .inl (SqL.of hp1), by show 5 ≤ sizeLine; decide, fun l3 nl3 => ?_⟩
    obtain ⟨l3b, l3g, _⟩ := B2.ne nl3
    refine ⟨.ref b, rfl, b, g, m, _, 5, rfl, B2.same (same_new nl3), by omega, by decide, by decide, fun v H4 a0 a1 B4 K4 => ?_⟩
    have hl3 := K4 _ _ upd_same l3b l3g
    have hp14 := K4 _ _ (same_new nl3 _ _ hp1) p1b p1g
    obtain ⟨many, atm, m0⟩ : ∃ z : Int, atI [V.int 0, V.int 1, V.int 1, V.int 2, V.int ((ys.map V.str).length : Nat)] v = some (.int z) ∧ 0 ≤ z := by
      have cw : v = 0 ∨ v = 1 ∨ v = 2 ∨ v = 3 ∨ v = 4 := by omega
      rcases cw with rfl | rfl | rfl | rfl | rfl
      · exact ⟨0, rfl, by decide⟩
      · exact ⟨1, rfl, by decide⟩
      · exact ⟨1, rfl, by decide⟩
      · exact ⟨2, rfl, by decide⟩
      · exact ⟨_, atI_nat (j := 4) rfl, by omega⟩
    have K04 : Keep b g H H4 := ((Same.keep s2).trans (Same.keep (same_new nl3))).trans K4
    refine ⟨l3, _, v, .int many, rfl, rfl, SqL.of hl3, atm, ?_⟩
    refine ⟨.ref b, rfl, .ref p1, rfl, b, g, m, p1, _, ys, rfl, B4, by omega, SqL.of hp14, by omega, by omega, fun l5 zs us H5 nl5 h5 z1 pz B5 K5 => ?_⟩
    refine ⟨.int many, rfl, many, rfl, l5, _, rfl, SqL.of h5, fun l6 nl6 => ?_⟩
    rw [cut_to zs m0]
    have znd : zs.Nodup := (List.nodup_append.mp (pz.nodup_iff.mpr (yp.nodup_iff.mpr R.fit.nd))).1
    have zsub : ∀ z ∈ zs, z ∈ xs := fun z mz => yp.mem_iff.mp (pz.mem_iff.mp (List.mem_append_left _ mz))
    have zl : zs.length ≤ 8 := by
      have := pz.length_eq
      rw [List.length_append] at this
      omega
    refine ⟨l6, zs.take many.toNat, rfl, SqL.of upd_same, by rw [List.length_take]; omega, fun ws p7 pw srtw np7 => ?_⟩
    have s7 := (same_new (o := .lst ((zs.take many.toNat).map V.str)) nl6).trans (same_new (o := .lst (ws.map V.str)) np7)
    have K05 := K04.trans K5
    have n5 : H5 p7 = none := (same_new nl6).free np7
    obtain ⟨p7b, p7g, _⟩ := B5.ne n5
    exact q p7 ws _ (K05.free p7b p7g n5) upd_same (pw.nodup_iff.mpr (znd.sublist (List.take_sublist _ _))) (fun x mx => zsub x (List.mem_of_mem_take (pw.mem_iff.mp mx))) (sorted_pairs srtw) ((B5.same s7).more (by omega)) (K05.trans (Same.keep s7))
end
end Moot
/-! sorted(xs, key=f), f an own def that gives (len(x), x) of a tuple of texts. -/
namespace Moot
open PySem PySem.Spec PyProof.Rows L2 PySem.W
/-- a set of names: where it stands, and its names -/
abbrev Nset := Addr × List Str
def ordD (p : Nset) : PyData := .tuple [.int p.2.length, .tuple (p.2.map PyData.str)]
/-- by size, then as tuples -/
def ordLe : Nset → Nset → Bool := dataLe false ordD
def spOrd : Sp := fun vs H Q _ => ∃ (t : Addr) (ns : List Str), vs = [.ref t] ∧ H t = some (.tup (ns.map V.str)) ∧ ∀ p H', Same H H' → H p = none → H' p = some (.tup [.int ns.length, .ref t]) → Q (.ref p) H'
theorem ord_alike (p q : Nset) : alike (ordD p) (ordD q) = true := by
  have key : ∀ a b : List Str, alikeAll (a.map PyData.str) (b.map PyData.str) = true := by
    intro a
    induction a with
    | nil => intro b; rfl
    | cons x a ih =>
      intro b
      cases b with
      | nil => rfl
      | cons y b =>
        show (true && alikeAll (a.map PyData.str) (b.map PyData.str)) = true
        rw [ih b]
        rfl
  show (true && (alikeAll (p.2.map PyData.str) (q.2.map PyData.str) && true)) = true
  rw [key]
  rfl
theorem depth_str0 : ∀ ns : List Str, PyData.depthAll (ns.map PyData.str) = 0
  | [] => rfl
  | x :: ns => by
    show max 0 (PyData.depthAll (ns.map PyData.str)) = 0
    rw [depth_str0 ns]
    rfl
theorem ord_depth (p : Nset) : (ordD p).depth = 2 := by
  show max 0 (max (PyData.depthAll (p.2.map PyData.str) + 1) 0) + 1 = 2
  rw [depth_str0]
  rfl
theorem dp_txts {K : PySem.W.Frag} {H : Hp} : ∀ ns : List Str, DpAll K H (ns.map V.str) (ns.map PyData.str)
  | [] => .nil
  | x :: ns => .cons (.str x) (dp_txts ns)
theorem vals_refs : ∀ {ps : List Nset} {us : List Value}, Vals (ps.map fun p => V.ref p.1) us → us = ps.map fun p => Value.ref p.1
  | [], _, .nil => rfl
  | p :: ps, _ :: us, .cons r t => by
    cases r
    rw [vals_refs t]
    rfl
theorem refs_vals : ∀ ps : List Nset, Vals (ps.map fun p => V.ref p.1) (ps.map fun p => Value.ref p.1)
  | [] => .nil
  | p :: ps => .cons rfl (refs_vals ps)
/-- the result is the items by the order of their keys -/
def rSortBy (K : PySem.W.Frag) (f : Addr) : List V → List V → Hp → VK → Prop := fun vs zs H Q =>
  ∃ (l : Addr) (ps : List Nset), vs = [.ref l] ∧ zs = [.ref f] ∧ SqL K H l (ps.map fun p => V.ref p.1) ∧ (∀ p ∈ ps, H p.1 = some (.tup (p.2.map V.str))) ∧ ps.length ≤ 1000 ∧
    ∀ q H', Same H H' → H q = none → H' q = some (.lst ((ps.mergeSort ordLe).map fun p => V.ref p.1)) → Q (.ref q) H'
/-- the same, the key a function of the kind F in a state of the kind st -/
def rSortV (K : PySem.W.Frag) (F : Addr → Prop) (st : Addr → Hp → Prop) : List V → List V → Hp → VK → Prop := fun vs zs H Q =>
  ∃ (f l : Addr) (ps : List Nset), F f ∧ st f H ∧ vs = [.ref l] ∧ zs = [.ref f] ∧ SqL K H l (ps.map fun p => V.ref p.1) ∧ (∀ p ∈ ps, H p.1 = some (.tup (p.2.map V.str))) ∧ ps.length ≤ 1000 ∧
    ∀ q H', Same H H' → H q = none → H' q = some (.lst ((ps.mergeSort ordLe).map fun p => V.ref p.1)) → Q (.ref q) H'
/-- a heap without one of its objects -/
def without (h : Heap) (a : Addr) : Heap := h.update a fun o => { o with data := .freed }
theorem without_at (h : Heap) (a : Addr) : (without h a).get? a = none := by
  unfold without
  rcases h with ⟨objs, l⟩
  show (match (objs.modify a fun o => { o with data := .freed })[a]? with | some ⟨_, _, .freed, _⟩ => none | o => o) = none
  rw [Array.getElem?_modify, if_pos rfl]
  cases objs[a]? <;> rfl
theorem without_ne {h : Heap} {a b : Addr} {o : Obj} (ne : b ≠ a) (e : (without h a).get? b = some o) : h.get? b = some o := by
  rw [← e]
  exact (Heap.get?_update_other _ _ ne.symm).symm
/-- a call of f gives the key, wherever st holds -/
structure KeyOk (P : Program) (w : World) (K : PySem.W.Frag) (mg : Str → Option Value) (base : Heap) (k : Nat) (f : Addr) (st : Hp → Prop) : Prop where
  run : ∀ (A : Around) (outer : List Env) (s : Shared) (H : Hp) (t : Addr) (ns : List Str) (Q : VK), Room k A → Env0 P w K mg base A outer s H → st H → H t = some (.tup (ns.map V.str)) → (∀ p H', Same H H' → H p = none → H' p = some (.tup [.int ns.length, .ref t]) → Q (.ref p) H') →
    codeAny (model P w) A (.call (.ref f) ⟨[.ref t], []⟩) (CR CX0 outer P w H s Q E0) s
  stay : ∀ H H' : Hp, st H → Same H H' → st H'
theorem KeyOk.of {P : Program} {w : World} {K : PySem.W.Frag} {mg : Str → Option Value} {base : Heap} {k : Nat} {f : Addr} {fd : FuncData} (G : FnOk P w K mg base CX0 k f fd ["nodes"] spOrd) (bd : Binds K fd ["nodes"] []) : KeyOk P w K mg base k f fun _ => True :=
  ⟨fun A outer s H t ns Q hr e0 _ ht q => G.run A outer s H ⟨[.ref t], []⟩ [.ref t] [.ref t] Q E0 hr e0 (bd s [.ref t] (e0.mod.kin.keeps fun b o e => (e0.bs b o e).1) rfl) (.cons rfl .nil) ⟨t, ns, rfl, ht, q⟩, fun _ _ _ _ => trivial⟩
section
variable {X : Cx}
theorem fp_on {pins : List (Addr × Obj)} {H H' : Hp} {b : Addr} (f : FpOk X pins H b) (h : H' b = none) : FpOk X pins H' b := ⟨h, f.2⟩
/-- the keys are asked, one by one, and the items laid by them -/
theorem sort_rest {f : Addr} {st : Hp → Prop} {k : Nat} (G : KeyOk X.prog X.w X.K X.mg X.base k f st) (hr : Room (k + 2) X.A)
    {pins : List (Addr × Obj)} {σ : L2.St} {H : Hp} {s : Shared} {a kS : Addr} {e1 : Nat} {ps : List Nset} {R : PySem.Fin → Shared → Prop} {E : Value → Shared → Prop} (J : Inv X pins σ H s) (fa : FpOk X pins H a) (fk : FpOk X pins H kS) (ne : kS ≠ a)
    (nk : s.heap.get? kS = some (seqObj "list" #[] 0)) (na : s.heap.get? a = some (seqObj "list" #[] e1)) (tups : ∀ p ∈ ps, H p.1 = some (.tup (p.2.map V.str))) (few : ps.length ≤ 1000) (hst : st H)
    (fin : ∀ s' H', Inv X pins σ H' s' → Same H H' → H' a = some (.lst ((ps.mergeSort ordLe).map fun p => V.ref p.1)) → R (.done (.ret .none)) s') :
    wpAny (model X.prog X.w) X.A.in1.in1 (ksk_rest a (.ref f) false (ps.map fun p => Value.ref p.1).toArray e1 (.ref kS)) R E s := by
  have plen : (ps.map fun p => Value.ref p.1).length = ps.length := List.length_map _
  have small : ps.length ≤ sizeLine := Nat.le_of_lt (small1000 few)
  have room : Room k X.A.in1.in1 := hr.in1.in1
  unfold ksk_rest
  apply wpAny_bind
  apply wpAny_rule
  rw [List.forIn_toArray]
  apply wpAny_bind
  refine ksk_fold (fun i s' => ∃ (H' : Hp) (kA : Array Value) (e : Nat) (ts : List Addr), Inv X pins σ H' s' ∧ Same H H' ∧ H' a = none ∧ H' kS = none ∧ s'.heap.get? kS = some (seqObj "list" kA e) ∧ s'.heap.get? a = some (seqObj "list" #[] e1) ∧
    kA.toList = ts.map Value.ref ∧ ts.length = i ∧ ∀ (j : Nat) t p, ts[j]? = some t → ps[j]? = some p → H' t = some (.tup [.int p.2.length, .ref p.1])) _ 0 s ⟨H, #[], 0, [], J, Same.refl H, fa.1, fk.1, nk, na, rfl, rfl, fun j t p e => by simp at e⟩ ?_ ?_
  · rintro j x s' hx ⟨H', kA, e, ts, J', same, Ha, Hk, nk', na', ek, el, keys⟩
    rw [Nat.zero_add] at el ⊢
    rw [List.getElem?_map] at hx
    obtain ⟨p, hp, rfl⟩ := Option.map_eq_some_iff.mp hx
    have jlt : j < ps.length := (List.getElem?_eq_some_iff.mp hp).1
    have tp := same _ _ (tups p (List.mem_of_getElem? hp))
    have PJ := J'.pinned (fp := [kS, a]) (fun b hb => by
      rcases List.mem_cons.mp hb with c | c
      · rw [c]; exact fp_on fk Hk
      · rw [List.mem_singleton.mp c]; exact fp_on fa Ha) (fun b hb => by
      rcases List.mem_cons.mp hb with c | c
      · rw [c]; exact ⟨_, nk', fun v z => by cases z⟩
      · rw [List.mem_singleton.mp c]; exact ⟨_, na', fun v z => by cases z⟩)
    have ksz : kA.size = j := by
      have := congrArg List.length ek
      rw [Array.length_toList, List.length_map] at this
      omega
    apply wpAny_bind
    apply wpAny_attempt
    generalize hKQ : (fun (v : V) (H'' : Hp) => ∃ t, v = .ref t ∧ Same H' H'' ∧ H'' t = some (.tup [.int p.2.length, .ref p.1])) = KQ
    refine wpAny_mono (Q := fun u s'' => EP X (pins ++ pinsAt [kS, a] s'.heap) σ KQ u s'') (E := fun _ _ => False) ?_ (fun u s'' hE => ?_) fun _ _ z => z.elim
    · refine wpAny_call (codeAny_mono (G.run X.A.in1.in1 X.stack s' H' p.1 p.2 KQ room PJ.env0.in1.in1 (G.stay _ _ hst same) tp fun t H'' s2 nt ht => by rw [← hKQ]; exact ⟨t, rfl, s2, ht⟩) fun r s2 hq => ?_)
      cases r with
      | error e => exact hq.elim
      | ok fl =>
        cases fl with
        | ret u => exact PJ.after hq
        | next => exact hq.elim
        | brk => exact hq.elim
        | cont => exact hq.elim
    · obtain ⟨v, H'', J'', rv, hv⟩ := hE
      rw [← hKQ] at hv
      obtain ⟨t, rfl, s2, ht⟩ := hv
      cases rv
      have pk := J''.pin (kS, seqObj "list" kA e) (List.mem_append_right _ (List.mem_append_right _ (mem_pinsAt List.mem_cons_self nk')))
      have pa := J''.pin (a, seqObj "list" #[] e1) (List.mem_append_right _ (List.mem_append_right _ (mem_pinsAt (List.mem_cons_of_mem _ List.mem_cons_self) na')))
      have up := Heap.SameBut.update s''.heap kS (Obj.mapSeq (·.push (Value.ref t)))
      apply wpAny_bind
      refine listUpdate_at pk.1 rfl ?_ (by rw [ksz]; omega) (by rw [Array.size_push, ksz]; omega)
      refine wpAny_pure ⟨rfl, H'', kA.push (.ref t), _, ts ++ [t], Inv.turnedL (s := s'') (t' := s''.toks) (ch := [kS]) J''.unpinned (fun b o nb eb => (up.2 b fun c => nb (by rw [c]; exact List.mem_cons_self)).trans eb) (fun b hb => ?_), same.trans s2, pa.2.1, pk.2.1, get?_update_seq pk.1 _, (up.2 a ne.symm).trans pa.1, ?_, ?_, ?_⟩
      · rw [List.mem_singleton.mp hb]
        exact fp_on fk pk.2.1
      · rw [Array.toList_push, ek, List.map_append]
        rfl
      · rw [List.length_append, el]
        rfl
      · intro i t' p' h1 h2
        by_cases c : i < ts.length
        · rw [List.getElem?_append_left c] at h1
          exact s2 _ _ (keys i t' p' h1 h2)
        · have il : i = j := by
            have := (List.getElem?_eq_some_iff.mp h1).1
            rw [List.length_append, List.length_singleton] at this
            omega
          rw [il] at h1 h2
          rw [List.getElem?_append_right (by omega), el, Nat.sub_self] at h1
          cases Option.some.inj h1
          cases Option.some.inj (hp.symm.trans h2)
          exact ht
  · rintro s' ⟨H', kA, e, ts, J', same, Ha, Hk, nk', na', ek, el, keys⟩
    rw [Nat.zero_add, plen] at el
    have ksz : kA.size = ps.length := by
      have := congrArg List.length ek
      rw [Array.length_toList, List.length_map] at this
      omega
    have each : EachIs (fun v d => ∃ as, Reads s'.heap v d as) kA.toList (ps.map ordD) := by
      rw [ek]
      have go : ∀ (ts : List Addr) (ps : List Nset), ts.length = ps.length → (∀ (j : Nat) t p, ts[j]? = some t → ps[j]? = some p → H' t = some (.tup [.int p.2.length, .ref p.1])) → (∀ p ∈ ps, H p.1 = some (.tup (p.2.map V.str))) →
          EachIs (fun v d => ∃ as, Reads s'.heap v d as) (ts.map Value.ref) (ps.map ordD) := by
        intro ts
        induction ts with
        | nil =>
          intro ps hl _ _
          cases ps with
          | nil => exact .nil
          | cons _ _ => simp at hl
        | cons t ts ih =>
          intro ps hl hk ht
          cases ps with
          | nil => simp at hl
          | cons p ps =>
            refine .cons ?_ (ih ps (by simpa using hl) (fun j t' p' h1 h2 => hk (j + 1) t' p' h1 h2) fun p' m => ht p' (List.mem_cons_of_mem _ m))
            refine Dp.reads J' (ordD p) (.ref t) (.ref t) (.tup (SqT.of (hk 0 t p rfl rfl)) (.cons (.int _) (.cons (.tup (SqT.of (same _ _ (ht p List.mem_cons_self))) (dp_txts p.2)) .nil))) rfl
      exact go ts ps el keys tups
    have all : AllAlike (ps.map ordD) := AllAlike.of ord_alike
    have can : Sortable (ps.map ordD) := Sortable.tuples fun p => ⟨_, _, rfl⟩
    have units : ∀ d, d ∈ ps.map ordD → X.A.in1.in1.units + d.depth < cLine := fun d md => by
      obtain ⟨p, _, rfl⟩ := List.mem_map.mp md
      rw [ord_depth]
      have := room.un
      omega
    apply wpAny_bind
    apply listItems_at nk' rfl
    refine keyH_end (κ := dataKind s'.heap (ps.map ordD)) (h₁ := without s'.heap kS) (fun b o nb eb => ?_) (without_at _ _) nk' na' ne (SortsAt.data each all can units) (by rw [plen]; exact ksz) (by rw [plen]; exact small) fun h' tk c kp at' => ?_
    · by_cases c : b = kS
      · rw [c, without_at] at eb
        cases eb
      · exact without_ne c eb
    · have out := keyedOut_each (rev := false) (R := fun v p => v = Value.ref p.1) (bs := ps) (vs := ps.map fun p => Value.ref p.1) ordD ⟨s'.heap, kA.toList, all, rfl, each⟩ (by
        have go : ∀ ps : List Nset, EachIs (fun v p => v = Value.ref p.1) (ps.map fun p => Value.ref p.1) ps := by
          intro ps
          induction ps with
          | nil => exact .nil
          | cons p ps ih => exact .cons rfl ih
        exact go ps)
      have eo : ∀ {vs : List Value} {qs : List Nset}, EachIs (fun v p => v = Value.ref p.1) vs qs → vs = qs.map fun p => Value.ref p.1 := by
        intro vs qs h
        induction h with
        | nil => rfl
        | cons a _ ih => rw [a, ih]; rfl
      rw [eo out] at at'
      have klen : (ps.mergeSort ordLe).length = ps.length := (List.mergeSort_perm ps _).length_eq
      have kept : ∀ b o, b ≠ a → b ≠ kS → s'.heap.get? b = some o → h'.get? b = some o := fun b o n1 n2 eb => kp b o n1 ((Heap.get?_update_other _ _ n2.symm).trans eb)
      have nn : ∀ {b o}, H' b = some o → b ≠ a ∧ b ≠ kS := fun {b o} eb => ⟨fun c => (by rw [c, Ha] at eb; cases eb), fun c => (by rw [c, Hk] at eb; cases eb)⟩
      have upn : ∀ {b o}, H' b = some o → (upd H' a (.lst ((ps.mergeSort ordLe).map fun p => V.ref p.1))) b = some o := fun {b o} eb => by
        rw [upd_ne (nn eb).1]
        exact eb
      have out2 : ∀ {b}, b ∉ [a, kS] → b ≠ a ∧ b ≠ kS := fun {b} nb => ⟨fun c => nb (by rw [c]; exact List.mem_cons_self), fun c => nb (by rw [c]; exact List.mem_cons_of_mem _ List.mem_cons_self)⟩
      have un : Un (frs X.stack) [a, kS] H' (upd H' a (.lst ((ps.mergeSort ordLe).map fun p => V.ref p.1))) s'.heap h' :=
        ⟨fun b o eb _ _ nx => kept b o (out2 nx).1 (out2 nx).2 eb, fun b o eb _ _ nx => ⟨o.slots, kept b o (out2 nx).1 (out2 nx).2 eb⟩, fun b o _ n nx => by rw [upd_ne (out2 nx).1]; exact n, fun b o eb nx => ⟨o, kept b o (out2 nx).1 (out2 nx).2 eb⟩,
          fun b xs eb => upn eb, fun b o u eb => upn eb, fun b qs eb => ⟨#[], by rw [upn eb]; simp⟩⟩
      have hok : HOk X.prog X.w (upd H' a (.lst ((ps.mergeSort ordLe).map fun p => V.ref p.1))) h' := fun b u eb => by
        by_cases c : b = a
        · rw [c, upd_same] at eb
          cases Option.some.inj eb
          rw [c]
          exact ⟨by rw [List.length_map, klen]; exact small, _, _, refs_vals _, at'⟩
        · rw [upd_ne c] at eb
          refine (J'.hok b u eb).stay (fun d v hd q => ?_) (fun d q => upn q) fun d xs q => upn q
          rcases hd with rfl | hd
          · exact kept _ v (nn eb).1 (nn eb).2 q
          · exact kept d v (nn hd).1 (nn hd).2 q
      have JJ := J'.call (g' := s'.gens) (t' := tk) (d' := s'.drawn) un hok J'.bare fun b hb => by
        rcases List.mem_cons.mp hb with c | c
        · rw [c]
          exact ⟨fa.2.2.2.1, fa.2.1, fa.2.2.2.2.1, fa.2.2.2.2.2⟩
        · rw [List.mem_singleton.mp c]
          exact ⟨fk.2.2.2.1, fk.2.1, fk.2.2.2.2.1, fk.2.2.2.2.2⟩
      exact fin _ _ JJ (fun b o eb => upn (same b o eb)) upd_same
theorem cr_sortV {k : Nat} {F : Addr → Prop} {st : Addr → Hp → Prop} (G : ∀ f, F f → KeyOk X.prog X.w X.K X.mg X.base k f (st f)) (hr : Room (k + 2) X.A) : CallRK X (.builtin "sorted") [Str.ofString "key"] (rSortV X.K F st) := by
  intro pins s σ H xs zs us ws Q I r rz h
  obtain ⟨f, l, ps, hF, hst, rfl, rfl, hs, tups, few, q⟩ := h
  obtain ⟨its, rv, hl, hz⟩ := I.list hs
  have eits := vals_refs rv
  subst eits
  rw [Vals.ref1 r, Vals.ref1 rz]
  show wpAny _ _ (call (.builtin "sorted") [.ref l] [(Str.ofString "key", .ref f)]) _ _ _
  have plen : (ps.map fun p => Value.ref p.1).length = ps.length := List.length_map _
  have small : ps.length ≤ sizeLine := Nat.le_of_lt (small1000 few)
  refine sorted_of_sort hl.isList (by rw [plen]; exact small) (ksk_s1 _ _) (fun _ => ksk_l1 _ _) fun E' => ?_
  rw [ksk_t1]
  generalize ea : s.heap.objs.size + 1 = a
  have na : s.heap.objs.size ≤ a := by rw [← ea]; exact Nat.le_succ _
  have Ha : H a = none := I.hok.fresh na
  have fa : FpOk X pins H a := I.fpOk na Ha
  have ha : (copyHeap s.heap (ps.map fun p => Value.ref p.1)).get? a = some (seqObj "list" (ps.map fun p => Value.ref p.1).toArray 0) := by rw [← ea]; exact copyHeap_at _ _
  have I0 : Inv X pins σ H { s with heap := copyHeap s.heap (ps.map fun p => Value.ref p.1) } := I.kept (t' := s.toks) fun b u e => copyHeap_old e
  generalize copyHeap s.heap (ps.map fun p => Value.ref p.1) = h0 at ha I0 ⊢
  unfold ksk_tree
  apply wpAny_bind
  apply listItems_at ha rfl
  apply wpAny_bind
  refine listUpdate_at ha rfl ?_ (by rw [List.size_toArray, plen]; exact small) (Nat.zero_le _)
  obtain ⟨e1, ha1⟩ : ∃ e1, (h0.update a (Obj.mapSeq fun _ => (#[] : Array Value))).get? a = some (seqObj "list" #[] e1) := ⟨_, get?_update_seq ha fun _ => #[]⟩
  have I1 : Inv X pins σ H { s with heap := h0.update a (Obj.mapSeq fun _ => (#[] : Array Value)) } := Inv.turnedL (s := { s with heap := h0 }) (t' := s.toks) (ch := [a]) I0 (fun b o nb e => (Heap.get?_update_other _ _ fun c => nb (by rw [c]; exact List.mem_cons_self)).trans e) fun b hb => by
    rw [List.mem_singleton.mp hb]
    exact fa
  generalize h0.update a (Obj.mapSeq fun _ => (#[] : Array Value)) = h1 at ha1 I1 ⊢
  apply wpAny_bind
  apply seqEpoch_at ha1 rfl
  apply wpAny_bind
  refine wpAny_newTuple ?_ (by rw [List.toList_toArray, plen]; exact small)
  apply wpAny_bind
  refine wpAny_newList ?_ (Nat.zero_le _)
  apply wpAny_holding
  rw [List.toList_toArray]
  have I2 : Inv X pins σ H { s with heap := (h1.push (seqObj "tuple" (ps.map fun p => Value.ref p.1).toArray 0)).push (seqObj "list" #[] 0) } := Inv.kept (s := { s with heap := h1 }) (t' := s.toks) I1 fun b u e => Heap.get?_push_of_some _ (Heap.get?_push_of_some _ e)
  have big : h1.objs.size ≤ (h1.push (seqObj "tuple" (ps.map fun p => Value.ref p.1).toArray 0)).objs.size := by
    rw [size_push']
    exact Nat.le_succ _
  have fk : FpOk X pins H (h1.push (seqObj "tuple" (ps.map fun p => Value.ref p.1).toArray 0)).objs.size := I1.fpOk big (I1.hok.fresh big)
  refine sort_rest (G f hF) hr (s := { s with heap := (h1.push (seqObj "tuple" (ps.map fun p => Value.ref p.1).toArray 0)).push (seqObj "list" #[] 0) }) I2 fa fk (Nat.ne_of_gt (Nat.lt_of_lt_of_le (Heap.lt_size ha1) big)) (Heap.get?_push_size _ rfl) (Heap.get?_push_of_some _ (Heap.get?_push_of_some _ ha1)) tups few hst fun s' H' J' same at' => ⟨rfl, .ref a, H', J', rfl, q a H' same Ha at'⟩
theorem cr_sortBy {f : Addr} {fd : FuncData} {k : Nat} (G : FnOk X.prog X.w X.K X.mg X.base CX0 k f fd ["nodes"] spOrd) (hr : Room (k + 2) X.A) (bd : Binds X.K fd ["nodes"] []) : CallRK X (.builtin "sorted") [Str.ofString "key"] (rSortBy X.K f) := by
  intro pins s σ H xs zs us ws Q I r rz h
  obtain ⟨l, ps, e1, e2, hs, tups, few, q⟩ := h
  exact cr_sortV (F := fun g => g = f) (st := fun _ _ => True) (fun g e => by rw [e]; exact .of G bd) hr pins s σ H xs zs us ws Q I r rz ⟨f, l, ps, rfl, trivial, e1, e2, hs, tups, few, q⟩
end
end Moot
namespace Moot
open PySem PySem.Spec PyProof.Rows L2
/-! all sets of names, and the minimal ones -/
def subStep (acc : List (List Str)) (x : Str) : List (List Str) := acc ++ acc.map (· ++ [x])
def subs (ns : List Str) : List (List Str) := ns.foldl subStep [[]]
theorem subs_snoc (ns : List Str) (x : Str) : subs (ns ++ [x]) = subStep (subs ns) x := by
  unfold subs
  rw [List.foldl_append]
  rfl
theorem subs_take {ns : List Str} {i : Nat} {x : Str} (h : ns[i]? = some x) : subs (ns.take (i + 1)) = subStep (subs (ns.take i)) x := by
  rw [List.take_add_one, h]
  exact subs_snoc _ _
theorem subs_len (ns : List Str) : (subs ns).length = 2 ^ ns.length := by
  have : ∀ n, ∀ ns : List Str, ns.length = n → (subs ns).length = 2 ^ n := by
    intro n
    induction n with
    | zero =>
      intro ns e
      rw [List.eq_nil_of_length_eq_zero e]
      rfl
    | succ n ih =>
      intro ns e
      have ne : ns ≠ [] := fun z => by rw [z] at e; cases e
      obtain ⟨a, x, rfl⟩ : ∃ a x, ns = a ++ [x] := ⟨_, _, (List.dropLast_concat_getLast ne).symm⟩
      rw [List.length_append, List.length_singleton] at e
      rw [subs_snoc, subStep, List.length_append, List.length_map, ih a (by omega), Nat.pow_succ]
      omega
  exact this _ ns rfl
theorem subs_filter (p : Str → Bool) (ns : List Str) : ns.filter p ∈ subs ns := by
  have : ∀ n, ∀ ns : List Str, ns.length = n → ns.filter p ∈ subs ns := by
    intro n
    induction n with
    | zero =>
      intro ns e
      rw [List.eq_nil_of_length_eq_zero e]
      exact List.mem_cons_self
    | succ n ih =>
      intro ns e
      have ne : ns ≠ [] := fun z => by rw [z] at e; cases e
      obtain ⟨a, x, rfl⟩ : ∃ a x, ns = a ++ [x] := ⟨_, _, (List.dropLast_concat_getLast ne).symm⟩
      rw [List.length_append, List.length_singleton] at e
      have k := ih a (by omega)
      rw [subs_snoc, List.filter_append]
      cases hx : p x with
      | true =>
        rw [List.filter_cons_of_pos hx]
        exact List.mem_append_right _ (List.mem_map.mpr ⟨_, k, rfl⟩)
      | false =>
        rw [List.filter_cons_of_neg (by rw [hx]; exact Bool.false_ne_true)]
        show _ ++ [] ∈ _
        rw [List.append_nil]
        exact List.mem_append_left _ k
  exact this _ ns rfl
theorem subs_in {ns s : List Str} (h : s ∈ subs ns) : ∀ x ∈ s, x ∈ ns := by
  have : ∀ n, ∀ ns : List Str, ns.length = n → ∀ s ∈ subs ns, ∀ x ∈ s, x ∈ ns := by
    intro n
    induction n with
    | zero =>
      intro ns e s hs x hx
      rw [List.eq_nil_of_length_eq_zero e] at hs
      rw [List.mem_singleton.mp hs] at hx
      simp at hx
    | succ n ih =>
      intro ns e s hs x hx
      have ne : ns ≠ [] := fun z => by rw [z] at e; cases e
      obtain ⟨a, y, rfl⟩ : ∃ a y, ns = a ++ [y] := ⟨_, _, (List.dropLast_concat_getLast ne).symm⟩
      rw [List.length_append, List.length_singleton] at e
      rw [subs_snoc] at hs
      rcases List.mem_append.mp hs with hs | hs
      · exact List.mem_append_left _ (ih a (by omega) s hs x hx)
      · obtain ⟨t, ht, rfl⟩ := List.mem_map.mp hs
        rcases List.mem_append.mp hx with hx | hx
        · exact List.mem_append_left _ (ih a (by omega) t ht x hx)
        · exact List.mem_append_right _ hx
  exact this _ ns rfl s h
def minStep (kept : List (List Str)) (s : List Str) : List (List Str) := if (kept.any fun m => m.all fun x => decide (x ∈ s)) = true then kept else kept ++ [s]
def mins (l : List (List Str)) : List (List Str) := l.foldl minStep []
theorem mins_take {l : List (List Str)} {i : Nat} {s : List Str} (h : l[i]? = some s) : mins (l.take (i + 1)) = minStep (mins (l.take i)) s := by
  rw [List.take_add_one, h]
  unfold mins
  show List.foldl minStep [] (l.take i ++ [s]) = _
  rw [List.foldl_append]
  rfl
theorem mins_mem : ∀ {l : List (List Str)} {kept : List (List Str)} {m : List Str}, m ∈ l.foldl minStep kept → m ∈ kept ∨ m ∈ l
  | [], _, _, h => .inl h
  | s :: l, kept, m, h => by
    rcases mins_mem (l := l) h with k | k
    · unfold minStep at k
      split at k
      · exact .inl k
      · rcases List.mem_append.mp k with k | k
        · exact .inl k
        · exact .inr (by rw [List.mem_singleton.mp k]; exact List.mem_cons_self)
    · exact .inr (List.mem_cons_of_mem _ k)
theorem mins_keep : ∀ {l : List (List Str)} {kept : List (List Str)} {m : List Str}, m ∈ kept → m ∈ l.foldl minStep kept
  | [], _, _, h => h
  | s :: l, kept, m, h => mins_keep (l := l) (by
    unfold minStep
    split
    · exact h
    · exact List.mem_append_left _ h)
theorem mins_below : ∀ {l : List (List Str)} {kept : List (List Str)} {s : List Str}, s ∈ l → ∃ m ∈ l.foldl minStep kept, ∀ x ∈ m, x ∈ s
  | t :: l, kept, s, h => by
    rcases List.mem_cons.mp h with e | h
    · subst e
      by_cases c : (kept.any fun m => m.all fun x => decide (x ∈ s)) = true
      · obtain ⟨m, hm, k⟩ := List.any_eq_true.mp c
        refine ⟨m, mins_keep (l := s :: l) hm, fun x mx => of_decide_eq_true (List.all_eq_true.mp k x mx)⟩
      · refine ⟨s, mins_keep (l := l) ?_, fun x mx => mx⟩
        unfold minStep
        rw [if_neg c]
        exact List.mem_append_right _ List.mem_cons_self
    · exact mins_below (l := l) h
theorem mins_len : ∀ (l kept : List (List Str)), (l.foldl minStep kept).length ≤ kept.length + l.length
  | [], _ => Nat.le_refl _
  | s :: l, kept => by
    have h := mins_len l (minStep kept s)
    have k : (minStep kept s).length ≤ kept.length + 1 := by
      unfold minStep
      split
      · omega
      · rw [List.length_append]
        exact Nat.le_refl _
    show (l.foldl minStep (minStep kept s)).length ≤ kept.length + (l.length + 1)
    omega
/-- in the program's order -/
def keyD (ns : List Str) : PyData := .tuple [.int ns.length, .tuple (ns.map PyData.str)]
def srt (l : List (List Str)) : List (List Str) := l.mergeSort (PySem.W.dataLe false keyD)
theorem srt_mem {l : List (List Str)} {s : List Str} : s ∈ srt l ↔ s ∈ l := (List.mergeSort_perm l _).mem_iff
theorem srt_len (l : List (List Str)) : (srt l).length = l.length := (List.mergeSort_perm l _).length_eq
theorem srt_map (ps : List Nset) : (ps.mergeSort ordLe).map (·.2) = srt (ps.map (·.2)) := List.map_mergeSort fun a _ b _ => rfl
def holds (s : List Str) (sets : List (List Str)) : Bool := sets.any fun m => m.all fun x => decide (x ∈ s)
def met (s : List Str) (sets : List (List Str)) : Bool := sets.all fun m => m.any fun x => decide (x ∈ s)
/-! the minimal sets, found one by one -/
theorem toks_inj : ∀ {a b : List Str}, PySem.W.keyToksAll (a.map PyData.str) = PySem.W.keyToksAll (b.map PyData.str) → a = b
  | [], [], _ => rfl
  | [], y :: b, h => by
    exfalso
    have h' : [Sum.inl (0 : Int)] = Sum.inl 1 :: ([Sum.inr y.cps.toList] ++ PySem.W.keyToksAll (b.map PyData.str)) := h
    have e := (List.cons.inj h').1
    have := Sum.inl.inj e
    omega
  | x :: a, [], h => by
    exfalso
    have h' : Sum.inl (1 : Int) :: ([Sum.inr x.cps.toList] ++ PySem.W.keyToksAll (a.map PyData.str)) = [Sum.inl 0] := h
    have e := (List.cons.inj h').1
    have := Sum.inl.inj e
    omega
  | x :: a, y :: b, h => by
    have h' : Sum.inl (1 : Int) :: Sum.inr x.cps.toList :: PySem.W.keyToksAll (a.map PyData.str) = Sum.inl 1 :: Sum.inr y.cps.toList :: PySem.W.keyToksAll (b.map PyData.str) := h
    have e1 := (List.cons.inj (List.cons.inj h').2).1
    have e2 := (List.cons.inj (List.cons.inj h').2).2
    rw [PySem.W.str_of_cps (Sum.inr.inj e1), toks_inj e2]
theorem key_inj {a b : List Str} (h : PySem.W.keyToks (keyD a) = PySem.W.keyToks (keyD b)) : a = b := by
  have h' : Sum.inl (1 : Int) :: Sum.inl (a.length : Int) :: Sum.inl 1 :: (PySem.W.keyToksAll (a.map PyData.str) ++ [Sum.inl 0]) = Sum.inl (1 : Int) :: Sum.inl (b.length : Int) :: Sum.inl 1 :: (PySem.W.keyToksAll (b.map PyData.str) ++ [Sum.inl 0]) := h
  have e := (List.cons.inj (List.cons.inj (List.cons.inj h').2).2).2
  exact toks_inj (List.append_cancel_right e)
abbrev kLe : List Str → List Str → Bool := PySem.W.dataLe false keyD
theorem kLe_anti {a b : List Str} (h1 : kLe a b = true) (h2 : kLe b a = true) : a = b := by
  have h1' : (!(listOrd itemOrd).blt (PySem.W.keyToks (keyD b)) (PySem.W.keyToks (keyD a))) = true := h1
  have h2' : (!(listOrd itemOrd).blt (PySem.W.keyToks (keyD a)) (PySem.W.keyToks (keyD b))) = true := h2
  rw [Bool.not_eq_true'] at h1' h2'
  exact key_inj ((listOrd itemOrd).total _ _ h2' h1')
theorem srt_pairs (l : List (List Str)) : (srt l).Pairwise fun a b => kLe a b = true := by
  have T := PySem.W.sortLe_total (listOrd itemOrd) false fun b : List Str => PySem.W.keyToks (keyD b)
  exact List.pairwise_mergeSort (le := kLe) (fun a b c h1 h2 => T.trans a b c h1 h2) (fun a b => Bool.or_eq_true_iff.mpr (T.total a b)) l
theorem kLe_len {a b : List Str} (h : kLe a b = true) : a.length ≤ b.length := by
  have h' : (!PyProof.Rows.lexLt itemOrd (PySem.W.keyToks (keyD b)) (PySem.W.keyToks (keyD a))) = true := h
  rw [Bool.not_eq_true'] at h'
  refine Nat.le_of_not_lt fun c => ?_
  have ne : (Sum.inl (b.length : Int) : Int ⊕ List Nat) ≠ Sum.inl (a.length : Int) := fun z => by
    have := Sum.inl.inj z
    omega
  have e : PyProof.Rows.lexLt itemOrd (PySem.W.keyToks (keyD b)) (PySem.W.keyToks (keyD a)) = PyProof.Rows.lexLt itemOrd [Sum.inl (b.length : Int)] [Sum.inl (a.length : Int)] :=
    (PySem.W.lex_pre [Sum.inl 1] _ _).trans (PySem.W.lex_atom ne _ _)
  rw [e] at h'
  have k : PyProof.Rows.lexLt itemOrd [Sum.inl (b.length : Int)] [Sum.inl (a.length : Int)] = true := by
    have l : itemLt (Sum.inl (b.length : Int)) (Sum.inl (a.length : Int)) = true := decide_eq_true (by omega)
    exact (PyProof.Rows.lex_diff ne).trans l
  rw [k] at h'
  cases h'
/-! sets of the names -/
theorem snoc_ind {P : List Str → Prop} (h0 : P []) (h1 : ∀ a x, P a → P (a ++ [x])) (l : List Str) : P l := by
  have : ∀ n, ∀ l : List Str, l.length = n → P l := by
    intro n
    induction n with
    | zero => intro l e; rw [List.eq_nil_of_length_eq_zero e]; exact h0
    | succ n ih =>
      intro l e
      have ne : l ≠ [] := fun z => by rw [z] at e; cases e
      obtain ⟨a, y, rfl⟩ : ∃ a y, l = a ++ [y] := ⟨_, _, (List.dropLast_concat_getLast ne).symm⟩
      rw [List.length_append, List.length_singleton] at e
      exact h1 a y (ih a (by omega))
  exact this _ l rfl
theorem subs_own {ns : List Str} : ns.Nodup → ∀ {s : List Str}, s ∈ subs ns → ns.filter (fun x => decide (x ∈ s)) = s := by
  refine snoc_ind (P := fun ns => ns.Nodup → ∀ {s : List Str}, s ∈ subs ns → ns.filter (fun x => decide (x ∈ s)) = s) ?_ ?_ ns
  · intro _ s h
    rw [List.mem_singleton.mp h]
    rfl
  · intro a x ih nd s h
    rw [List.nodup_append] at nd
    obtain ⟨nda, _, dis⟩ := nd
    have xa : x ∉ a := fun m => dis x m x List.mem_cons_self rfl
    rw [subs_snoc] at h
    rw [List.filter_append]
    rcases List.mem_append.mp h with h | h
    · have xs : x ∉ s := fun m => xa (subs_in h x m)
      rw [ih nda h, List.filter_cons_of_neg (by simpa using xs)]
      exact List.append_nil _
    · obtain ⟨t, ht, rfl⟩ := List.mem_map.mp h
      rw [List.filter_cons_of_pos (by simp)]
      have e : a.filter (fun y => decide (y ∈ t ++ [x])) = a.filter (fun y => decide (y ∈ t)) := List.filter_congr fun y my => by
        have : y ≠ x := fun z => xa (z ▸ my)
        simp [this]
      rw [e, ih nda ht]
      rfl
theorem subs_nodup {ns : List Str} : ns.Nodup → (subs ns).Nodup := by
  refine snoc_ind (P := fun ns => ns.Nodup → (subs ns).Nodup) ?_ ?_ ns
  · intro _
    exact List.pairwise_singleton _ _
  · intro a x ih nd
    rw [List.nodup_append] at nd
    obtain ⟨nda, _, dis⟩ := nd
    have xa : x ∉ a := fun m => dis x m x List.mem_cons_self rfl
    rw [subs_snoc, subStep, List.nodup_append]
    refine ⟨ih nda, ?_, fun s hs t ht e => ?_⟩
    · exact List.Pairwise.map _ (fun s t ne z => ne (List.append_cancel_right z)) (ih nda)
    · obtain ⟨u, _, rfl⟩ := List.mem_map.mp ht
      exact xa (subs_in hs x (e ▸ List.mem_append_right _ List.mem_cons_self))
theorem sub_nodup {ns s : List Str} (nd : ns.Nodup) (h : s ∈ subs ns) : s.Nodup := by
  rw [← subs_own nd h]
  exact nd.filter _
theorem sub_filter {ns s : List Str} (nd : ns.Nodup) (h : s ∈ subs ns) (p : Str → Bool) : s.filter p ∈ subs ns := by
  have e : s.filter p = ns.filter fun x => decide (x ∈ s) && p x := by
    conv => lhs; rw [← subs_own nd h]
    rw [List.filter_filter]
    exact List.filter_congr fun x _ => Bool.and_comm _ _
  rw [e]
  exact subs_filter _ ns
theorem sub_one {ns s t : List Str} (nd : ns.Nodup) (hs : s ∈ subs ns) (ht : t ∈ subs ns) (h : ∀ x, x ∈ s ↔ x ∈ t) : s = t := by
  rw [← subs_own nd hs, ← subs_own nd ht]
  exact List.filter_congr fun x _ => decide_eq_decide.mpr (h x)
/-! what is kept -/
theorem mins_sub : ∀ (l kept : List (List Str)), ∃ r, l.foldl minStep kept = kept ++ r ∧ r.Sublist l
  | [], kept => ⟨[], (List.append_nil _).symm, List.Sublist.refl _⟩
  | s :: l, kept => by
    obtain ⟨r, e, h⟩ := mins_sub l (minStep kept s)
    show ∃ r, l.foldl minStep (minStep kept s) = _ ∧ _
    rw [e]
    unfold minStep
    split
    · exact ⟨r, rfl, h.cons s⟩
    · exact ⟨s :: r, by rw [List.append_assoc]; rfl, h.cons_cons s⟩
theorem mins_apart : ∀ (l kept : List (List Str)), kept.Pairwise (fun a b => ¬ ∀ x ∈ a, x ∈ b) → (l.foldl minStep kept).Pairwise fun a b => ¬ ∀ x ∈ a, x ∈ b
  | [], _, h => h
  | s :: l, kept, h => mins_apart l (minStep kept s) (by
    unfold minStep
    split
    · exact h
    · rename_i c
      rw [List.pairwise_append]
      refine ⟨h, List.pairwise_singleton _ _, fun a ma b mb k => c (List.any_eq_true.mpr ⟨a, ma, List.all_eq_true.mpr fun x mx => ?_⟩)⟩
      rw [List.mem_singleton.mp mb] at k
      exact decide_eq_true (k x mx))
/-- without one name the set does it no more -/
def minimal (p : List Str → Bool) (s : List Str) : Bool := p s && !(s.map fun g => s.filter fun x => decide (x ≠ g)).any p
theorem minimal_iff {p : List Str → Bool} {s : List Str} : minimal p s = true ↔ p s = true ∧ ∀ g ∈ s, p (s.filter fun x => decide (x ≠ g)) = false := by
  unfold minimal
  rw [Bool.and_eq_true, Bool.not_eq_true', List.any_eq_false]
  constructor
  · rintro ⟨h, k⟩
    exact ⟨h, fun g mg => Bool.eq_false_iff.mpr (k _ (List.mem_map.mpr ⟨g, mg, rfl⟩))⟩
  · rintro ⟨h, k⟩
    refine ⟨h, fun t mt => ?_⟩
    obtain ⟨g, mg, rfl⟩ := List.mem_map.mp mt
    rw [k g mg]
    exact Bool.false_ne_true
theorem filter_lt {s : List Str} {g : Str} (h : g ∈ s) : (s.filter fun x => decide (x ≠ g)).length < s.length := by
  refine List.length_filter_lt_length_iff_exists.mpr ⟨g, h, ?_⟩
  simp
theorem kept_is {ns : List Str} (nd : ns.Nodup) {p : List Str → Bool} (mono : ∀ s ∈ subs ns, ∀ t ∈ subs ns, (∀ x ∈ s, x ∈ t) → p s = true → p t = true) : mins ((srt (subs ns)).filter p) = srt ((subs ns).filter (minimal p)) := by
  have ndS : (srt (subs ns)).Nodup := (List.mergeSort_perm (subs ns) _).nodup_iff.mpr (subs_nodup nd)
  obtain ⟨r, er, hr⟩ := mins_sub ((srt (subs ns)).filter p) []
  have sl : (mins ((srt (subs ns)).filter p)).Sublist (srt (subs ns)) := by
    unfold mins
    rw [er, List.nil_append]
    exact hr.trans List.filter_sublist
  have pw : (mins ((srt (subs ns)).filter p)).Pairwise fun a b => kLe a b = true := (srt_pairs _).sublist sl
  have ap : (mins ((srt (subs ns)).filter p)).Pairwise fun a b => ¬ ∀ x ∈ a, x ∈ b := mins_apart _ [] List.Pairwise.nil
  have inM : ∀ {s}, s ∈ mins ((srt (subs ns)).filter p) → s ∈ subs ns ∧ p s = true := fun {s} h => by
    rcases mins_mem h with z | z
    · simp at z
    · exact ⟨srt_mem.mp (List.mem_filter.mp z).1, (List.mem_filter.mp z).2⟩
  have below : ∀ {s}, s ∈ subs ns → p s = true → ∃ m ∈ mins ((srt (subs ns)).filter p), ∀ x ∈ m, x ∈ s := fun {s} h1 h2 => mins_below (kept := []) (List.mem_filter.mpr ⟨srt_mem.mpr h1, h2⟩)
  refine List.Perm.eq_of_pairwise (le := fun a b => kLe a b = true) (fun a b _ _ h1 h2 => kLe_anti h1 h2) pw (srt_pairs _) ((List.perm_ext_iff_of_nodup (ndS.sublist sl) ((List.mergeSort_perm _ _).nodup_iff.mpr ((subs_nodup nd).filter _))).mpr fun s => ?_)
  show s ∈ mins ((srt (subs ns)).filter p) ↔ s ∈ srt ((subs ns).filter (minimal p))
  rw [srt_mem, List.mem_filter, minimal_iff]
  constructor
  · intro h
    obtain ⟨h1, h2⟩ := inM h
    refine ⟨h1, h2, fun g mg => ?_⟩
    cases e : p (s.filter fun x => decide (x ≠ g)) with
    | false => rfl
    | true =>
      exfalso
      obtain ⟨m, mm, k⟩ := below (sub_filter nd h1 _) e
      have ms : ∀ x ∈ m, x ∈ s := fun x mx => (List.mem_filter.mp (k x mx)).1
      have short : m.length < s.length := Nat.lt_of_le_of_lt (nodup_le (sub_nodup nd (inM mm).1) k) (filter_lt mg)
      -- both are kept: the smaller one stands first, and bars the larger
      have both : ∀ {l : List (List Str)}, (l.Pairwise fun a b => kLe a b = true) → (l.Pairwise fun a b => ¬ ∀ x ∈ a, x ∈ b) → m ∈ l → s ∈ l → False := by
        intro l
        induction l with
        | nil => intro _ _ h; simp at h
        | cons y l ih =>
          intro q1 q2 h1 h2
          obtain ⟨a1, a2⟩ := List.pairwise_cons.mp q1
          obtain ⟨b1, b2⟩ := List.pairwise_cons.mp q2
          rcases List.mem_cons.mp h1 with c1 | c1
          · rcases List.mem_cons.mp h2 with c2 | c2
            · rw [c1, c2] at short
              exact Nat.lt_irrefl _ short
            · exact b1 s c2 (c1 ▸ ms)
          · rcases List.mem_cons.mp h2 with c2 | c2
            · have := kLe_len (a1 m c1)
              rw [← c2] at this
              omega
            · exact ih a2 b2 c1 c2
      exact both pw ap mm h
  · rintro ⟨h1, h2, h3⟩
    obtain ⟨m, mm, k⟩ := below h1 h2
    by_cases c : ∀ x ∈ s, x ∈ m
    · rw [sub_one nd h1 (inM mm).1 fun x => ⟨c x, k x⟩]
      exact mm
    · exfalso
      obtain ⟨g, hg⟩ := Classical.not_forall.mp c
      obtain ⟨mg, ng⟩ := Classical.not_imp.mp hg
      have e := h3 g mg
      rw [mono m (inM mm).1 _ (sub_filter nd h1 _) (fun x mx => List.mem_filter.mpr ⟨k x mx, decide_eq_true (show x ≠ g from fun z => ng (z ▸ mx))⟩) (inM mm).2] at e
      cases e
end Moot
namespace Moot
open PySem PySem.Spec PyProof.Rows L2
/-- tuples of names, each at its place -/
def SetsAt (H : Hp) (qs : List Nset) : Prop := ∀ q ∈ qs, H q.1 = some (.tup (q.2.map V.str))
theorem SetsAt.same {H H' : Hp} {qs : List Nset} (h : SetsAt H qs) (s : Same H H') : SetsAt H' qs := fun q m => s _ _ (h q m)
structure Blt2 (mg : Str → Option Value) : Prop where
  all : mg "all" = none
  any : mg "any" = none
theorem subs_short {ns s : List Str} (h : s ∈ subs ns) : s.length ≤ ns.length := by
  have : ∀ n, ∀ ns : List Str, ns.length = n → ∀ s ∈ subs ns, s.length ≤ n := by
    intro n
    induction n with
    | zero =>
      intro ns e s hs
      rw [List.eq_nil_of_length_eq_zero e] at hs
      rw [List.mem_singleton.mp hs]
      exact Nat.le_refl _
    | succ n ih =>
      intro ns e s hs
      have ne : ns ≠ [] := fun z => by rw [z] at e; cases e
      obtain ⟨a, y, rfl⟩ : ∃ a y, ns = a ++ [y] := ⟨_, _, (List.dropLast_concat_getLast ne).symm⟩
      rw [List.length_append, List.length_singleton] at e
      rw [subs_snoc] at hs
      rcases List.mem_append.mp hs with hs | hs
      · exact Nat.le_succ_of_le (ih a (by omega) s hs)
      · obtain ⟨t, ht, rfl⟩ := List.mem_map.mp hs
        rw [List.length_append]
        exact Nat.succ_le_succ (ih a (by omega) t ht)
  exact this _ ns rfl s h
theorem ref_at {qs : List Nset} {i : Nat} {x : V} (h : (qs.map fun q => V.ref q.1)[i]? = some x) : ∃ q, qs[i]? = some q ∧ x = .ref q.1 := by
  rw [List.getElem?_map] at h
  obtain ⟨q, hq, e⟩ := Option.map_eq_some_iff.mp h
  exact ⟨q, hq, e.symm⟩
section
variable {P : Program} {w : World} {K : PySem.W.Frag} {mg : Str → Option Value} {base : Heap}
/-! is_within -/
abbrev sWit : Stmt := top 9
abbrev nWit : List Str := ["small", "large", "name"]
theorem scWit : FnScope nWit ["small", "large"] (defScope sWit) := ⟨rfl, rfl, rfl, by decide +kernel, rfl, by decide +kernel, by decide +kernel⟩
def spWit : Sp := fun vs H Q _ => ∃ (a b : Addr) (m s : List Str), vs = [.ref a, .ref b] ∧ H a = some (.tup (m.map V.str)) ∧ H b = some (.tup (s.map V.str)) ∧ m.length ≤ 900 ∧ ∀ H', Same H H' → Q (.bl (m.all fun x => decide (x ∈ s))) H'
theorem ok_wit {f : Addr} {fd : FuncData} {k : Nat} (F : Fun K "is_within" "is_within" sWit f fd) (T : Blt mg) (T2 : Blt2 mg) : FnOk P w K mg base CX0 (k + 1) f fd ["small", "large"] spWit := by
  refine F.ok scWit (fun vs H Q E h => ?_) (fun cdv A outer s H vs Q E hr h => ?_)
  · obtain ⟨a, b, m, s, rfl, _⟩ := h
    rfl
  · obtain ⟨a, b, m, s, rfl, ha, hb, few, q⟩ := h
    refine ⟨_, pss_one (ps_ret (pe_callB (cr_all rfl) (by rfl) T2.all (by decide +kernel) (pa_cons (pe_lc (own := [("name", 2)]) (g := gName 2) (tt := tYes) (by rfl) scWit.nd (pi_tup (pv 0)) (blkOk_by (N := nWit) (sc := defScope sWit) (by decide +kernel))
      (fun _ _ _ _ _ => pg_name (i := 2) scWit.nd rfl (Or.inl rfl)) (fun _ _ _ _ _ => pts_nil) (fun _ _ _ _ _ => pe_cmpR (show OpR _ (compareOp .In) (rIn K false) from op_in_seq) (pv 2) (pv 1) (by rfl))) pa_nil))), ?_⟩
    refine ⟨.ref a, rfl, a, rfl, ⟨_, SqT.of ha⟩, fun D nD => lc_tup (K := K) (a := a) (xs := m.map V.str) (fun i H1 => Same H H1 ∧ H1 D = some (.lst (((m.take i).map fun x => decide (x ∈ s)).map V.bl))) ?_ (fun i H1 _ h => SqT.of (h.1 _ _ ha)) ?_ ?_⟩
    · exact ⟨same_new nD, upd_same⟩
    · rintro i x H1 hx ⟨s1, hD⟩
      rw [List.getElem?_map] at hx
      obtain ⟨z, hz, rfl⟩ := Option.map_eq_some_iff.mp hx
      have lt := (List.getElem?_eq_some_iff.mp hz).1
      refine ⟨rfl, .str z, rfl, .ref b, rfl, b, _, rfl, .inr (SqT.of (s1 _ _ hb)), rfl, flats s, _, hD, ?_, fun d o e => ?_, ?_⟩
      · rw [List.length_map, List.length_map, List.length_take]
        exact small1000 (by omega)
      · rw [upd_ne (ne_of_none e nD)]
        exact s1 d o e
      · rw [upd_same, List.take_add_one, hz, List.map_append, List.map_append]
        show some (HO.lst (_ ++ [V.bl (if false = true then _ else inV (.str z) (s.map V.str))])) = _
        rw [if_neg Bool.false_ne_true, inV_str]
        rfl
    · rintro H1 ⟨s1, hD⟩
      rw [List.length_map, List.take_length] at hD
      refine ⟨D, _, rfl, SqL.of hD, ?_⟩
      have e : (m.map fun x => decide (x ∈ s)).all id = m.all fun x => decide (x ∈ s) := by rw [List.all_map]; rfl
      rw [e]
      exact q H1 s1
end
end Moot
namespace Moot
open PySem PySem.Spec PyProof.Rows L2
def ListsAt (H : Hp) (qs : List Nset) : Prop := ∀ q ∈ qs, H q.1 = some (.lst (q.2.map V.str))
section
variable {P : Program} {w : World} {K : PySem.W.Frag} {mg : Str → Option Value} {base : Heap}
end
end Moot
namespace Moot
open PySem PySem.Spec PyProof.Rows L2
/-- what is removed, each time the first that can be -/
def rem (c : Rq) (Fs : List Str) : Nat → List Str → List Str
  | 0, _ => []
  | n + 1, R => match R.find? fun x => !okN c x (R ++ Fs) with
    | some x => x :: rem c Fs n (R.filter fun y => decide (y ∉ [x]))
    | none => []
theorem rem_some {c : Rq} {Fs R : List Str} {n : Nat} {x : Str} (h : (R.find? fun x => !okN c x (R ++ Fs)) = some x) : rem c Fs (n + 1) R = x :: rem c Fs n (R.filter fun y => decide (y ∉ [x])) := by
  rw [rem, h]
theorem rem_none {c : Rq} {Fs R : List Str} {n : Nat} (h : (R.find? fun x => !okN c x (R ++ Fs)) = none) : rem c Fs n R = [] := by
  cases n with
  | zero => rfl
  | succ n => rw [rem, h]
theorem out_len {R : List Str} {x : Str} (nd : R.Nodup) (m : x ∈ R) : (R.filter fun y => decide (y ∉ [x])).length + 1 = R.length := by
  have e : (R.filter fun y => decide (y ∉ [x])) = R.erase x := by
    rw [nd.erase_eq_filter]
    exact List.filter_congr fun y _ => by
      by_cases h : y = x <;> simp [h]
  rw [e, List.length_erase_of_mem m]
  have := List.length_pos_of_mem m
  omega
/-- what remains -/
def lqR (c : Rq) (Fs L : List Str) : List Str := L.filter fun x => decide (x ∉ rem c Fs L.length L)
theorem satP_up {S S' : List Str} (h : ∀ x, x ∈ S → x ∈ S') {p : Part} (s : satP S p = true) : satP S' p = true := by
  cases p with
  | inl x => exact decide_eq_true (h x (of_decide_eq_true s))
  | inr y =>
    obtain ⟨c, ns⟩ := y
    have s' : c ≤ ((ns.countP fun x => decide (x ∈ S) : Nat) : Int) := of_decide_eq_true s
    have m : (ns.countP fun x => decide (x ∈ S)) ≤ ns.countP fun x => decide (x ∈ S') := List.countP_mono_left fun x _ hx => decide_eq_true (h x (of_decide_eq_true hx))
    exact decide_eq_true (show c ≤ ((ns.countP fun x => decide (x ∈ S') : Nat) : Int) by omega)
theorem sat_up {S S' : List Str} (h : ∀ x, x ∈ S → x ∈ S') {c : Int} {ps : List Part} (s : sat S c ps = true) : sat S' c ps = true := by
  have s' : c ≤ ((ps.countP fun p => satP S p : Nat) : Int) := of_decide_eq_true s
  have m : (ps.countP fun p => satP S p) ≤ ps.countP fun p => satP S' p := List.countP_mono_left fun p _ hp => satP_up h hp
  exact decide_eq_true (show c ≤ ((ps.countP fun p => satP S' p : Nat) : Int) by omega)
theorem okN_up {S S' : List Str} (h : ∀ x, x ∈ S → x ∈ S') {c : Rq} {x : Str} (s : okN c x S = true) : okN c x S' = true := sat_up h s
/-- a set in which each is convinced -/
def Good0 (c : Rq) (Fs Q : List Str) : Prop := ∀ x ∈ Q, okN c x (Q ++ Fs) = true
theorem rest_all {c : Rq} {Fs : List Str} : ∀ (n : Nat) {R : List Str}, R.Nodup → R.length = n → Good0 c Fs (R.filter fun y => decide (y ∉ rem c Fs n R)) ∧ ∀ Q : List Str, (∀ x ∈ Q, x ∈ R) → Good0 c Fs Q → ∀ x ∈ Q, x ∈ R.filter fun y => decide (y ∉ rem c Fs n R)
  | 0, R, _, l => by
    have : R = [] := List.length_eq_zero_iff.mp l
    subst this
    exact ⟨(fun x m => by cases m), fun Q h _ x m => absurd (h x m) (by simp)⟩
  | n + 1, R, nd, l => by
    cases ef : R.find? fun x => !okN c x (R ++ Fs) with
    | none =>
      rw [rem_none ef]
      have e : (R.filter fun y => decide (y ∉ ([] : List Str))) = R := List.filter_eq_self.mpr fun y _ => by simp
      rw [e]
      refine ⟨fun x m => ?_, fun Q h _ x m => h x m⟩
      have := List.find?_eq_none.mp ef x m
      simpa using this
    | some x =>
      have mx : x ∈ R := List.mem_of_find?_eq_some ef
      have bad : okN c x (R ++ Fs) = false := by
        have := List.find?_some ef
        simpa using this
      have ol := out_len nd mx
      obtain ⟨i1, i2⟩ := rest_all n (R := R.filter fun y => decide (y ∉ [x])) (nd.sublist List.filter_sublist) (by omega)
      rw [rem_some ef]
      have e : (R.filter fun y => decide (y ∉ x :: rem c Fs n (R.filter fun y => decide (y ∉ [x])))) = (R.filter fun y => decide (y ∉ [x])).filter fun y => decide (y ∉ rem c Fs n (R.filter fun y => decide (y ∉ [x]))) := by
        rw [List.filter_filter]
        exact List.filter_congr fun y _ => by
          by_cases h1 : y = x <;> simp [h1]
      rw [e]
      refine ⟨i1, fun Q h g z mz => i2 Q (fun y my => List.mem_filter.mpr ⟨h y my, decide_eq_true fun m => ?_⟩) g z mz⟩
      rw [List.mem_singleton.mp m] at my
      have := okN_up (S' := R ++ Fs) (fun y m' => by
        rcases List.mem_append.mp m' with m' | m'
        · exact List.mem_append_left _ (h y m')
        · exact List.mem_append_right _ m') (g x my)
      rw [bad] at this
      cases this
theorem lqR_sub (c : Rq) (Fs L : List Str) : (lqR c Fs L).Sublist L := List.filter_sublist
theorem lqR_good {c : Rq} {Fs L : List Str} (nd : L.Nodup) : Good0 c Fs (lqR c Fs L) := (rest_all L.length nd rfl).1
theorem lqR_most {c : Rq} {Fs L Q : List Str} (nd : L.Nodup) (h : ∀ x ∈ Q, x ∈ L) (g : Good0 c Fs Q) : ∀ x ∈ Q, x ∈ lqR c Fs L := (rest_all L.length nd rfl).2 Q h g
section
variable {P : Program} {w : World} {K : PySem.W.Frag} {mg : Str → Option Value} {base : Heap}
end
end Moot
namespace Moot
open PySem PySem.Spec PyProof.Rows L2
section
variable {P : Program} {w : World} {K : PySem.W.Frag} {mg : Str → Option Value} {base : Heap}
end
end Moot
namespace Moot
open PySem PySem.Spec PyProof.Rows L2
theorem cat_nodes {K : PySem.W.Frag} {H : Hp} {a b : Addr} {A B : List Str} {Q : VK} (ha : SqT K H a (A.map V.str)) (hb : SqT K H b (B.map V.str)) (len : A.length + B.length ≤ 900) (q : ∀ p H', Same H H' → SqT K H' p ((A ++ B).map V.str) → Q (.ref p) H') : rCatA K (.ref a) (.ref b) H Q := by
  refine ⟨a, b, _, _, rfl, rfl, ha, hb, ?_, fun e => ?_, fun _ e => ?_, fun _ _ p np => ?_⟩
  · rw [List.length_map, List.length_map]
    exact Nat.le_of_lt (small1000 (by omega))
  · have e' := List.map_eq_nil_iff.mp e
    subst e'
    exact q b H (Same.refl _) hb
  · have e' := List.map_eq_nil_iff.mp e
    subst e'
    rw [List.append_nil] at q
    exact q a H (Same.refl _) ha
  · refine q p _ (same_new np) ?_
    rw [List.map_append]
    exact SqT.of upd_same
theorem good_union {c : Rq} {Fs A B : List Str} (ha : Good0 c Fs A) (hb : Good0 c Fs B) : Good0 c Fs (A ++ B) := fun x m => by
  rcases List.mem_append.mp m with m | m
  · exact okN_up (fun y my => by
      rcases List.mem_append.mp my with my | my
      · exact List.mem_append_left _ (List.mem_append_left _ my)
      · exact List.mem_append_right _ my) (ha x m)
  · exact okN_up (fun y my => by
      rcases List.mem_append.mp my with my | my
      · exact List.mem_append_left _ (List.mem_append_right _ my)
      · exact List.mem_append_right _ my) (hb x m)
/-- of a set in which each is convinced some fail: the rest is still such a set, beside them -/
theorem good_less {c : Rq} {Fs Gs A : List Str} (ha : Good0 c Fs A) : Good0 c (Fs ++ Gs) (A.filter fun x => decide (x ∉ Gs)) := fun x m => by
  refine okN_up (fun y my => ?_) (ha x (List.mem_filter.mp m).1)
  rcases List.mem_append.mp my with my | my
  · by_cases g : y ∈ Gs
    · exact List.mem_append_right _ (List.mem_append_right _ g)
    · exact List.mem_append_left _ (List.mem_filter.mpr ⟨my, decide_eq_true g⟩)
  · exact List.mem_append_right _ (List.mem_append_left _ my)
section
variable {P : Program} {w : World} {K : PySem.W.Frag} {mg : Str → Option Value} {base : Heap}
end
end Moot
namespace Moot
open PySem PySem.Spec PyProof.Rows L2
theorem eqv_txts : ∀ a b : List Str, PyData.eqvAll (a.map PyData.str) (b.map PyData.str) = decide (a = b)
  | [], [] => by simp [PyData.eqvAll]
  | [], _ :: _ => by simp [PyData.eqvAll]
  | _ :: _, [] => by simp [PyData.eqvAll]
  | x :: a, y :: b => by
    show PyData.eqvAll (.str x :: a.map PyData.str) (.str y :: b.map PyData.str) = _
    rw [PyData.eqvAll, eqv_txts a b, PyData.eqv]
    by_cases h : x = y
    · subst h
      simp
    · simp [h]
theorem eqv_list (a b : List Str) : PyData.eqv (.list (a.map PyData.str)) (.list (b.map PyData.str)) = decide (a = b) := by
  rw [PyData.eqv]
  exact eqv_txts a b
theorem shaped_list {a : List Str} (h : ∀ x ∈ a, PyData.strOk x = true) : SeqAt.shaped (.list (a.map PyData.str)) = true := by
  unfold SeqAt.shaped
  have d : PyData.depth (.list (a.map PyData.str)) ≤ 64 := by
    show PyData.depthAll (a.map PyData.str) + 1 ≤ 64
    rw [depth_strs]
    decide
  rw [decide_eq_true d]
  show (PyData.canLayAll0 (a.map PyData.str) && true) = true
  rw [lay_strs h]
  rfl
/-- how far the two lists of a loop are from its end -/
def apart (H : Hp) (a b : Option V) : Nat := match a, b with
  | some (.ref a), some (.ref b) => match H a, H b with
    | some (.lst u), some (.lst v) => u.length + (if u = v then 0 else 1)
    | _, _ => 0
  | _, _ => 0
theorem apart_refs {H : Hp} {a b : Addr} {u v : List V} (ha : H a = some (.lst u)) (hb : H b = some (.lst v)) : apart H (some (.ref a)) (some (.ref b)) = u.length + if u = v then 0 else 1 := by
  simp only [apart, ha, hb]
theorem strs_inj : ∀ {u v : List Str}, u.map V.str = v.map V.str → u = v
  | [], [], _ => rfl
  | [], _ :: _, h => by cases h
  | _ :: _, [], h => by cases h
  | x :: u, y :: v, h => by
    obtain ⟨h1, h2⟩ := List.cons.inj h
    rw [V.str.inj h1, strs_inj h2]
abbrev rListOf (K : PySem.W.Frag) : List V → Hp → VK → Prop := fun xs H Q => ∃ p ys, xs = [.ref p] ∧ (SqL K H p ys ∨ SqT K H p ys) ∧ ∀ l, H l = none → Q (.ref l) (upd H l (.lst ys))
section
variable {P : Program} {w : World} {K : PySem.W.Frag} {mg : Str → Option Value} {base : Heap}
end
end Moot
namespace Moot
open PySem PySem.Spec PyProof.Rows L2
theorem NetAt.keep {C : Addr} {H H' : Hp} {net D : Addr} {c : Rq} {xs : List Str} {rs : Rws} {b g m : Addr} {n : Nat} (h : NetAt C H net D c xs rs) (k : Keep b g H H') (B : Box H b g m n) : NetAt C H' net D c xs rs := by
  obtain ⟨dx, hn⟩ := h.ob
  exact ⟨⟨dx, k.nl B hn fun _ z => (by cases z)⟩, k.nl B h.dc fun _ z => (by cases z), h.fit.tups (k.tups B), h.srt⟩
theorem merge_kvs : ∀ (rs qs : Rws), ((qs ++ rs).map (·.1)).Nodup → mergeK (kvs qs) (kvs rs) = kvs (qs ++ rs)
  | [], qs, _ => by rw [List.append_nil]; rfl
  | (x, r) :: rs, qs, nd => by
    have new : x ∉ qs.map (·.1) := by
      rw [List.map_append] at nd
      intro m
      exact (List.nodup_append.mp nd).2.2 x m x (by simp) rfl
    show mergeK (putK (kvs qs) (Sum.inr x : L2.Key) (V.ref r)) (kvs rs) = _
    rw [putK_new _ (val_out new)]
    have e : kvs qs ++ [((Sum.inr x : L2.Key), V.ref r)] = kvs (qs ++ [(x, r)]) := by
      unfold kvs
      rw [List.map_append]
      rfl
    rw [e]
    have e2 : qs ++ (x, r) :: rs = (qs ++ [(x, r)]) ++ rs := by rw [List.append_assoc]; rfl
    rw [e2] at nd ⊢
    exact merge_kvs rs (qs ++ [(x, r)]) nd
theorem rows_paired {K : PySem.W.Frag} {H : Hp} : ∀ (ts : List Addr) (rs : Rws), RowsAt H ts rs → Paired (fun p kv => SqT K H p [kV kv.1, kv.2]) ts (kvs rs)
  | [], rs, h => by
    have : rs = [] := List.length_eq_zero_iff.mp h.1.symm
    subst this
    exact .nil
  | t :: ts, [], h => by cases h.1
  | t :: ts, q :: rs, h => by
    obtain ⟨x, r, e, ht⟩ := h.2 0 t rfl
    have e' : q = (x, r) := Option.some.inj e
    subst e'
    exact .cons (.inl ht) (rows_paired ts rs ⟨Nat.succ.inj h.1, fun i a ea => h.2 (i + 1) a ea⟩)
theorem paired_rows {H : Hp} : ∀ {ts : List Addr} {rs : Rws}, Paired (fun (t : Addr) (q : L2.Key × V) => H t = some (.tup [kV q.1, q.2])) ts (kvs rs) → RowsAt H ts rs := by
  intro ts
  induction ts with
  | nil =>
    intro rs p
    cases rs with
    | nil => exact ⟨rfl, fun i t e => by cases e⟩
    | cons q rs => cases p
  | cons t ts ih =>
    intro rs p
    cases rs with
    | nil => cases p
    | cons q rs =>
      cases p with
      | cons h r =>
        obtain ⟨l, a⟩ := ih r
        refine ⟨congrArg (· + 1) l, fun i t' e => ?_⟩
        cases i with
        | zero =>
          cases e
          exact ⟨q.1, q.2, rfl, .inl h⟩
        | succ i => exact a i t' e
theorem lqR_self {c : Rq} {Fs L : List Str} (nd : L.Nodup) (g : Good0 c Fs L) : lqR c Fs L = L := by
  refine (lqR_sub c Fs L).eq_of_length (Nat.le_antisymm (lqR_sub c Fs L).length_le ?_)
  exact nd_len L _ nd (lqR_most nd (fun x m => m) g)
theorem shaped_tup {a : List Str} (h : ∀ x ∈ a, PyData.strOk x = true) : SeqAt.shaped (.tuple (a.map PyData.str)) = true := by
  unfold SeqAt.shaped
  have d : PyData.depth (.tuple (a.map PyData.str)) ≤ 64 := by
    show PyData.depthAll (a.map PyData.str) + 1 ≤ 64
    rw [depth_strs]
    decide
  rw [decide_eq_true d]
  show (PyData.canLayAll0 (a.map PyData.str) && true) = true
  rw [lay_strs h]
  rfl
theorem eqv_tup (a b : List Str) : PyData.eqv (.tuple (a.map PyData.str)) (.tuple (b.map PyData.str)) = decide (a = b) := by
  show PyData.eqvAll _ _ = _
  exact eqv_txts a b
theorem eqv_lst (a b : List Str) : PyData.eqv (.list (a.map PyData.str)) (.list (b.map PyData.str)) = decide (a = b) := by
  show PyData.eqvAll _ _ = _
  exact eqv_txts a b
theorem shaped_lst {a : List Str} (h : ∀ x ∈ a, PyData.strOk x = true) : SeqAt.shaped (.list (a.map PyData.str)) = true := by
  unfold SeqAt.shaped
  have d : PyData.depth (.list (a.map PyData.str)) ≤ 64 := by
    show PyData.depthAll (a.map PyData.str) + 1 ≤ 64
    rw [depth_strs]
    decide
  rw [decide_eq_true d]
  show (PyData.canLayAll0 (a.map PyData.str) && true) = true
  rw [lay_strs h]
  rfl
/-! what is removed and what remains make up the whole -/
theorem rem_in {c : Rq} {Fs : List Str} : ∀ (n : Nat) (R : List Str), ∀ x ∈ rem c Fs n R, x ∈ R
  | 0, R, x, m => by cases m
  | n + 1, R, x, m => by
    cases ef : R.find? fun x => !okN c x (R ++ Fs) with
    | none => rw [rem_none ef] at m; cases m
    | some y =>
      rw [rem_some ef] at m
      rcases List.mem_cons.mp m with e | m
      · rw [e]; exact List.mem_of_find?_eq_some ef
      · exact (List.mem_filter.mp (rem_in n _ x m)).1
theorem rem_nodup {c : Rq} {Fs : List Str} : ∀ (n : Nat) (R : List Str), (rem c Fs n R).Nodup
  | 0, R => List.Pairwise.nil
  | n + 1, R => by
    cases ef : R.find? fun x => !okN c x (R ++ Fs) with
    | none => rw [rem_none ef]; exact List.Pairwise.nil
    | some y =>
      rw [rem_some ef]
      refine List.nodup_cons.mpr ⟨fun m => ?_, rem_nodup n _⟩
      have := (List.mem_filter.mp (rem_in n _ y m)).2
      simp at this
theorem rem_perm {c : Rq} {Fs L : List Str} (nd : L.Nodup) : (lqR c Fs L ++ rem c Fs L.length L).Perm L := by
  refine (List.perm_ext_iff_of_nodup (List.nodup_append.mpr ⟨nd.filter _, rem_nodup _ _, fun a ha b hb e => ?_⟩) nd).mpr fun x => ?_
  · subst e
    have := (List.mem_filter.mp ha).2
    simp [hb] at this
  · rw [List.mem_append]
    constructor
    · rintro (h | h)
      · exact (List.mem_filter.mp h).1
      · exact rem_in _ _ x h
    · intro h
      by_cases k : x ∈ rem c Fs L.length L
      · exact .inr k
      · exact .inl (List.mem_filter.mpr ⟨h, decide_eq_true k⟩)
/-! the least sets -/
theorem mins_one {ns : List Str} (nd : ns.Nodup) {p : List Str → Bool} {m s : List Str} (hm : m ∈ mins ((srt (subs ns)).filter p)) (hs : s ∈ mins ((srt (subs ns)).filter p)) (ms : ∀ x ∈ m, x ∈ s) : m = s := by
  obtain ⟨r, er, hr⟩ := mins_sub ((srt (subs ns)).filter p) []
  have sl : (mins ((srt (subs ns)).filter p)).Sublist (srt (subs ns)) := by
    unfold mins
    rw [er, List.nil_append]
    exact hr.trans List.filter_sublist
  have pw : (mins ((srt (subs ns)).filter p)).Pairwise fun a b => kLe a b = true := (srt_pairs _).sublist sl
  have ap : (mins ((srt (subs ns)).filter p)).Pairwise fun a b => ¬ ∀ x ∈ a, x ∈ b := mins_apart _ [] List.Pairwise.nil
  have mn : m ∈ subs ns := srt_mem.mp (sl.mem hm)
  have sn : s ∈ subs ns := srt_mem.mp (sl.mem hs)
  have both : ∀ {l : List (List Str)}, (l.Pairwise fun a b => kLe a b = true) → (l.Pairwise fun a b => ¬ ∀ x ∈ a, x ∈ b) → m ∈ l → s ∈ l → m = s := by
    intro l
    induction l with
    | nil => intro _ _ h; simp at h
    | cons y l ih =>
      intro q1 q2 h1 h2
      obtain ⟨a1, a2⟩ := List.pairwise_cons.mp q1
      obtain ⟨b1, b2⟩ := List.pairwise_cons.mp q2
      rcases List.mem_cons.mp h1 with c1 | c1
      · rcases List.mem_cons.mp h2 with c2 | c2
        · rw [c1, c2]
        · exact absurd (c1 ▸ ms) (b1 s c2)
      · rcases List.mem_cons.mp h2 with c2 | c2
        · have le := kLe_len (a1 m c1)
          rw [← c2] at le
          refine sub_one nd mn sn fun x => ⟨ms x, fun mx => ?_⟩
          exact Decidable.byContradiction fun nx => by
            have z := nodup_le (sub_nodup nd mn) (D := s.filter fun y => decide (y ≠ x)) (fun y my => List.mem_filter.mpr ⟨ms y my, decide_eq_true fun e => nx (e ▸ my)⟩)
            have := filter_lt mx
            omega
        · exact ih a2 b2 c1 c2
  exact both pw ap hm hs
end Moot
namespace Moot
open PySem PySem.Spec PyProof.Rows L2
section
variable {P : Program} {w : World} {A : Around} {E : Value → Shared → Prop} {s : Shared}
theorem collect_tuple {l : Addr} {vs : List Value} {Q : List Value → Shared → Prop} (hl : IsTup s.heap l vs.toArray)
    (h : Q vs { s with heap := (s.heap.push (seqObj "list" #[] 0)).update s.heap.objs.size (Obj.mapSeq (· ++ vs.toArray)) }) (hsz : vs.length ≤ sizeLine) :
    wpAny (model P w) A (collect (.ref l)) Q E s := by
  obtain ⟨o, ho, hc, n, hd⟩ := id hl
  unfold collect
  refine wpAny_bind (wpAny_runValue (codeAny_builtin entry_proto_collect' ?_))
  show wpAny _ _ (do again (.builtin "list.__iadd__" ⟨[← newList [], .ref l], []⟩)) _ _ s
  refine wpAny_bind (wpAny_newList (wpAny_pure ⟨Code.quiet_builtin _ (by decide +kernel), codeAny_builtin entry_list_iadd' ?_⟩))
  show wpAny _ _ (Builtin.List.listExtendWith (.ref s.heap.objs.size) (.ref l) (.ref s.heap.objs.size)) _ _ { s with heap := s.heap.push (seqObj "list" #[] 0) }
  unfold Builtin.List.listExtendWith
  have ho' : (s.heap.push (seqObj "list" #[] 0)).get? l = some o := Heap.get?_push_of_some _ ho
  refine wpAny_bind (wpAny_typeOf (T := "tuple") ⟨o, ho', hc⟩ ?_)
  have ht : (Value.type "tuple" == Value.type "tuple") = true := by rfl
  rw [if_pos (by rw [ht]; simp)]
  refine wpAny_bind (listItems_at ho' hd ?_)
  refine wpAny_bind (listItems_at (xs := #[]) (n := 0) (Heap.get?_push_size _ rfl) rfl ?_)
  rw [if_neg (by simp)]
  refine wpAny_bind (listUpdate_at (xs := #[]) (n := 0) (Heap.get?_push_size _ rfl) rfl ?_ (Nat.zero_le _) (by show (#[] ++ vs.toArray).size ≤ sizeLine + 1; simp only [Array.size_append, List.size_toArray, List.length_nil]; omega))
  refine wpAny_pure ?_
  show wpAny (model P w) A (do
      let o ← load s.heap.objs.size
      match o.data with
      | .seq xs _ => pure xs.toList
      | _ => unsupported "internal:collect") Q E { s with heap := (s.heap.push (seqObj "list" #[] 0)).update s.heap.objs.size (Obj.mapSeq (· ++ vs.toArray)) }
  refine wpAny_bind (wpAny_load (get?_update_seq (Heap.get?_push_size _ rfl) _) ?_)
  show wpAny _ _ (pure ((#[] : Array Value) ++ vs.toArray).toList) Q E _
  rw [show ((#[] : Array Value) ++ vs.toArray).toList = vs by simp]
  exact wpAny_pure h
theorem sorted_tuple {l : Addr} {vs : List Value} {ss : List Str} {Q : Value → Shared → Prop} (hl : IsTup s.heap l vs.toArray) (hS : StrsAre vs ss) (h64 : vs.length < 64)
    (h : ∀ (out : Array Value) (ss' : List Str), StrsAre out.toList ss' → ss'.Perm ss → sortedS ss' = true → Q (.ref (s.heap.objs.size + 1)) { s with heap := sortedAll s.heap vs out }) :
    wpAny (model P w) A (call (.builtin "sorted") [.ref l]) Q E s := by
  apply Calls.call_function_entry kind_sorted plain_sorted entry_sorted (args_sorted1 _)
  unfold Builtin.«sorted»
  apply wpAny_bind (m := checkCount "sorted" 1 1 _)
  apply wpAny_pure
  refine wpAny_bind (collect_tuple hl ?_ (small64 h64))
  refine wpAny_bind (wpAny_newList ?_ (small64 h64))
  have hsz : ((s.heap.push (seqObj "list" #[] 0)).update s.heap.objs.size (Obj.mapSeq (· ++ vs.toArray))).objs.size = s.heap.objs.size + 1 := by
    rw [Heap.size_update, size_push']
  have hoL : (((s.heap.push (seqObj "list" #[] 0)).update s.heap.objs.size (Obj.mapSeq (· ++ vs.toArray))).push (seqObj "list" vs.toArray 0)).get? (s.heap.objs.size + 1) = some (seqObj "list" vs.toArray 0) := by
    rw [← hsz]; exact Heap.get?_push_size _ rfl
  show wpAny _ _ _ _ _ { s with heap := ((s.heap.push (seqObj "list" #[] 0)).update s.heap.objs.size (Obj.mapSeq (· ++ vs.toArray))).push (seqObj "list" vs.toArray 0) }
  rw [hsz]
  refine wpAny_bind (wpAny_holding (wpAny_call_entry slot_list_sort ⟨_, hoL, rfl⟩ entry_list_sort (list_sort_treeK strKind_oneLt hoL hS.keysOf (fun v₁ v₂ rest e => keyKind_strs (by rw [← e]; exact hS)) h64 fun st' a1 a2 => ⟨_, rfl, ?_⟩) (args_list_sort _)))
  obtain ⟨ss', h1, h2, h3⟩ := sorted_out_str hS a1 a2
  exact wpAny_pure ⟨_, rfl, h _ ss' h1 h2 h3⟩
end
/-- sorted(a tuple of texts) -/
def rSortedU (K : PySem.W.Frag) : List V → Hp → VK → Prop := fun vs H Q => ∃ (a : Addr) (xs : List Str), vs = [V.ref a] ∧ SqT K H a (xs.map V.str) ∧ xs.length < 64 ∧
  ∀ (ys : List Str) (p : Addr), ys.Perm xs → sortedS ys = true → H p = none → Q (.ref p) (upd H p (.lst (ys.map V.str)))
section
variable {X : Cx}
theorem cr_sortedU : CallR X (.builtin "sorted") (rSortedU X.K) := by
  intro pins s σ H vs us Q I r h
  obtain ⟨a, xs, rfl, hs, h64, q⟩ := h
  obtain ⟨its, rv, hl, _⟩ := I.tuple hs
  rw [Vals.ref1 r]
  have hlen0 := rv.length
  rw [List.length_map] at hlen0
  refine sorted_tuple hl rv.strs (by rw [← hlen0]; exact h64) fun out ys h1 h2 h3 => ?_
  obtain ⟨ep, he'⟩ := PyProof.Rows.sortedAll_at s.heap its out
  have hlen : (ys.map V.str).length ≤ sizeLine := by rw [List.length_map, h2.length_eq]; exact small64 h64
  exact ⟨.ref _, upd H (s.heap.objs.size + 1) (.lst (ys.map V.str)), I.laid (t' := s.toks) (fun _ _ => PyProof.Rows.sortedAll_old) (Nat.le_succ _) ⟨hlen, out.toList, ep, vals_of_strs h1, he'⟩, rfl, q ys _ h2 h3 (I.hok.fresh (Nat.le_succ _))⟩
end
end Moot
/-! Dicts whose keys bear tokens. -/
namespace Moot
open PySem PySem.Spec PyProof.Rows L2 PySem.W
/-- each key of the dict's object bears a token -/
def GdD (o : Obj) : Prop := ∃ es ep, o.data = .dict es ep ∧ ∀ e ∈ es.toList, GdV e.key
/-- a dict known so -/
def GDk (H : Hp) (a : Addr) (kvs : List (L2.Key × V)) : Prop := ∃ o, GdD o ∧ H a = some (.frz o (.dK kvs))
theorem GDk.rd {H : Hp} {a : Addr} {kvs : List (L2.Key × V)} (h : GDk H a kvs) : Rd H a (.dK kvs) := let ⟨o, _, e⟩ := h; .inr ⟨o, e⟩
theorem gd_at {h : Heap} {d : Addr} {o : Obj} {i : Nat} {key : Value} (g : GdD o) (e : h.get? d = some o) (k : h.KeyAt d i key) : GdV key := by
  obtain ⟨es, ep, ed, all⟩ := g
  obtain ⟨o', es', ep', ho, hd, hi, hk⟩ := k
  have eo : o' = o := Option.some.inj (ho.symm.trans e)
  rw [eo, ed] at hd
  injection hd with e1 e2
  subst e1
  rw [← hk]
  exact all _ (by simp)
section
variable {P : Program} {w : World} {κ : Type} [DecidableEq κ] {knd : PySem.KeyKind P w κ} {A : Around}
theorem walk_keysG (hh : A.handled = none) (I d : Addr) (hne : d ≠ I) (kvs : List (κ × Value)) (ep : Nat) {o : Obj} (g : GdD o) :
    Walks P w A I [I, d] [I] kvs.length (fun i v => (∃ k x, kvs[i]? = some (k, x) ∧ knd.is k v = true) ∧ GdV v) (fun i h => h.IsKeyIter I d i kvs.length ep ∧ h.DictAt knd d kvs ep ∧ h.get? d = some o) where
  sub := fun b m => List.mem_cons.mpr (.inl (List.mem_singleton.mp m))
  frame := fun _ _ _ st hk => ⟨st.1.at fun o e => hk I List.mem_cons_self o e, st.2.1.at' fun o e => hk d (List.mem_cons_of_mem _ List.mem_cons_self) o e, hk d (List.mem_cons_of_mem _ List.mem_cons_self) _ st.2.2⟩
  item := fun i s Q E hi st hQ => by
    have ⟨p, hx⟩ : ∃ p, kvs[i]? = some p := ⟨kvs[i], List.getElem?_eq_getElem hi⟩
    obtain ⟨k, x⟩ := p
    obtain ⟨keys, hk⟩ := st.2.1.keys
    obtain ⟨ka, kis⟩ := hk i k x hx
    exact wpAny_pyNext_dict_item_key st.1 st.2.1 ka hx fun h' it' sb => hQ (keys i) h' s.toks ⟨⟨k, x, hx, kis⟩, gd_at g st.2.2 ka⟩ ⟨it', st.2.1.extBut sb.extBut hne, sb.extBut d o hne st.2.2⟩ fun b o nb e => sb.extBut b o (fun z => nb (by rw [z]; exact List.mem_singleton.mpr rfl)) e
  done := fun s Q E st hQ => wpAny_pyNext_dict_end hh st.1 st.2.1 (List.getElem?_eq_none (Nat.le_refl _)) fun h' ext => hQ h' s.toks fun b o nb e => ext b o (fun z => nb (by rw [z]; exact List.mem_singleton.mpr rfl)) e
  self := fun _ _ _ _ st hQ => wpAny_pyIter_keyiter st.1 hQ
theorem src_dictG {d : Addr} {kvs : List (κ × Value)} {ep : Nat} {o : Obj} (lo : (d == sysModules) = false) (g : GdD o) : KdlSrc P w "dict" d d kvs.length (fun i v => (∃ k x, kvs[i]? = some (k, x) ∧ knd.is k v = true) ∧ GdV v) (fun h => h.DictAt knd d kvs ep ∧ h.get? d = some o) where
  type := fun _ m => m.1.dictOf.typeIs
  there := fun _ m => ⟨m.1.lt_size, m.1.lt_size⟩
  keep := fun _ _ m hk => ⟨m.1.at' fun o e => hk d (.inl rfl) o e, hk d (.inl rfl) _ m.2⟩
  notList := by decide
  notTuple := by decide
  hint := fun _ _ _ _ m q => kdl_hint_dict m.1.dictOf.typeIs q
  iter := fun _ _ hh m => ⟨_, _, (fun _ _ q => wpAny_pyIter_dict lo m.1 q), walk_keysG hh _ d (Nat.ne_of_lt m.1.lt_size) kvs ep g, ⟨_, Heap.get?_push_size _ rfl, rfl, rfl⟩, m.1.push _, Heap.get?_push_of_some _ m.2⟩
end
section
variable {X : Cx}
/-- list(d) of such a dict is a known list -/
theorem call_listDG (calm : X.calm = true) : CallR X (.type "list") (fun xs H Q => ∃ (a : Addr) (kvs : List (L2.Key × V)), xs = [.ref a] ∧ GDk H a kvs ∧ ∀ p o, H p = none → GdL o (kvs.map fun kv => kV kv.1) → Q (.ref p) (upd H p (.frz o (.lst (kvs.map fun kv => kV kv.1))))) := by
  intro pins s σ H xs us Q I r q
  obtain ⟨a, kvs, rfl, ⟨od, gd, hd⟩, q⟩ := q
  obtain ⟨u, rfl, rx⟩ := vals1 r
  cases rx
  obtain ⟨eo, hok⟩ := I.hok a _ hd
  obtain ⟨z, lo, vs, rel, dd⟩ := dk_rd I.hok (.inr ⟨od, hd⟩)
  obtain ⟨ep, hat⟩ := dd.dictAt
  have ek : (kvs.map fun kv => kV kv.1) = vs.map fun p => kV p.1 := by
    have e := congrArg (List.map kV) rel.keys
    rw [List.map_map, List.map_map] at e
    exact e
  refine kdl_call (src_dictG (knd := mixKind X.prog X.w) (kvs := vs) (ep := ep) lo gd) (I.ok.hd calm) ⟨hat, eo⟩ (by rw [← rel.length]; exact z) fun h' tk acc c' hk hD hacc => ?_
  have hv : Vals (vs.map fun p => kV p.1) acc.toList := keys_at (by rw [Array.length_toList]; exact hacc.1) fun j v e => (hacc.2 j v (by rw [← Array.getElem?_toList]; exact e)).1
  have gv : GdS acc.toList := fun v m => by
    obtain ⟨j, hj⟩ := List.getElem?_of_mem m
    exact (hacc.2 j v (by rw [← Array.getElem?_toList]; exact hj)).2
  have hv' : Vals (kvs.map fun kv => kV kv.1) acc.toList := by rw [ek]; exact hv
  have len : (kvs.map fun kv => kV kv.1).length ≤ sizeLine := by rw [List.length_map]; exact z
  have eD : h'.get? s.heap.objs.size = some { cls := .type "list", data := .seq acc.toList.toArray c' } := by rw [Array.toArray_toList]; exact hD
  exact ⟨.ref s.heap.objs.size, _, I.laid (t' := tk) hk (Nat.le_refl _) (show ObjOk X.prog X.w _ _ _ (.frz { cls := .type "list", data := .seq acc.toList.toArray c' } (.lst (kvs.map fun kv => kV kv.1))) from ⟨eD, len, acc.toList, c', hv', eD⟩), rfl, q _ _ (I.hok.fresh (Nat.le_refl _)) ⟨acc.toList, c', rfl, hv', gv⟩⟩
end
end Moot
namespace Moot
open PySem PySem.Spec PyProof.Rows L2 PySem.W
section
variable {P : Program} {w : World} {A : Around} {E : Value → Shared → Prop} {s : Shared}
theorem sorted_listG {l : Addr} {vs : List Value} {ss : List Str} {Q : Value → Shared → Prop} (hl : s.heap.IsList l vs.toArray) (hS : StrsAre vs ss) (few : vs.length < 64)
    (q : ∀ (out : Array Value) (zs : List Str), StrsAre out.toList zs → zs.Perm ss → sortedS zs = true → (∀ v ∈ out.toList, v ∈ vs) → Q (.ref (s.heap.objs.size + 1)) { s with heap := sortedAll s.heap vs out }) : wpAny (model P w) A (call (.builtin "sorted") [.ref l]) Q E s := by
  refine sortedK strKind_oneLt hl hS.keysOf (fun v₁ v₂ rest e => keyKind_strs (by rw [← e]; exact hS)) few fun st a1 a2 => ?_
  obtain ⟨zs, h1, h2, h3⟩ := sorted_out_str hS a1 a2
  refine q _ zs h1 h2 h3 fun v m => ?_
  rw [Array.toList_map] at m
  obtain ⟨p, mp, rfl⟩ := List.mem_map.mp m
  have pl : (arrOf st).toList.Perm (vs.zip vs) := by rw [← pairsOf_toList]; exact Array.perm_iff_toList_perm.mp a1
  obtain ⟨e1, e2⟩ := mem_zip_self (pl.mem_iff.mp mp)
  rw [← e1]
  exact e2
end
section
variable {X : Cx}
/-- sorted(xs) of a known list of texts is a known list -/
theorem cr_sortedG : CallR X (.builtin "sorted") (fun vs H Q => ∃ (a : Addr) (xs : List Str), vs = [V.ref a] ∧ GLs H a (xs.map V.str) ∧ xs.length < 64 ∧
    ∀ (ys : List Str) (p : Addr) (o : Obj), ys.Perm xs → sortedS ys = true → H p = none → GdL o (ys.map V.str) → Q (.ref p) (upd H p (.frz o (.lst (ys.map V.str))))) := by
  intro pins s σ H vs us Q I r h
  obtain ⟨a, xs, rfl, ⟨o, ⟨its, n, rfl, rv, g⟩, hH⟩, few, q⟩ := h
  obtain ⟨ea, hz, _⟩ := I.hok a _ hH
  rw [Vals.ref1 r]
  have len := rv.length
  rw [List.length_map] at len
  refine sorted_listG ⟨_, ea, rfl, n, rfl⟩ rv.strs (by rw [← len]; exact few) fun out ys h1 h2 h3 sub => ?_
  obtain ⟨ep, he⟩ := PyProof.Rows.sortedAll_at s.heap its out
  have lz : (ys.map V.str).length ≤ sizeLine := by rw [List.length_map, h2.length_eq]; exact small64 few
  have gv : GdS out.toList := fun v m => g v (sub v m)
  have vv : Vals (ys.map V.str) out.toList := vals_of_strs h1
  have he' : (sortedAll s.heap its out).get? (s.heap.objs.size + 1) = some { cls := .type "list", data := .seq out.toList.toArray ep } := by rw [Array.toArray_toList]; exact he
  exact ⟨.ref _, _, I.laid (t' := s.toks) (fun _ _ => PyProof.Rows.sortedAll_old) (Nat.le_succ _) (show ObjOk X.prog X.w _ _ _ (.frz { cls := .type "list", data := .seq out.toList.toArray ep } (.lst (ys.map V.str))) from ⟨he', lz, out.toList, ep, vv, he'⟩), rfl, q ys _ _ h2 h3 (I.hok.fresh (Nat.le_succ _)) ⟨out.toList, ep, rfl, vv, gv⟩⟩
/-- xs[i] of a known list, i not negative -/
theorem pek_ixG {nn : Nat} {a b : Expr} {ta tb : TE} {pos : Pos} (ha : PE X a ta) (hb : PE X b tb) (hs : PlainIx b) :
    PEK nn X (.Subscript a b pos) (fun σ H Q => ta σ H fun x H1 => tb σ H1 fun y H2 => ∃ l xs i v, x = .ref l ∧ y = .int i ∧ GLs H2 l xs ∧ 0 ≤ i ∧ atI xs i = some v ∧ Q v H2) := by
  refine ⟨fun pins s σ H Q _ I h => Subscript_ (thn (ha.run pins s σ H _ I h) fun v s1 ⟨x, H1, I1, r1, q1⟩ => thn (hb.run pins s1 σ H1 _ I1 q1) fun u s2 ⟨y, H2, I2, r2, q2⟩ => ?_)⟩
  obtain ⟨l, xs, i, z, rfl, rfl, ⟨o, ⟨its, n, rfl, rv, g⟩, hH⟩, i0, at', q⟩ := q2
  cases r1
  obtain ⟨t, rfl⟩ := r2
  obtain ⟨el, hz, _⟩ := I2.hok l _ hH
  obtain ⟨j, h1, h2, h3, h4, h5⟩ := atI_get at'
  obtain ⟨u, eu, ru⟩ := rv.get h2
  have len := rv.length
  have line := line63
  have ej : i.toNat = j := by
    rw [seqIndex_of i0 h5] at h1
    exact Option.some.inj h1
  exact item_listR ⟨_, el, rfl, n, rfl⟩ i0 (by omega) (by rw [ej]; simpa using eu) ⟨z, H2, I2, ru, g u (List.mem_of_getElem? eu), q⟩ (hs _ _)
/-- (x, y), x a text with a token, y no text -/
theorem pe_pairG {e1 e2 : Expr} {t1 t2 : TE} {x1} {pos : Pos} (h1 : PEK 0 X e1 t1) (h2 : PE X e2 t2) (hs : starEach [e1, e2] X.env = (false, eval e1 X.env) :: starEach [e2] X.env := by rfl) (hs2 : starEach [e2] X.env = (false, eval e2 X.env) :: starEach [] X.env := by rfl) :
    PE X (.Tuple [e1, e2] x1 pos) (fun σ H Q => t1 σ H fun x H1 => t2 σ H1 fun y H2 => ∃ a, y = .ref a ∧ ∀ p o, H2 p = none → GdT o [x, y] → Q (.ref p) (upd H2 p (.frz o (.tup [x, y])))) := by
  refine ⟨fun pins s σ H Q I h => ?_⟩
  refine wpAny_Tuple_spliced ?_
  rw [hs]
  show wpAny _ _ (spliced ((false, eval e1 X.env) :: backTo pos (starEach [e2] X.env))) _ _ s
  refine Calls.spliced_cons (thn (h1.run pins s σ H _ (Nat.zero_le _) I h) fun u s1 ⟨x, H1, I1, r1, g1, q1⟩ => ?_)
  have A2 := pa_cons h2 (pa_nil (X := X)) hs2
  refine thn (A2.run pos pins s1 σ H1 (fun xs H2 => match xs with
    | [y] => ∃ a, y = .ref a ∧ ∀ p o, H2 p = none → GdT o [x, y] → Q (.ref p) (upd H2 p (.frz o (.tup [x, y])))
    | _ => False) I1 q1) fun us s2 ⟨xs, H2, I2, r2, q2⟩ => ?_
  obtain ⟨y, a, ex, ey, q⟩ : ∃ y a, xs = [y] ∧ y = V.ref a ∧ ∀ p o, H2 p = none → GdT o [x, y] → Q (.ref p) (upd H2 p (.frz o (.tup [x, y]))) := by
    match xs, q2 with
    | [y], ⟨a, ey, q⟩ => exact ⟨y, a, rfl, ey, q⟩
  subst ex
  subst ey
  obtain ⟨v, rfl, rv⟩ := vals1 r2
  cases rv
  refine ⟨by show 2 ≤ sizeLine; decide, ?_⟩
  have fr : H2 s2.heap.objs.size = none := I2.hok.fresh (Nat.le_refl _)
  have vv : Vals [x, .ref a] [u, .ref a] := .cons r1 (.cons rfl .nil)
  have gg : GdS [u, .ref a] := fun v m => by
    rcases List.mem_cons.mp m with e | m
    · rw [e]; exact g1
    · rw [List.mem_singleton.mp m]; trivial
  exact ⟨.ref s2.heap.objs.size, _, I2.laid (t' := s2.toks) (fun b o e => Heap.get?_push_of_some _ e) (Nat.le_refl _) (show ObjOk X.prog X.w _ _ _ (.frz { cls := .type "tuple", data := .seq [u, Value.ref a].toArray } (.tup [x, .ref a])) from ⟨Heap.get?_push_size _ rfl, by show 2 ≤ sizeLine; decide, [u, .ref a], vv, IsTup.new _ _⟩), rfl, q _ _ fr ⟨[u, .ref a], 0, rfl, rfl, vv, gg⟩⟩
end
end Moot
/-! dict(xs), xs a list of pairs whose first items bear tokens. -/
namespace Moot
open PySem PySem.Spec PyProof.Rows L2 PySem.W
def GoodAt (h : Heap) (d : Addr) : Prop := ∃ o es ep, h.get? d = some o ∧ o.data = .dict es ep ∧ ∀ e ∈ es.toList, GdV e.key
theorem GoodAt.keep {h h' : Heap} {d : Addr} (g : GoodAt h d) (k : ∀ o, h.get? d = some o → h'.get? d = some o) : GoodAt h' d := let ⟨o, es, ep, e, r⟩ := g; ⟨o, es, ep, k o e, r⟩
section
variable {P : Program} {w : World} {κ : Type} [DecidableEq κ] {knd : PySem.KeyKind P w κ} {A : Around} {E : Value → Shared → Prop} {s : Shared}
theorem set_keys {d : Addr} {kvs : List (κ × Value)} {k : κ} {key v : Value} (hkey : knd.is k key = true) (hm : s.heap.DictOf knd d kvs) (g : GoodAt s.heap d) (gk : GdV key) (fits : kvs.length ≤ sizeLine) :
    wpAny (model P w) A (dictSet d key v) (fun _ s' => GoodAt s'.heap d) E s := by
  obtain ⟨o, es, ep, ho, hc, hd, hk, hp, hn⟩ := hm
  have all : ∀ e ∈ es.toList, GdV e.key := by
    obtain ⟨o', es', ep', ho', hd', all⟩ := g
    have eo : o' = o := Option.some.inj (ho'.symm.trans ho)
    rw [eo, hd] at hd'
    injection hd' with e1 e2
    rw [e1]
    exact all
  have size : es.size ≤ sizeLine := by
    have e1 := hp.length
    rw [Array.length_toList] at e1
    omega
  unfold dictSet
  refine wpAny_holding (wpAny_bind (knd.pyHash hkey ?_))
  unfold dictSetHashed
  refine wpAny_holding (wpAny_bind (wpAny_dictFind_of (s := { s with toks := s.toks + 1 }) hkey ho hd hk ?_))
  cases hi : es.findIdx? fun e => knd.is k e.key with
  | some i =>
    refine wpAny_bind (wpAny_rule (wpAny_bind (wpAny_updateDict (s := { s with toks := s.toks + 1 }) ho hd (wpAny_point ?_))))
    refine ⟨_, _, ep, Heap.get?_update_self _ ho (Obj.isFreed_of_dict (Obj.data_mapDict hd _)), Obj.data_mapDict hd _, fun e me => ?_⟩
    obtain ⟨j, hj⟩ := List.getElem?_of_mem me
    rw [Array.getElem?_toList, Array.getElem?_modify] at hj
    split at hj
    · obtain ⟨e0, h0, rfl⟩ := Option.map_eq_some_iff.mp hj
      exact all e0 (List.mem_of_getElem? (by rw [Array.getElem?_toList]; exact h0))
    · exact all e (List.mem_of_getElem? (by rw [Array.getElem?_toList]; exact hj))
  | none =>
    refine wpAny_bind (wpAny_rule (wpAny_updateDictKeys (hz := size) (s := { s with toks := s.toks + 1 }) ho hd ?_))
    refine ⟨_, _, ep + 1, Heap.get?_update_self _ ho (Obj.isFreed_of_dict (Obj.data_mapDictKeys hd _)), Obj.data_mapDictKeys hd _, fun e me => ?_⟩
    rw [Array.toList_push] at me
    rcases List.mem_append.mp me with me | me
    · exact all e me
    · rw [List.mem_singleton.mp me]
      exact gk
theorem set_good {d : Addr} {kvs : List (κ × Value)} {k : κ} {key v : Value} {Q : Unit → Shared → Prop} (hkey : knd.is k key = true) (hm : s.heap.DictOf knd d kvs) (g : GoodAt s.heap d) (gk : GdV key) (fits : kvs.length ≤ sizeLine)
    (q : ∀ h', h'.DictOf knd d (stored kvs k v) → Heap.SameBut d s.heap h' → GoodAt h' d → Q () { s with heap := h', toks := s.toks + 1 }) : wpAny (model P w) A (dictSet d key v) Q E s := by
  have f1 : wpAny (model P w) A (dictSet d key v) (fun _ s' => ∃ h', h'.DictOf knd d (stored kvs k v) ∧ Heap.SameBut d s.heap h' ∧ s' = { s with heap := h', toks := s.toks + 1 }) E s := wpAny_dictSet_pairs hkey hm (fun h' a b => ⟨h', a, b, rfl⟩) fits
  have f2 : wpAny (model P w) A (dictSet d key v) (fun _ s' => GoodAt s'.heap d) E s := set_keys hkey hm g gk fits
  refine wpAny_mono (wpAny_both f1 f2) ?_ fun e s' h => h.1
  rintro ⟨⟩ s' ⟨⟨h', a, b, rfl⟩, c⟩
  exact q h' a b c
end
section
variable {P : Program} {w : World} {A : Around} {E : Value → Shared → Prop}
theorem loop_good {R : Result → Shared → Prop} {S I l : Addr} {items : Array Value} {res : Value} (hh : A.handled = none) (lI : l ≠ I) (SI : S ≠ I) (Sl : S ≠ l) :
    ∀ (rest : List (L2.Key × Value)) (i : Nat) (acc : List (L2.Key × Value)) (ix : Int) (t : Tok) (s : Shared), items.size = i + rest.length → acc.length + rest.length ≤ sizeLine →
      (∀ (j : Nat) (q : L2.Key × Value), rest[j]? = some q → ∃ (b : Addr) (u : Value), items[i + j]? = some (.ref b) ∧ b ≠ S ∧ b ≠ I ∧ IsTup s.heap b #[u, q.2] ∧ keyIs q.1 u = true ∧ GdV u) →
      s.heap.IsListIter I l i → s.heap.IsList l items → s.heap.DictOf (mixKind P w) S acc → GoodAt s.heap S →
      (∀ h' tk, h'.DictOf (mixKind P w) S (merged acc rest) → GoodAt h' S → (∀ b o, b ≠ S → b ≠ I → s.heap.get? b = some o → h'.get? b = some o) → R (.ok (.ret res)) { s with heap := h', toks := tk }) →
      codeAny (model P w) A (.builtin "dict.update.loop" ⟨[.ref S, .ref I, .int ix t, res], []⟩) R s
  | [], i, acc, ix, t, s, sz, ln, ht, it, il, m, gd, hR => by
    refine codeAny_builtin ud_entry ?_
    rw [Around.under_plainId ud_plain _]
    refine wpAny_bind (m := pyNext (.ref I)) (wpAny_pyNext_list_end (A := A.in1) hh it il (Array.getElem?_eq_none (Nat.le_of_eq sz)) fun h' he => ?_)
    refine wpAny_bind (m := Builtin.Dict.addKeywords S []) (wpAny_pure (wpAny_pure ?_))
    exact hR h' s.toks (m.extBut he SI) (gd.keep fun o e => he S o SI e) fun b o _ hb e => he b o hb e
  | q :: rest, i, acc, ix, t, s, sz, ln, ht, it, il, m, gd, hR => by
    obtain ⟨b, u, hb, bS, bI, tup, hk, gu⟩ := ht 0 q rfl
    rw [List.length_cons] at sz ln
    refine codeAny_builtin ud_entry ?_
    rw [Around.under_plainId ud_plain _]
    refine wpAny_bind (m := pyNext (.ref I)) (wpAny_pyNext_list_item (x := .ref b) it il (by simpa using hb) fun h1 it1 sb1 => ?_)
    have tup1 : IsTup h1 b #[u, q.2] := tup.extBut sb1.extBut bI
    have m1 : h1.DictOf (mixKind P w) S acc := m.extBut sb1.extBut SI
    have gd1 : GoodAt h1 S := gd.keep fun o e => sb1.extBut S o SI e
    obtain ⟨o, ho, hc, n, hd⟩ := id tup1
    show wpAny _ A.in1 (holding [Value.ref b] _ >>= _) _ _ _
    refine wpAny_bind (wpAny_holding (wpAny_bind (wpAny_tryCatch ?_)))
    unfold Builtin.Dict.pairItems
    refine wpAny_bind (wpAny_typeOf (T := "tuple") ⟨o, ho, hc⟩ ?_)
    rw [if_pos (by first | decide | rfl | simp)]
    refine wpAny_bind (wpAny_seqItems ho hd (wpAny_pure ?_))
    show wpAny _ A.in1 (holding [u, q.2] (dictSet S u q.2)) _ _ _
    refine wpAny_holding (set_good (knd := mixKind P w) (k := q.1) hk m1 gd1 gu (by omega) fun h2 m2 sb2 gd2 => ?_)
    refine wpAny_pure ⟨plainId_quiet ud_plain _, loop_good (items := items) hh lI SI Sl rest (i + 1) (stored acc q.1 q.2) (ix + 1) 0 _ (show items.size = i + 1 + rest.length by omega) ?_ (fun j q' e => ?_) ?_ ?_ m2 gd2 fun h' tk d' g' k => ?_⟩
    · have := stored_length_le acc q.1 q.2
      omega
    · obtain ⟨b2, u2, e1, e2, e3, e4, e5, e6⟩ := ht (j + 1) q' (by simpa using e)
      exact ⟨b2, u2, by rw [show i + 1 + j = i + (j + 1) by omega]; exact e1, e2, e3, (e4.extBut sb1.extBut e3).extBut sb2.extBut e2, e5, e6⟩
    · exact it1.at fun o' e => sb2.extBut I o' (Ne.symm SI) e
    · exact (il.extBut sb1.extBut lI).extBut sb2.extBut (Ne.symm Sl)
    · exact hR h' tk d' g' fun c oc n1 n2 e => k c oc n1 n2 (sb2.extBut c oc n1 (sb1.extBut c oc n2 e))
theorem dict_good {s : Shared} {l : Addr} {ol : Obj} {items : Array Value} {n : Nat} {prs : List (L2.Key × Value)} {Q : Value → Shared → Prop} (hh : A.handled = none) (hl : s.heap.get? l = some ol) (hc : ol.cls = .type "list") (hd : ol.dict = none)
    (dat : ol.data = .seq items n) (sz : items.size = prs.length) (ln : prs.length ≤ sizeLine)
    (ht : ∀ (j : Nat) (q : L2.Key × Value), prs[j]? = some q → ∃ (b : Addr) (u : Value), items[j]? = some (.ref b) ∧ IsTup s.heap b #[u, q.2] ∧ keyIs q.1 u = true ∧ GdV u)
    (q : ∀ h' tk, h'.DictOf (mixKind P w) s.heap.objs.size (merged [] prs) → GoodAt h' s.heap.objs.size → (∀ b o, s.heap.get? b = some o → h'.get? b = some o) → Q (.ref s.heap.objs.size) { s with heap := h', toks := tk }) :
    wpAny (model P w) A (call (.type "dict") [.ref l]) Q E s := by
  refine callType_codes (Q₁ := fun obj s₁ => obj = .ref s.heap.objs.size ∧ s₁ = { s with heap := s.heap.push { cls := .type "dict", data := .dict #[] } }) PySem.F.kt_called_dict (PySem.F.kt_typeCall_dict_1 _) PySem.F.entry_dict_init (kt_code_dict_new _ ⟨rfl, rfl⟩) ?_
  rintro obj s₁ ⟨rfl, rfl⟩
  have new : (s.heap.push { cls := .type "dict", data := .dict #[] }).DictOf (mixKind P w) s.heap.objs.size [] := Heap.DictOf.new s.heap
  have gnew : GoodAt (s.heap.push { cls := .type "dict", data := .dict #[] }) s.heap.objs.size := ⟨_, #[], 0, Heap.get?_push_size _ rfl, rfl, fun e m => by cases m⟩
  have k0 : ∀ b o, s.heap.get? b = some o → (s.heap.push { cls := .type "dict", data := .dict #[] }).get? b = some o := fun b o e => Heap.get?_push_of_some _ e
  refine ⟨new.typeIs, PySem.F.args_dict_init_2 _ _, ?_⟩
  unfold Builtin.«dict.__init__»
  refine wpAny_bind ?_
  unfold Builtin.Dict.selfAndRest
  refine wpAny_bind (wpAny_notOrdered_dict new.typeIs ?_)
  show wpAny _ _ (pure (s.heap.objs.size, [Value.ref l])) _ _ _
  refine wpAny_pure ?_
  show wpAny _ _ (Builtin.Dict.updateFrom "dict.__init__" s.heap.objs.size (.ref l) [] .none) _ _ _
  unfold Builtin.Dict.updateFrom
  refine wpAny_bind (wpAny_typeOf (T := "list") ⟨ol, k0 _ _ hl, hc⟩ ?_)
  rw [if_pos (by first | decide | rfl | simp)]
  refine wpAny_bind (miss_list (k0 _ _ hl) hc dat hd hh fun h1 tk1 k1 => ?_)
  rw [if_pos (show (none : Option Value).isNone = true from rfl)]
  refine wpAny_bind (wpAny_rule ?_)
  have il1 : h1.IsList l items := ⟨ol, k1 _ _ (k0 _ _ hl), hc, n, dat⟩
  have lt1 : s.heap.objs.size < h1.objs.size := Heap.lt_size (k1 _ _ (Heap.get?_push_size s.heap (o := { cls := .type "dict", data := .dict #[] }) rfl))
  refine wpAny_bind (wpAny_pyIter_list il1 ?_)
  have k2 : ∀ b o, h1.get? b = some o → (h1.push { cls := .type "list_iterator", data := .fields #[.ref l, .int 0 0] }).get? b = some o := fun b o e => Heap.get?_push_of_some _ e
  have k02 : ∀ b o, s.heap.get? b = some o → (h1.push { cls := .type "list_iterator", data := .fields #[.ref l, .int 0 0] }).get? b = some o := fun b o e => k2 _ _ (k1 _ _ (k0 _ _ e))
  have ltl : l < s.heap.objs.size := Heap.lt_size hl
  have key := loop_good (P := P) (w := w) (A := A.in1) (R := wants (fun r s₂ => r = .none ∧ Q (.ref s.heap.objs.size) s₂) E) (S := s.heap.objs.size) (I := h1.objs.size) (l := l) (items := items) (res := Value.none) hh
    (Nat.ne_of_lt (Nat.lt_trans ltl lt1)) (Nat.ne_of_lt lt1) (Nat.ne_of_gt ltl) prs 0 [] 0 0
    { s with heap := h1.push { cls := .type "list_iterator", data := .fields #[.ref l, .int 0 0] }, toks := tk1 } (by rw [sz, Nat.zero_add]) (by rw [List.length_nil, Nat.zero_add]; exact ln)
    (fun j q e => by
      obtain ⟨b, u, e1, e2, e3, e4⟩ := ht j q e
      have hb : b < s.heap.objs.size := e2.lt
      exact ⟨b, u, by rw [Nat.zero_add]; exact e1, Nat.ne_of_lt hb, Nat.ne_of_lt (Nat.lt_trans hb lt1), e2.keeps k02, e3, e4⟩)
    ⟨_, Heap.get?_push_size _ rfl, rfl, rfl⟩ (il1.at fun o e => k2 _ _ e) ((new.at fun o e => k1 _ _ e).at fun o e => k2 _ _ e) (gnew.keep fun o e => k2 _ _ (k1 _ _ e))
    (fun h' tk d' g' k => ⟨rfl, q h' tk d' g' fun b o e => k b o (Nat.ne_of_lt (Heap.lt_size e)) (Nat.ne_of_lt (Nat.lt_trans (Heap.lt_size e) lt1)) (k02 b o e)⟩)
  first
    | exact wpAny_pure ⟨plainId_quiet ud_plain _, key⟩
    | exact wpAny_bind (wpAny_pure (wpAny_pure ⟨plainId_quiet ud_plain _, key⟩))
end
section
variable {X : Cx}
theorem pairs_good {pins : List (Addr × Obj)} {σ : L2.St} {H : Hp} {s : Shared} (I : Inv X pins σ H s) : ∀ {ps : List Addr} {kvs : List (L2.Key × V)}, Paired (fun p kv => GTp H p [kV kv.1, kv.2]) ps kvs →
    ∃ prs : List (L2.Key × Value), KV kvs prs ∧ prs.length = ps.length ∧ ∀ (j : Nat) (q : L2.Key × Value), prs[j]? = some q → ∃ (b : Addr) (u : Value), ps[j]? = some b ∧ IsTup s.heap b #[u, q.2] ∧ keyIs q.1 u = true ∧ GdV u
  | _, _, .nil => ⟨[], .nil, rfl, fun j q e => by cases e⟩
  | _, _, .cons (a := p) (b := kv) h t => by
    obtain ⟨prs, r, hl, hp⟩ := pairs_good I t
    obtain ⟨o, ⟨its, n, oc, od, rv, g⟩, hH⟩ := h
    obtain ⟨eo, _⟩ := I.hok p _ hH
    obtain ⟨u, y, ei, ru, ry⟩ := vals2 rv
    subst ei
    refine ⟨(kv.1, y) :: prs, .cons ⟨rfl, ry⟩ r, congrArg (· + 1) hl, fun j q e => ?_⟩
    cases j with
    | zero =>
      cases Option.some.inj e
      exact ⟨p, u, rfl, ⟨o, eo, oc, n, od⟩, kV_is (P := X.prog) (w := X.w) ru, g u List.mem_cons_self⟩
    | succ j => exact hp j q e
/-- dict(xs), xs such a list: a known dict -/
theorem call_dictG (calm : X.calm = true) : CallR X (.type "dict") (fun xs H Q => ∃ (a : Addr) (ps : List Addr) (kvs : List (L2.Key × V)), xs = [.ref a] ∧ SqL X.K H a (ps.map V.ref) ∧ Paired (fun p kv => GTp H p [kV kv.1, kv.2]) ps kvs ∧
    ∀ p o, H p = none → GdD o → Q (.ref p) (upd H p (.frz o (.dK (mergeK [] kvs))))) := by
  intro pins s σ H xs us Q I r q
  obtain ⟨a, ps, kvs, rfl, hq, hp, q⟩ := q
  obtain ⟨u, rfl, rx⟩ := vals1 r
  cases rx
  obtain ⟨its, rv, pl, hz⟩ := I.list hq
  have ei := refs_at rv
  subst ei
  rw [List.length_map] at hz
  obtain ⟨prs, rel, hl, hpr⟩ := pairs_good I hp
  obtain ⟨o, n, ho, hc, hd, dat⟩ := pl
  refine dict_good (prs := prs) (I.ok.hd calm) ho hc hd dat (by simp [hl]) (by rw [hl]; exact hz) (fun j q' e => ?_) fun h' tk d' g' k => ?_
  · obtain ⟨b, u, e1, e2, e3, e4⟩ := hpr j q' e
    exact ⟨b, u, by simp [e1], e2, e3, e4⟩
  · obtain ⟨o', es, ep, eo, ed, all⟩ := g'
    have lo : (s.heap.objs.size == sysModules) = false := beq_eq_false_iff_ne.mpr (Nat.ne_of_gt I.big)
    have len : (mergeK [] kvs).length ≤ sizeLine := by
      refine Nat.le_trans (length_mergeK kvs []) ?_
      rw [List.length_nil, Nat.zero_add, rel.length, hl]
      exact hz
    exact ⟨.ref s.heap.objs.size, _, I.laid (t' := tk) k (Nat.le_refl _) (show ObjOk X.prog X.w _ _ _ (.frz o' (.dK (mergeK [] kvs))) from ⟨eo, len, lo, merged [] prs, KV.merge rel .nil, d'⟩), rfl, q _ _ (I.hok.fresh (Nat.le_refl _)) ⟨es, ep, ed, all⟩⟩
end
end Moot
namespace Moot
open PySem PySem.Spec PyProof.Rows L2
/-- rows whose tuples are known, their names with tokens -/
def RowsG (H : Hp) (ts : List Addr) (rs : Rws) : Prop := ts.length = rs.length ∧ ∀ (i : Nat) (t : Addr), ts[i]? = some t → ∃ x r, rs[i]? = some (x, r) ∧ GTp H t [.str x, .ref r]
theorem GTp.tups {H H' : Hp} {l : Addr} {xs : List V} (h : GTp H l xs) (t : Tups H H') : GTp H' l xs := let ⟨o, g, e⟩ := h; ⟨o, g, t.frz _ _ _ e⟩
theorem RowsG.tups {H H' : Hp} {ts : List Addr} {rs : Rws} (h : RowsG H ts rs) (t : Tups H H') : RowsG H' ts rs := ⟨h.1, fun i a e => let ⟨x, r, h1, h2⟩ := h.2 i a e; ⟨x, r, h1, h2.tups t⟩⟩
theorem RowsG.snoc {H : Hp} {ts : List Addr} {rs : Rws} {p r : Addr} {x : Str} (h : RowsG H ts rs) (e : GTp H p [.str x, .ref r]) : RowsG H (ts ++ [p]) (rs ++ [(x, r)]) := by
  refine ⟨by rw [List.length_append, List.length_append, h.1]; rfl, fun j tj hj => ?_⟩
  by_cases lt : j < ts.length
  · rw [List.getElem?_append_left lt] at hj
    obtain ⟨x', r', h1, h2⟩ := h.2 j tj hj
    exact ⟨x', r', by rw [List.getElem?_append_left (by rw [← h.1]; exact lt)]; exact h1, h2⟩
  · rw [List.getElem?_append_right (by omega)] at hj
    have l2 := (List.getElem?_eq_some_iff.mp hj).1
    rw [List.length_singleton] at l2
    have j0 : j - ts.length = 0 := by omega
    rw [j0] at hj
    cases hj
    exact ⟨x, r, by rw [List.getElem?_append_right (by rw [← h.1]; omega), ← h.1, j0]; rfl, e⟩
theorem RowsG.put {H : Hp} {ts : List Addr} {rs : Rws} {p r : Addr} {x : Str} {j : Nat} (h : RowsG H ts rs) (hj : j < ts.length) (e : GTp H p [.str x, .ref r]) : RowsG H (ts.set j p) (rs.set j (x, r)) := by
  refine ⟨by rw [List.length_set, List.length_set, h.1], fun i ti hi => ?_⟩
  by_cases eq : j = i
  · subst eq
    rw [List.getElem?_set_self hj] at hi
    cases hi
    exact ⟨x, r, List.getElem?_set_self (by rw [← h.1]; exact hj), e⟩
  · rw [List.getElem?_set_ne eq] at hi
    obtain ⟨x', r', h1, h2⟩ := h.2 i ti hi
    exact ⟨x', r', by rw [List.getElem?_set_ne eq]; exact h1, h2⟩
theorem RowsG.at {H : Hp} {ts : List Addr} {rs : Rws} (h : RowsG H ts rs) : RowsAt H ts rs := ⟨h.1, fun i t e => let ⟨x, r, h1, ⟨o, _, h2⟩⟩ := h.2 i t e; ⟨x, r, h1, .inr ⟨o, h2⟩⟩⟩
theorem rows_pairedG {H : Hp} : ∀ (ts : List Addr) (rs : Rws), RowsG H ts rs → Paired (fun p kv => GTp H p [kV kv.1, kv.2]) ts (kvs rs)
  | [], rs, h => by
    have : rs = [] := List.length_eq_zero_iff.mp h.1.symm
    subst this
    exact .nil
  | t :: ts, [], h => by cases h.1
  | t :: ts, q :: rs, h => by
    obtain ⟨x, r, e, ht⟩ := h.2 0 t rfl
    have e' : q = (x, r) := Option.some.inj e
    subst e'
    exact .cons ht (rows_pairedG ts rs ⟨Nat.succ.inj h.1, fun i a ea => h.2 (i + 1) a ea⟩)
section
variable {P : Program} {w : World} {K : PySem.W.Frag} {mg : Str → Option Value} {base : Heap}
/-! _law_rows -/
def spRowsG : Sp := fun vs H Q _ => ∃ (b g m : Addr) (n most : Nat), vs = [.ref b, .int most] ∧ Box H b g m n ∧ n ≤ 700000 ∧ 1 ≤ most ∧ most ≤ 8 ∧
  ∀ (l : Addr) (ts : List Addr) (rs : Rws) (c : Rq) (xs : List Str) (H' : Hp), H l = none → H' l = some (.lst (ts.map V.ref)) → RowsG H' ts rs → Fit H' c xs rs → 1 ≤ xs.length → xs.length ≤ most → Box H' b g m (n + 3000) → Keep b g H H' → Q (.ref l) H'
theorem ok_rowsG {f f1 f2 f3 : Addr} {fd fd1 fd2 fd3 : FuncData} {k : Nat} (F : Fun K "_law_rows" "_law_rows" sRows f fd)
    (FT : Fun K "_law_take" "_law_take" sTake f1 fd1) (bT : Binds K fd1 ["_law_box_here", "_law_size"] []) (gT : mg "_law_take" = some (.ref f1)) (GT : FnOk P w K mg base CX0 k f1 fd1 ["_law_box_here", "_law_size"] spTake)
    (FN : Fun K "_law_names" "_law_names" sNames f2 fd2) (bN : Binds K fd2 ["_law_box_here", "_law_many"] []) (gN : mg "_law_names" = some (.ref f2)) (GN : FnOk P w K mg base CX0 k f2 fd2 ["_law_box_here", "_law_many"] spNames)
    (FR : Fun K "_law_requirement" "_law_requirement" sReq f3 fd3) (bR : Binds K fd3 ["_law_box_here", "_law_names_here"] []) (gR : mg "_law_requirement" = some (.ref f3)) (GR : FnOk P w K mg base CX0 k f3 fd3 ["_law_box_here", "_law_names_here"] spReq) (T : Blt mg) :
    FnOk P w K mg base CX0 (k + 1) f fd ["_law_box_here", "_law_most"] spRowsG := by
  refine F.ok scRows (fun vs H Q E h => ?_) (fun cdv A outer s H vs Q E hr h => ?_)
  · obtain ⟨b, g, m, n, most, rfl, _⟩ := h
    rfl
  · obtain ⟨b, g, m, n, most, rfl, B, hn, m1, m8, q⟩ := h
    refine ⟨_, pss_cons (ps_set (i := 2) scRows.nd rfl (Or.inl rfl) (pe_call GN hr (by rfl) gN FN.kp bN .nil pass0 (pa_cons (pv 0) (pa_cons (pe_op op_add pe_int (pe_call GT hr (by rfl) gT FT.kp bT .nil pass0 (pa_cons (pv 0) (pa_cons (pv 1) pa_nil)))) pa_nil))))
      (pss_cons (ps_set (i := 3) scRows.nd rfl (Or.inl rfl) (pe_callTy call_tuple_of (by rfl) T.tup (by decide +kernel) (pa_cons (pe_slice sl_list (pv 2) po_none (po_some (pe_callB (call_max2 rfl) (by rfl) T.max (by decide +kernel) (pa_cons pe_int (pa_cons (pe_op op_sub (pe_callB call_len_seq (by rfl) T.len PySem.boot_len (pa_cons (pv 2) pa_nil)) (pe_call GT hr (by rfl) gT FT.kp bT .nil pass0 (pa_cons (pv 0) (pa_cons pe_int pa_nil)))) pa_nil))))) pa_nil)))
      (pss_cons (ps_set (i := 4) scRows.nd rfl (Or.inl rfl) (pe_call GT hr (by rfl) gT FT.kp bT .nil pass0 (pa_cons (pv 0) (pa_cons pe_int pa_nil))))
      (pss_cons (ps_set (i := 5) scRows.nd rfl (Or.inl rfl) (pe_lst pa_nil))
      (pss_cons (ps_for PassesOwn.never rfl (pi_range1 rfl T.rng (pa_cons (pe_callB call_len_seq (by rfl) T.len PySem.boot_len (pa_cons (pv 2) pa_nil)) pa_nil)) (pg_name (i := 6) scRows.nd rfl (Or.inl rfl))
        (pss_cons (ps_set (i := 7) scRows.nd rfl (Or.inl rfl) (pe_callTy call_tuple_of (by rfl) T.tup (by decide +kernel) (pa_cons (pe_slice sl_list (pe_op op_cat (pe_slice sl_list (pv 2) (po_some (pv 6)) po_none) (pe_slice sl_list (pv 2) po_none (po_some (pv 6)))) po_none (po_some pe_int)) pa_nil)))
        (pss_cons (ps_set (i := 8) scRows.nd rfl (Or.inl rfl) (pe_lst (pa_cons (pe_tup (pa_cons (pe_op op_add (pe_op op_fdiv (pe_op op_mul pe_int (pe_callB call_len_seq (by rfl) T.len PySem.boot_len (pa_cons (pv 3) pa_nil))) pe_int) pe_int) (pa_cons (pv 3) pa_nil)))
            (pa_cons (pe_tup (pa_cons (pe_op op_add (pe_op op_fdiv (pe_callB call_len_seq (by rfl) T.len PySem.boot_len (pa_cons (pv 3) pa_nil)) pe_int) pe_int) (pa_cons (pv 3) pa_nil)))
            (pa_cons (pe_tup (pa_cons (pe_callB (call_min2 rfl) (by rfl) T.min (by decide +kernel) (pa_cons pe_int (pa_cons (pe_callB call_len_seq (by rfl) T.len PySem.boot_len (pa_cons (pv 7) pa_nil)) pa_nil))) (pa_cons (pv 7) pa_nil))) pa_nil)))))
        (pss_one (ps_expr (pe_bm PySem.F.plainAttrs_list PySem.F.slot_list_append PySem.F.type_list_append mt_append (pv 5) (pa_cons (pe_pairG (pek_ixG (pv 2) (pv 6) (fun _ _ => rfl))
            (pe_ix ix_list (pe_op op_cat (pv 8) (pe_lst (pa_cons (pe_call GR hr (by rfl) gR FR.kp bR .nil pass0 (pa_cons (pv 0) (pa_cons (pv 2) pa_nil))) pa_nil))) (pv 4) (fun _ _ => rfl))) pa_nil)))))))
      (pss_cons (ps_if (pt_cmpR op_eq (pe_call GT hr (by rfl) gT FT.kp bT .nil pass0 (pa_cons (pv 0) (pa_cons pe_int pa_nil))) pe_int (nomark _))
        (pss_cons (ps_set (i := 6) scRows.nd rfl (Or.inl rfl) (pe_call GT hr (by rfl) gT FT.kp bT .nil pass0 (pa_cons (pv 0) (pa_cons (pe_callB call_len_seq (by rfl) T.len PySem.boot_len (pa_cons (pv 2) pa_nil)) pa_nil))))
        (pss_one (ps_asg (pe_pairG (pek_ixG (pv 2) (pv 6) (fun _ _ => rfl)) (pe_call GR hr (by rfl) gR FR.kp bR .nil pass0 (pa_cons (pv 0) (pa_cons (pv 2) pa_nil)))) (pg_sub (pv 5) (pv 6) L2.set_list)))) pss_nil)
      (pss_one (ps_ret (pv 5)))))))), ?_⟩
    refine ⟨.ref b, rfl, .ref b, rfl, .int most, rfl, b, g, m, n, most, rfl, B, by omega, by omega, by omega, fun v0 H1 a0 a1 B1 K1 => ⟨_, _, rfl, rfl, ?_⟩⟩
    have ev : (1 : Int) + v0 = (((1 + v0).toNat : Nat) : Int) := by omega
    refine ⟨b, g, m, _, (1 + v0).toNat, by rw [← ev]; rfl, B1, by omega, by omega, fun np xs H2 nnp h2 xl nd nm B2 K2 => ?_⟩
    have x1 : 1 ≤ xs.length := by omega
    have x8 : xs.length ≤ 8 := by omega
    have xm : xs.length ≤ most := by omega
    obtain ⟨npb, npg⟩ := B2.apart h2
    obtain ⟨o2, g2, e2⟩ := h2
    -- core
    refine ⟨.ref np, rfl, .ref np, rfl, np, _, rfl, .inl (.inl (.inr ⟨o2, e2⟩)), .ref b, rfl, b, g, m, _, 2, rfl, B2, by omega, by decide, by decide, fun v1 H3 b0 b1 B3 K3 => ⟨_, _, rfl, rfl, _, _, rfl, _, rfl, np, _, rfl, .inl (.inr ⟨o2, K3 _ _ e2 npb npg⟩), fun l3 nl3 => ?_⟩⟩
    rw [List.length_map]
    have jn : (0 : Int) ≤ (if (xs.length : Int) - v1 > 1 then (xs.length : Int) - v1 else 1) := by split <;> omega
    have jp : 1 ≤ (if (xs.length : Int) - v1 > 1 then (xs.length : Int) - v1 else 1).toNat := by split <;> omega
    rw [cut_to xs jn]
    have cnd : (xs.take (if (xs.length : Int) - v1 > 1 then (xs.length : Int) - v1 else 1).toNat).Nodup := nd.sublist (List.take_sublist _ _)
    have csub : ∀ z ∈ xs.take (if (xs.length : Int) - v1 > 1 then (xs.length : Int) - v1 else 1).toNat, z ∈ xs := fun z mz => List.mem_of_mem_take mz
    have cl : 1 ≤ (xs.take (if (xs.length : Int) - v1 > 1 then (xs.length : Int) - v1 else 1).toNat).length := by rw [List.length_take]; omega
    have c8 : (xs.take (if (xs.length : Int) - v1 > 1 then (xs.length : Int) - v1 else 1).toNat).length ≤ 8 := by rw [List.length_take]; omega
    generalize xs.take (if (xs.length : Int) - v1 > 1 then (xs.length : Int) - v1 else 1).toNat = cs at cnd csub cl c8 ⊢
    refine ⟨l3, _, rfl, .inl ⟨SqL.of upd_same, fun t1 nt1 => ?_⟩⟩
    have s4 := (same_new (o := .lst (cs.map V.str)) nl3).trans (same_new (o := .tup (cs.map V.str)) nt1)
    have ht1 : upd (upd H3 l3 (.lst (cs.map V.str))) t1 (.tup (cs.map V.str)) t1 = some (.tup (cs.map V.str)) := upd_same
    have B4 := B3.same s4
    have K14 : Keep b g H2 (upd (upd H3 l3 (.lst (cs.map V.str))) t1 (.tup (cs.map V.str))) := K3.trans (Same.keep s4)
    obtain ⟨t1b, t1g, _⟩ := (B3.same (same_new nl3)).ne nt1
    generalize upd (upd H3 l3 (.lst (cs.map V.str))) t1 (.tup (cs.map V.str)) = H4 at ht1 B4 K14 ⊢
    -- way, rows
    refine ⟨.ref b, rfl, b, g, m, _, 4, rfl, B4, by omega, by decide, by decide, fun way H5 w0 w1 B5 K5 => ⟨Nat.zero_le _, fun l nl => ?_⟩⟩
    obtain ⟨lb, lg, lm⟩ := B5.ne nl
    have K05 : Keep b g H H5 := ((K1.trans K2).trans K14).trans K5
    have s6 := same_new (o := .lst []) nl
    have nl0 : H l = none := K05.free lb lg nl
    have np5 := K5 _ _ (K14 _ _ e2 npb npg) npb npg
    have t15 := K5 _ _ ht1 t1b t1g
    refine ⟨.ref np, rfl, np, _, rfl, .inl (.inl (.inr ⟨o2, s6 _ _ np5⟩)), xs.length, by rw [List.length_map], by omega, by omega, for_range (lo := 0) (n := xs.length) (fun i σ H7 => ∃ (y6 y7 y8 : Option V) (ts : List Addr) (rs : Rws), σ = [some (.ref b), some (.int most), some (.ref np), some (.ref t1), some (.int way), some (.ref l), y6, y7, y8] ∧
      Box H7 b g m (n + 200 + 101 * i) ∧ Keep b g H H7 ∧ H7 np = some (.frz o2 (.lst (xs.map V.str))) ∧ H7 t1 = some (.tup (cs.map V.str)) ∧ H7 l = some (.lst (ts.map V.ref)) ∧ RowsG H7 ts rs ∧ rs.map (·.1) = xs.take i ∧ ∀ q ∈ rs, Some1 H7 xs q.2) ?_ ?_ ?_⟩
    · exact ⟨none, none, none, [], [], rfl, (B5.same s6).more (by omega), K05.trans (Same.keep s6), s6 _ _ np5, s6 _ _ t15, upd_same, ⟨rfl, fun i t e => by cases e⟩, rfl, fun q mq => by cases mq⟩
    · rintro i σ H7 hi ⟨y6, y7, y8, ts, rs, rfl, B7, K7, np7, t17, hl7, ra, ek, each⟩
      have i8 : i < 8 := by omega
      obtain ⟨xi, hxi⟩ : ∃ x, xs[i]? = some x := ⟨xs[i], List.getElem?_eq_getElem hi⟩
      have i0 : (0 : Int) ≤ 0 + (i : Int) := by omega
      have it : (0 + (i : Int)).toNat = i := by omega
      -- ring
      refine ⟨.ref np, rfl, .int (0 + i), rfl, 0 + i, rfl, np, _, rfl, .inl (.inr ⟨o2, np7⟩), fun a1 na1 => ?_⟩
      rw [cut_from xs i0, it]
      have s8 := same_new (o := .lst ((xs.drop i).map V.str)) na1
      have ha1 : upd H7 a1 (.lst ((xs.drop i).map V.str)) a1 = some (.lst ((xs.drop i).map V.str)) := upd_same
      generalize upd H7 a1 (.lst ((xs.drop i).map V.str)) = H8 at s8 ha1 ⊢
      refine ⟨.ref np, rfl, .int (0 + i), rfl, 0 + i, rfl, np, _, rfl, .inl (.inr ⟨o2, s8 _ _ np7⟩), fun a2 na2 => ?_⟩
      rw [cut_to xs i0, it]
      have s9 := same_new (o := .lst ((xs.take i).map V.str)) na2
      have ha2 : upd H8 a2 (.lst ((xs.take i).map V.str)) a2 = some (.lst ((xs.take i).map V.str)) := upd_same
      generalize upd H8 a2 (.lst ((xs.take i).map V.str)) = H9 at s9 ha2 ⊢
      refine ⟨a1, a2, _, _, rfl, rfl, s9 _ _ ha1, ha2, ?_, fun a3 na3 => ?_⟩
      · rw [List.length_map, List.length_map, List.length_drop, List.length_take]
        exact Nat.le_of_lt (small1000 (by omega))
      rw [← List.map_append]
      have s10 := same_new (o := .lst ((xs.drop i ++ xs.take i).map V.str)) na3
      have ha3 : upd H9 a3 (.lst ((xs.drop i ++ xs.take i).map V.str)) a3 = some (.lst ((xs.drop i ++ xs.take i).map V.str)) := upd_same
      generalize upd H9 a3 (.lst ((xs.drop i ++ xs.take i).map V.str)) = H10 at s10 ha3 ⊢
      refine ⟨3, rfl, a3, _, rfl, SqL.of ha3, fun a4 na4 => ?_⟩
      rw [cut_to _ (show (0 : Int) ≤ 3 by decide)]
      have rperm : (xs.drop i ++ xs.take i).Perm xs := List.perm_append_comm.trans (by rw [List.take_append_drop])
      have rnd : ((xs.drop i ++ xs.take i).take (3 : Int).toNat).Nodup := (rperm.nodup_iff.mpr nd).sublist (List.take_sublist _ _)
      have rsub : ∀ z ∈ (xs.drop i ++ xs.take i).take (3 : Int).toNat, z ∈ xs := fun z mz => rperm.mem_iff.mp (List.mem_of_mem_take mz)
      have rl : 1 ≤ ((xs.drop i ++ xs.take i).take (3 : Int).toNat).length := by
        rw [List.length_take, rperm.length_eq]
        show 1 ≤ min 3 _
        omega
      generalize (xs.drop i ++ xs.take i).take (3 : Int).toNat = ring at rnd rsub rl ⊢
      refine ⟨a4, _, rfl, .inl ⟨SqL.of upd_same, fun t2 nt2 => ?_⟩⟩
      have s12 := (((s8.trans s9).trans s10).trans (same_new (o := .lst (ring.map V.str)) na4)).trans (same_new (o := .tup (ring.map V.str)) nt2)
      have ht2 : upd (upd H10 a4 (.lst (ring.map V.str))) t2 (.tup (ring.map V.str)) t2 = some (.tup (ring.map V.str)) := upd_same
      generalize upd (upd H10 a4 (.lst (ring.map V.str))) t2 (.tup (ring.map V.str)) = H12 at s12 ht2 ⊢
      clear s8 s9 s10 ha1 ha2 ha3 na1 na2 na3 na4 nt2
      have t112 := s12 _ _ t17
      -- some_here
      refine ⟨.ref t1, rfl, t1, _, rfl, .inr (SqT.of t112), _, _, rfl, rfl, .inl ⟨by decide, by decide⟩, _, _, rfl, rfl, ⟨by decide, by decide⟩, _, _, rfl, rfl, .ref t1, rfl, by show 2 ≤ sizeLine; decide, fun p1 np1 => ?_⟩
      have s13 := same_new (o := .tup [.int (2 * ((cs.map V.str).length : Int) / 3 + 1), .ref t1]) np1
      refine ⟨.ref t1, rfl, t1, _, rfl, .inr (SqT.of (s13 _ _ t112)), _, _, rfl, rfl, ⟨by decide, by decide⟩, _, _, rfl, rfl, .ref t1, rfl, by show 2 ≤ sizeLine; decide, fun p2 np2 => ?_⟩
      have s14 := same_new (o := .tup [.int (((cs.map V.str).length : Int) / 2 + 1), .ref t1]) np2
      refine ⟨.ref t2, rfl, t2, _, rfl, .inr (SqT.of ((s13.trans s14) _ _ ht2)), _, _, rfl, .ref t2, rfl, by show 2 ≤ sizeLine; decide, fun p3 np3 => ⟨by show 3 ≤ sizeLine; decide, fun a5 na5 => ?_⟩⟩
      have s15 := same_new (o := .tup [.int (if ((ring.map V.str).length : Int) < 2 then ((ring.map V.str).length : Int) else 2), .ref t2]) np3
      have s16 := same_new (o := .lst [.ref p1, .ref p2, .ref p3]) na5
      have hp1 := ((s14.trans s15).trans s16) _ _ (upd_same (H := H12) (a := p1) (o := .tup [.int (2 * ((cs.map V.str).length : Int) / 3 + 1), .ref t1]))
      have hp2 := (s15.trans s16) _ _ (upd_same (H := upd H12 p1 (.tup [.int (2 * ((cs.map V.str).length : Int) / 3 + 1), .ref t1])) (a := p2) (o := .tup [.int (((cs.map V.str).length : Int) / 2 + 1), .ref t1]))
      have hp3 := s16 _ _ (upd_same (H := upd (upd H12 p1 (.tup [.int (2 * ((cs.map V.str).length : Int) / 3 + 1), .ref t1])) p2 (.tup [.int (((cs.map V.str).length : Int) / 2 + 1), .ref t1])) (a := p3) (o := .tup [.int (if ((ring.map V.str).length : Int) < 2 then ((ring.map V.str).length : Int) else 2), .ref t2]))
      have s1216 := ((s13.trans s14).trans s15).trans s16
      have ha5 : upd (upd (upd (upd H12 p1 (.tup [.int (2 * ((cs.map V.str).length : Int) / 3 + 1), .ref t1])) p2 (.tup [.int (((cs.map V.str).length : Int) / 2 + 1), .ref t1])) p3 (.tup [.int (if ((ring.map V.str).length : Int) < 2 then ((ring.map V.str).length : Int) else 2), .ref t2])) a5 (.lst [.ref p1, .ref p2, .ref p3]) a5 = some (.lst [.ref p1, .ref p2, .ref p3]) := upd_same
      obtain ⟨a5b, a5g, _⟩ := (B7.same s12).ne (((s13.trans s14).trans s15).free na5)
      have s716 := s12.trans s1216
      have B16 := B7.same s716
      have np16 := s716 _ _ np7
      have l16 := s716 _ _ hl7
      have rl3 : (ring.map V.str).length = ring.length := List.length_map _
      have cl3 : (cs.map V.str).length = cs.length := List.length_map _
      have r1 : Some1 _ xs p1 := ⟨_, cs.map Sum.inl, ⟨t1, _, hp1, .inr ⟨s1216 _ _ t112, cs, rfl⟩, Parts.names cs⟩, names_valid x8 nm cnd csub (by rw [cl3]; omega) (by rw [cl3]; omega)⟩
      have r2 : Some1 _ xs p2 := ⟨_, cs.map Sum.inl, ⟨t1, _, hp2, .inr ⟨s1216 _ _ t112, cs, rfl⟩, Parts.names cs⟩, names_valid x8 nm cnd csub (by rw [cl3]; omega) (by rw [cl3]; omega)⟩
      have r3 : Some1 _ xs p3 := ⟨_, ring.map Sum.inl, ⟨t2, _, hp3, .inr ⟨s1216 _ _ ht2, ring, rfl⟩, Parts.names ring⟩, names_valid x8 nm rnd rsub (by rw [rl3]; split <;> omega) (by rw [rl3]; split <;> omega)⟩
      have atx : atI (xs.map V.str) (0 + (i : Int)) = some (.str xi) := by
        rw [show (0 : Int) + (i : Int) = ((i : Nat) : Int) from by omega]
        exact atI_nat (by rw [List.getElem?_map, hxi]; rfl)
      refine ⟨.ref l, rfl, .inl ⟨rfl, _, SqL.of l16⟩, .ref np, rfl, .int (0 + i), rfl, np, _, _, _, rfl, rfl, ⟨o2, g2, np16⟩, i0, atx, .ref a5, rfl, .ref b, rfl, .ref np, rfl, b, g, m, np, _, xs, rfl, B16, by omega, ⟨o2, g2, np16⟩, x1, by omega, nm, fun r d ps H17 nr R fine d1 d2 B17 K17 => ⟨by show 1 ≤ sizeLine; decide, fun a6 na6 => ?_⟩⟩
      have a517 := K17 _ _ ha5 a5b a5g
      have s18 := same_new (o := .lst [.ref r]) na6
      refine ⟨a5, a6, _, _, rfl, rfl, s18 _ _ a517, upd_same, by show 3 + 1 ≤ sizeLine; decide, fun a7 na7 => ?_⟩
      have s19 := same_new (o := .lst ([.ref p1, .ref p2, .ref p3] ++ [.ref r])) na7
      have tup17 := K17.tups B16
      have t19 := tup17.trans (Same.tups (s18.trans s19))
      obtain ⟨rr, atr, somer⟩ : ∃ rr, atI [V.ref p1, V.ref p2, V.ref p3, V.ref r] way = some (.ref rr) ∧ Some1 (upd (upd H17 a6 (.lst [.ref r])) a7 (.lst ([.ref p1, .ref p2, .ref p3] ++ [.ref r]))) xs rr := by
        have cw : way = 0 ∨ way = 1 ∨ way = 2 ∨ way = 3 := by omega
        rcases cw with rfl | rfl | rfl | rfl
        · exact ⟨p1, atI_nat (j := 0) rfl, r1.tups t19⟩
        · exact ⟨p2, atI_nat (j := 1) rfl, r2.tups t19⟩
        · exact ⟨p3, atI_nat (j := 2) rfl, r3.tups t19⟩
        · exact ⟨r, atI_nat (j := 3) rfl, d, ps, R.at.tups (Same.tups (s18.trans s19)), fine_valid x8 nd nm fine d1 d2⟩
      refine ⟨.int way, rfl, a7, _, way, .ref rr, rfl, rfl, SqL.of upd_same, atr, rr, rfl, fun p4 o4 np4 g4 => ?_⟩
      have s20 := same_new (o := .frz o4 (.tup [.str xi, .ref rr])) np4
      have s1720 := (s18.trans s19).trans s20
      have l20 := s1720 _ _ (K17 _ _ l16 lb lg)
      have hp4 : upd (upd (upd H17 a6 (.lst [.ref r])) a7 (.lst ([.ref p1, .ref p2, .ref p3] ++ [.ref r]))) p4 (.frz o4 (.tup [.str xi, .ref rr])) p4 = some (.frz o4 (.tup [.str xi, .ref rr])) := upd_same
      have K20 : Keep b g H7 (upd (upd (upd H17 a6 (.lst [.ref r])) a7 (.lst ([.ref p1, .ref p2, .ref p3] ++ [.ref r]))) p4 (.frz o4 (.tup [.str xi, .ref rr]))) := ((Same.keep s716).trans K17).trans (Same.keep s1720)
      have B20 := B17.same s1720
      have np20 := K20 _ _ np7 npb npg
      have t120 := K20 _ _ t17 t1b t1g
      have tup20 := K20.tups B7
      have some20 := somer.tups (Same.tups s20)
      have rlen : rs.length = i := by
        have := congrArg List.length ek
        rw [List.length_map, List.length_take] at this
        omega
      have tlen : ts.length = i := ra.1.trans rlen
      refine ⟨l, _, _, rfl, rfl, l20, ?_, some (.int (0 + i)), some (.ref t2), some (.ref a5), ts ++ [p4], rs ++ [(xi, rr)], rfl, (B20.store lb lg lm).more (by omega), ?_, ?_, ?_, ?_, ?_, ?_, ?_⟩
      · rw [List.length_map]
        exact small1000 (by omega)
      · intro x o e n1 n2
        rw [upd_ne (ne_of_none e nl0)]
        exact K20 _ _ (K7 _ _ e n1 n2) n1 n2
      · rw [upd_ne (fun z => by rw [z, l20] at np20; cases np20)]
        exact np20
      · rw [upd_ne (fun z => by rw [z, l20] at t120; cases t120)]
        exact t120
      · rw [upd_same, List.map_append]
        rfl
      · exact (((ra.tups tup20).snoc ⟨o4, g4, hp4⟩)).tups (tups_store (ys := ts.map V.ref ++ [.ref p4]) l20)
      · rw [List.map_append, ek, List.take_add_one, hxi]
        rfl
      · intro q mq
        have tl : Tups (upd (upd (upd H17 a6 (.lst [.ref r])) a7 (.lst ([.ref p1, .ref p2, .ref p3] ++ [.ref r]))) p4 (.frz o4 (.tup [.str xi, .ref rr]))) _ := tups_store (ys := ts.map V.ref ++ [.ref p4]) l20
        rcases List.mem_append.mp mq with mq | mq
        · exact ((each q mq).tups tup20).tups tl
        · rw [List.mem_singleton.mp mq]
          exact some20.tups tl
    · rintro σ H7 ⟨y6, y7, y8, ts, rs, rfl, B7, K7, np7, t17, hl7, ra, ek, each⟩
      rw [List.take_length] at ek
      have rlen : rs.length = xs.length := by
        have := congrArg List.length ek
        rw [List.length_map] at this
        exact this
      have fin : ∀ (H' : Hp) (ts : List Addr) (rs : Rws), Keep b g H H' → Box H' b g m (n + 3000) → H' l = some (.lst (ts.map V.ref)) → RowsG H' ts rs → rs.map (·.1) = xs → (∀ q ∈ rs, Some1 H' xs q.2) → Q (.ref l) H' := fun H' ts rs KK BB hl ra ek each => by
        obtain ⟨c, fit⟩ := fit_of nd x8 nm ek each
        exact q l ts rs c xs H' nl0 hl ra fit x1 xm BB KK
      refine ⟨.ref b, rfl, b, g, m, _, 3, rfl, B7, by omega, by decide, by decide, fun v H8 c0 c1 B8 K8 => ⟨rfl, _, rfl, ite2 (fun _ => ?_) fun _ => ?_⟩⟩
      · have np8 := K8 _ _ np7 npb npg
        refine ⟨.ref b, rfl, .ref np, rfl, np, _, rfl, .inl (.inl (.inr ⟨o2, np8⟩)), b, g, m, _, xs.length, by rw [List.length_map]; rfl, B8, by omega, by omega, by omega, fun at' H9 f0 f1 B9 K9 => ?_⟩
        obtain ⟨j, rfl⟩ := Int.eq_ofNat_of_zero_le f0
        have jl : j < xs.length := by omega
        obtain ⟨xj, hxj⟩ : ∃ x, xs[j]? = some x := ⟨xs[j], List.getElem?_eq_getElem jl⟩
        have np9 := K9 _ _ np8 npb npg
        refine ⟨.ref np, rfl, .int j, rfl, np, _, _, _, rfl, rfl, ⟨o2, g2, np9⟩, by omega, atI_nat (by rw [List.getElem?_map, hxj]; rfl), .ref b, rfl, .ref np, rfl, b, g, m, np, _, xs, rfl, B9, by omega, ⟨o2, g2, np9⟩, x1, by omega, nm, fun r d ps H10 nr R fine d1 d2 B10 K10 => ⟨r, rfl, fun p4 o4 np4 g4 => ?_⟩⟩
        have s11 := same_new (o := .frz o4 (.tup [.str xj, .ref r])) np4
        have K711 := ((K8.trans K9).trans K10).trans (Same.keep s11)
        have l11 := K711 _ _ hl7 lb lg
        have tup11 := K711.tups B7
        have B11 := B10.same s11
        refine ⟨.ref l, rfl, .int j, rfl, l, _, j, j, rfl, rfl, l11, ?_, .ref l, rfl, ?_⟩
        · rw [List.length_map, ra.1, rlen]
          unfold ixN
          rw [if_pos (by omega), if_pos (by omega)]
          simp
        have ts2 : ((ts.map V.ref).set j (.ref p4)) = (ts.set j p4).map V.ref := by rw [List.map_set]
        have tl := tups_store (ys := (ts.map V.ref).set j (.ref p4)) l11
        refine fin _ (ts.set j p4) (rs.set j (xj, r)) ?_ ((B11.store lb lg lm).more (by omega)) ?_ ?_ ?_ ?_
        · intro x o e n1 n2
          rw [upd_ne (ne_of_none e nl0)]
          exact K711 _ _ (K7 _ _ e n1 n2) n1 n2
        · rw [upd_same, ts2]
        · exact ((ra.tups tup11).put (by rw [ra.1]; omega) ⟨o4, g4, upd_same⟩).tups tl
        · rw [List.map_set, ek]
          refine List.ext_getElem? fun i => ?_
          by_cases e : j = i
          · subst e
            rw [List.getElem?_set_self jl, hxj]
          · rw [List.getElem?_set_ne e]
        · intro q mq
          rcases List.mem_or_eq_of_mem_set mq with mq | rfl
          · exact ((each q mq).tups tup11).tups tl
          · exact (Some1.tups ⟨d, ps, R.at, fine_valid x8 nd nm fine d1 d2⟩ (Same.tups s11)).tups tl
      · exact ⟨.ref l, rfl, fin H8 ts rs (K7.trans K8) (B8.more (by omega)) (K8 _ _ hl7 lb lg) (ra.tups (K8.tups B7)) ek fun q mq => (each q mq).tups (K8.tups B7)⟩
end
end Moot
namespace Moot
open PySem PySem.Spec PyProof.Rows L2
/-- x not in t, t a tuple of data -/
def rNotInU (K : PySem.W.Frag) : R2 := fun x y H Q => ∃ d ds, Dp K H x d ∧ Dp K H y (.tuple ds) ∧ SeqAt.shaped d = true ∧ SeqAt.shaped (.tuple ds) = true ∧ Q (.bl (!ds.any fun z => PyData.eqv z d)) H
theorem op_notInU {X : Cx} (hu : X.A.units + 65 < cLine) : OpR X (compareOp .NotIn) (rNotInU X.K) := by
  intro pins s σ H x y v u Q I rx ry h
  obtain ⟨d, ds, hd, he, sd, se, q⟩ := h
  obtain ⟨as, r1⟩ := Dp.reads I d x v hd rx
  obtain ⟨bs, r2⟩ := Dp.reads I (.tuple ds) y u he ry
  have room : X.A.units + 1 + min (PyData.depthAll ds) d.depth < cLine := by
    have h64 : d.depth ≤ 64 := by
      unfold SeqAt.shaped at sd
      rw [Bool.and_eq_true] at sd
      exact of_decide_eq_true sd.2
    have := Nat.min_le_right (PyData.depthAll ds) d.depth
    omega
  exact SeqAt.notIn_tuple_reads r2 r1 (SeqAt.canLay_of_shaped se) (SeqAt.canLay_of_shaped sd) room ⟨.bl _, H, I, rfl, q⟩
end Moot
namespace Moot
open PySem PySem.Spec PyProof.Rows L2
/-! data of any kind, away from the box -/
mutual
def Dv (b g : Addr) (H : Hp) : PyData → V → Prop
  | .none, v => v = .non
  | .bool x, v => v = .bl x
  | .int i, v => v = .int i
  | .str x, v => v = .str x
  | .list ds, v => ∃ a xs, v = .ref a ∧ a ≠ b ∧ a ≠ g ∧ H a = some (.lst xs) ∧ DvAll b g H ds xs
  | .tuple ds, v => ∃ a xs, v = .ref a ∧ a ≠ b ∧ a ≠ g ∧ Rd H a (.tup xs) ∧ DvAll b g H ds xs
  | .dict _, _ => False
def DvAll (b g : Addr) (H : Hp) : List PyData → List V → Prop
  | [], xs => xs = []
  | d :: ds, xs => ∃ v vs, xs = v :: vs ∧ Dv b g H d v ∧ DvAll b g H ds vs
end
mutual
theorem Dv.keep {b g : Addr} {H H' : Hp} (k : Keep b g H H') : ∀ (d : PyData) (v : V), Dv b g H d v → Dv b g H' d v
  | .none, _, h => h
  | .bool _, _, h => h
  | .int _, _, h => h
  | .str _, _, h => h
  | .list ds, _, h => let ⟨a, xs, e, n1, n2, h1, h2⟩ := h; ⟨a, xs, e, n1, n2, k _ _ h1 n1 n2, DvAll.keep k ds xs h2⟩
  | .tuple ds, _, h => let ⟨a, xs, e, n1, n2, h1, h2⟩ := h; ⟨a, xs, e, n1, n2, h1.imp (fun e => k _ _ e n1 n2) (fun ⟨o, e⟩ => ⟨o, k _ _ e n1 n2⟩), DvAll.keep k ds xs h2⟩
  | .dict _, _, h => h.elim
theorem DvAll.keep {b g : Addr} {H H' : Hp} (k : Keep b g H H') : ∀ (ds : List PyData) (xs : List V), DvAll b g H ds xs → DvAll b g H' ds xs
  | [], _, h => h
  | d :: ds, _, h => let ⟨v, vs, e, h1, h2⟩ := h; ⟨v, vs, e, Dv.keep k d v h1, DvAll.keep k ds vs h2⟩
end
theorem Dv.same {b g : Addr} {H H' : Hp} {d : PyData} {v : V} (h : Dv b g H d v) (s : Same H H') : Dv b g H' d v := Dv.keep (Same.keep s) d v h
theorem DvAll.same {b g : Addr} {H H' : Hp} {ds : List PyData} {xs : List V} (h : DvAll b g H ds xs) (s : Same H H') : DvAll b g H' ds xs := DvAll.keep (Same.keep s) ds xs h
mutual
theorem Dv.dp {b g : Addr} {K : PySem.W.Frag} {H : Hp} : ∀ (d : PyData) (v : V), Dv b g H d v → Dp K H v d
  | .none, _, h => by cases h; exact .non
  | .bool _, _, h => by cases h; exact .bl _
  | .int _, _, h => by cases h; exact .int _
  | .str _, _, h => by cases h; exact .str _
  | .list ds, _, h => by
    obtain ⟨a, xs, rfl, n1, n2, h1, h2⟩ := h
    exact .lst (SqL.of h1) (DvAll.dp ds xs h2)
  | .tuple ds, _, h => by
    obtain ⟨a, xs, rfl, n1, n2, h1, h2⟩ := h
    exact .tup (.inl h1) (DvAll.dp ds xs h2)
  | .dict _, _, h => h.elim
theorem DvAll.dp {b g : Addr} {K : PySem.W.Frag} {H : Hp} : ∀ (ds : List PyData) (xs : List V), DvAll b g H ds xs → DpAll K H xs ds
  | [], _, h => by cases h; exact .nil
  | d :: ds, _, h => by
    obtain ⟨v, vs, rfl, h1, h2⟩ := h
    exact .cons (Dv.dp d v h1) (DvAll.dp ds vs h2)
end
theorem DvAll.len {b g : Addr} {H : Hp} : ∀ {ds : List PyData} {xs : List V}, DvAll b g H ds xs → xs.length = ds.length
  | [], _, h => by cases h; rfl
  | d :: ds, _, h => by
    obtain ⟨v, vs, rfl, h1, h2⟩ := h
    rw [List.length_cons, List.length_cons, DvAll.len h2]
theorem DvAll.get {b g : Addr} {H : Hp} : ∀ {ds : List PyData} {xs : List V}, DvAll b g H ds xs → ∀ {i : Nat} {v : V}, xs[i]? = some v → ∃ d, ds[i]? = some d ∧ Dv b g H d v
  | [], _, h, i, v, e => by
    cases h
    cases e
  | d :: ds, _, h, i, v, e => by
    obtain ⟨w, vs, rfl, h1, h2⟩ := h
    cases i with
    | zero =>
      cases e
      exact ⟨d, rfl, h1⟩
    | succ i => exact DvAll.get h2 e
theorem DvAll.at {b g : Addr} {H : Hp} : ∀ {ds : List PyData} {xs : List V}, DvAll b g H ds xs → ∀ {i : Nat} {d : PyData}, ds[i]? = some d → ∃ v, xs[i]? = some v ∧ Dv b g H d v
  | [], _, h, i, d, e => by cases e
  | c :: ds, _, h, i, d, e => by
    obtain ⟨w, vs, rfl, h1, h2⟩ := h
    cases i with
    | zero =>
      cases e
      exact ⟨w, rfl, h1⟩
    | succ i => exact DvAll.at h2 e
theorem DvAll.snoc {b g : Addr} {H : Hp} {d : PyData} {v : V} (hd : Dv b g H d v) : ∀ {ds : List PyData} {xs : List V}, DvAll b g H ds xs → DvAll b g H (ds ++ [d]) (xs ++ [v])
  | [], _, h => by
    cases h
    exact ⟨v, [], rfl, hd, rfl⟩
  | _ :: ds, _, h => by
    obtain ⟨w, vs, rfl, h1, h2⟩ := h
    exact ⟨w, vs ++ [v], rfl, h1, DvAll.snoc hd h2⟩
theorem DvAll.app {b g : Addr} {H : Hp} {es : List PyData} {ys : List V} (he : DvAll b g H es ys) : ∀ {ds : List PyData} {xs : List V}, DvAll b g H ds xs → DvAll b g H (ds ++ es) (xs ++ ys)
  | [], _, h => by
    cases h
    exact he
  | _ :: ds, _, h => by
    obtain ⟨w, vs, rfl, h1, h2⟩ := h
    exact ⟨w, vs ++ ys, rfl, h1, DvAll.app he h2⟩
theorem DvAll.strs {b g : Addr} {H : Hp} : ∀ xs : List Str, DvAll b g H (xs.map PyData.str) (xs.map V.str)
  | [] => rfl
  | x :: xs => ⟨.str x, xs.map V.str, rfl, rfl, DvAll.strs xs⟩
/-- the type of data -/
def tyD : PyData → Value
  | .none => .type "NoneType"
  | .bool _ => .type "bool"
  | .int _ => .type "int"
  | .str _ => .type "str"
  | .list _ => .type "list"
  | .tuple _ => .type "tuple"
  | .dict _ => .type "dict"
theorem Dv.ty {b g : Addr} {K : PySem.W.Frag} {H : Hp} : ∀ {d : PyData} {v : V}, Dv b g H d v → TyX K H v (tyD d)
  | .none, _, h => by cases h; exact .base .non
  | .bool _, _, h => by cases h; exact .base (.bl _)
  | .int _, _, h => by cases h; exact .base (.int _)
  | .str _, _, h => by cases h; exact .base (.str _)
  | .list ds, _, h => by
    obtain ⟨a, xs, rfl, n1, n2, h1, h2⟩ := h
    exact .base (.lst h1)
  | .tuple ds, _, h => by
    obtain ⟨a, xs, rfl, n1, n2, h1, h2⟩ := h
    exact h1.elim (fun e => .base (.tup e)) fun ⟨o, e⟩ => .fTuple e
  | .dict _, _, h => h.elim
/-- the items of a list or tuple -/
def seqD : PyData → Option (List PyData)
  | .list ds => some ds
  | .tuple ds => some ds
  | _ => none
/-- whether it is this text -/
def strD (z : Str) : PyData → Bool
  | .str y => decide (y = z)
  | _ => false
/-- whether it is one of these texts -/
def memD (M : List Str) : PyData → Bool
  | .str y => decide (y ∈ M)
  | _ => false
theorem eqv_strR : ∀ (d : PyData) (z : Str), PyData.eqv d (.str z) = strD z d
  | .str y, z => by
    show (y == z) = decide (y = z)
    rw [Bool.eq_iff_iff, beq_iff_eq, decide_eq_true_eq]
  | .none, _ => rfl
  | .bool _, _ => rfl
  | .int _, _ => rfl
  | .list _, _ => rfl
  | .tuple _, _ => rfl
  | .dict _, _ => rfl
theorem eqv_strL : ∀ (d : PyData) (z : Str), PyData.eqv (.str z) d = strD z d
  | .str y, z => by
    show (z == y) = decide (y = z)
    rw [Bool.eq_iff_iff, beq_iff_eq, decide_eq_true_eq]
    exact eq_comm
  | .none, _ => rfl
  | .bool _, _ => rfl
  | .int _, _ => rfl
  | .list _, _ => rfl
  | .tuple _, _ => rfl
  | .dict _, _ => rfl
theorem any_mem (d : PyData) : ∀ M : List Str, ((M.map PyData.str).any fun z => PyData.eqv z d) = memD M d
  | [] => by cases d <;> simp [memD]
  | x :: M => by
    rw [List.map_cons, List.any_cons, any_mem d M, eqv_strL]
    cases d <;> simp [memD, strD]
theorem strD_is {z : Str} : ∀ {d : PyData}, strD z d = true → d = .str z
  | .str y, h => by rw [of_decide_eq_true (p := y = z) h]
  | .none, h => by cases h
  | .bool _, h => by cases h
  | .int _, h => by cases h
  | .list _, h => by cases h
  | .tuple _, h => by cases h
  | .dict _, h => by cases h
theorem memD_is {M : List Str} : ∀ {d : PyData}, memD M d = true → ∃ z, d = .str z ∧ z ∈ M
  | .str y, h => ⟨y, rfl, of_decide_eq_true (p := y ∈ M) h⟩
  | .none, h => by cases h
  | .bool _, h => by cases h
  | .int _, h => by cases h
  | .list _, h => by cases h
  | .tuple _, h => by cases h
  | .dict _, h => by cases h
/-- either of the two kinds of sequence -/
def SqA (K : PySem.W.Frag) (H : Hp) (a : Addr) (xs : List V) : Prop := SqL K H a xs ∨ SqT K H a xs
theorem Dv.seq {b g : Addr} {K : PySem.W.Frag} {H : Hp} : ∀ {d : PyData} {v : V} {ds : List PyData}, Dv b g H d v → seqD d = some ds → ∃ a xs, v = .ref a ∧ SqA K H a xs ∧ DvAll b g H ds xs
  | .list _, _, _, h, e => by
    cases e
    obtain ⟨a, xs, rfl, _, _, h1, h2⟩ := h
    exact ⟨a, xs, rfl, .inl (SqL.of h1), h2⟩
  | .tuple _, _, _, h, e => by
    cases e
    obtain ⟨a, xs, rfl, _, _, h1, h2⟩ := h
    exact ⟨a, xs, rfl, .inr (.inl h1), h2⟩
  | .none, _, _, _, e => by cases e
  | .bool _, _, _, _, e => by cases e
  | .int _, _, _, _, e => by cases e
  | .str _, _, _, _, e => by cases e
  | .dict _, _, _, _, e => by cases e
theorem kit_tl {K : PySem.W.Frag} {b g : Addr} {H : Hp} {d : PyData} {v : V} (h : Dv b g H d v) : PySem.W.kitAny K (tyD d) [.type "tuple", .type "list"] = some (seqD d).isSome := by
  have no : ∀ {T : String}, PySem.W.kitOne K (.type T) (.type "tuple") = some false → PySem.W.kitOne K (.type T) (.type "list") = some false → PySem.W.kitAny K (.type T) [.type "tuple", .type "list"] = some false := fun h1 h2 =>
    kitAny_cons (b := false) h1 (fun _ => kitAny_cons (b := false) h2 (fun _ => rfl) fun h => by cases h) fun h => by cases h
  cases d with
  | none => exact no (kit_ty (by decide +kernel)) (kit_ty (by decide +kernel))
  | bool _ => exact no (kit_ty (by decide +kernel)) (kit_ty (by decide +kernel))
  | int _ => exact no (kit_ty (by decide +kernel)) (kit_ty (by decide +kernel))
  | str _ => exact no (kit_ty (by decide +kernel)) (kit_ty (by decide +kernel))
  | list _ => exact kitAny_cons (b := false) (kit_ty (by decide +kernel)) (fun _ => kitAny_cons (b := true) (kit_ty (by decide +kernel)) (fun h => by cases h) fun _ => rfl) fun h => by cases h
  | tuple _ => exact kitAny_cons (b := true) (kit_ty (by decide +kernel)) (fun h => by cases h) fun _ => rfl
  | dict _ => exact h.elim
theorem sh_str {z : Str} (h : PyData.strOk z = true) : SeqAt.shaped (.str z) = true := by
  unfold SeqAt.shaped
  rw [show (PyData.str z).canLay0 = PyData.strOk z from rfl, h]
  rfl
theorem lay_mem : ∀ {ds : List PyData} {d : PyData}, PyData.canLayAll0 ds = true → d ∈ ds → d.canLay0 = true
  | c :: ds, d, h, m => by
    have h' : (c.canLay0 && PyData.canLayAll0 ds) = true := h
    rw [Bool.and_eq_true] at h'
    rcases List.mem_cons.mp m with e | m
    · rw [e]
      exact h'.1
    · exact lay_mem h'.2 m
theorem depth_mem : ∀ {ds : List PyData} {d : PyData}, d ∈ ds → d.depth ≤ PyData.depthAll ds
  | c :: ds, d, m => by
    show d.depth ≤ max c.depth (PyData.depthAll ds)
    rcases List.mem_cons.mp m with e | m
    · rw [e]
      exact Nat.le_max_left _ _
    · exact Nat.le_trans (depth_mem m) (Nat.le_max_right _ _)
theorem seq_depth : ∀ {d : PyData} {ds : List PyData}, seqD d = some ds → d.depth = PyData.depthAll ds + 1 ∧ d.canLay0 = PyData.canLayAll0 ds
  | .list _, _, e => by
    cases e
    exact ⟨rfl, rfl⟩
  | .tuple _, _, e => by
    cases e
    exact ⟨rfl, rfl⟩
  | .none, _, e => by cases e
  | .bool _, _, e => by cases e
  | .int _, _, e => by cases e
  | .str _, _, e => by cases e
  | .dict _, _, e => by cases e
theorem sh_mem {d c : PyData} {ds : List PyData} (e : seqD d = some ds) (h : SeqAt.shaped d = true) (m : c ∈ ds) : SeqAt.shaped c = true := by
  unfold SeqAt.shaped at h ⊢
  rw [Bool.and_eq_true, decide_eq_true_eq] at h ⊢
  obtain ⟨z1, z2⟩ := seq_depth e
  have := depth_mem m
  exact ⟨lay_mem (by rw [← z2]; exact h.1) m, by omega⟩
theorem sh_strs {M : List Str} (h : ∀ x ∈ M, PyData.strOk x = true) : SeqAt.shaped (.tuple (M.map PyData.str)) = true ∧ SeqAt.shaped (.list (M.map PyData.str)) = true := by
  have l : PyData.canLayAll0 (M.map PyData.str) = true := by
    induction M with
    | nil => rfl
    | cons x M ih =>
      show ((PyData.str x).canLay0 && PyData.canLayAll0 (M.map PyData.str)) = true
      rw [ih fun y my => h y (List.mem_cons_of_mem _ my), show (PyData.str x).canLay0 = PyData.strOk x from rfl, h x List.mem_cons_self]
      rfl
  have dz : ∀ M : List Str, PyData.depthAll (M.map PyData.str) = 0 := fun M => by
    induction M with
    | nil => rfl
    | cons x M ih =>
      show max 0 (PyData.depthAll (M.map PyData.str)) = 0
      rw [ih]
      rfl
  constructor
  · unfold SeqAt.shaped
    rw [show (PyData.tuple (M.map PyData.str)).canLay0 = PyData.canLayAll0 (M.map PyData.str) from rfl, l]
    show decide (PyData.depthAll (M.map PyData.str) + 1 ≤ 64) = true
    rw [dz]
    rfl
  · unfold SeqAt.shaped
    rw [show (PyData.list (M.map PyData.str)).canLay0 = PyData.canLayAll0 (M.map PyData.str) from rfl, l]
    show decide (PyData.depthAll (M.map PyData.str) + 1 ≤ 64) = true
    rw [dz]
    rfl
theorem dpa_strs {K : PySem.W.Frag} {H : Hp} (M : List Str) : DpAll K H (M.map V.str) (M.map PyData.str) := DvAll.dp (b := 0) (g := 0) _ _ (DvAll.strs M)
section
variable {X : Cx}
/-- x not in l, l a list of data -/
def rNotInL (K : PySem.W.Frag) : R2 := fun x y H Q => ∃ d ds, Dp K H x d ∧ Dp K H y (.list ds) ∧ SeqAt.shaped d = true ∧ SeqAt.shaped (.list ds) = true ∧ Q (.bl (!ds.any fun z => PyData.eqv z d)) H
theorem op_notInLD (hu : X.A.units + 65 < cLine) : OpR X (compareOp .NotIn) (rNotInL X.K) := by
  intro pins s σ H x y v u Q I rx ry h
  obtain ⟨d, ds, hd, he, sd, se, q⟩ := h
  obtain ⟨as, r1⟩ := Dp.reads I d x v hd rx
  obtain ⟨bs, r2⟩ := Dp.reads I (.list ds) y u he ry
  exact SeqAt.notIn_list_reads r2 r1 (SeqAt.canLay_of_shaped se) (SeqAt.canLay_of_shaped sd) (room_in_shaped sd hu) ⟨.bl _, H, I, rfl, q⟩
/-- either target -/
theorem pg_or {e : Expr} {t1 t2 : TG} (h1 : PG X e t1) (h2 : PG X e t2) : PG X e (fun v σ H Q => t1 v σ H Q ∨ t2 v σ H Q) := by
  refine ⟨fun pins s σ H v u Q I r hw => ?_⟩
  rcases hw with hw | hw
  · exact h1.run pins s σ H v u Q I r hw
  · exact h2.run pins s σ H v u Q I r hw
end
end Moot
/-! A nested tuple in an empty dict, and stored in it. -/
namespace Moot
open PySem PySem.Spec PyProof.Rows L2
/-- an empty dict -/
def Emp (H : Hp) (d : Addr) : Prop := H d = some (.dK []) ∨ H d = some (.dT [])
theorem Emp.same {H H' : Hp} {d : Addr} (h : Emp H d) (s : ∀ a o, H a = some o → H' a = some o) : Emp H' d := h.imp (s _ _) (s _ _)
mutual
/-- data that may be a key -/
def nkD : PyData → Option NestedKey
  | .none => some .none
  | .bool b => some (.num (if b = true then 1 else 0))
  | .int i => some (.num i)
  | .str x => some (.text x)
  | .tuple ds => (nksD ds).map .tup
  | _ => none
def nksD : List PyData → Option (List NestedKey)
  | [] => some []
  | d :: ds => (nkD d).bind fun k => (nksD ds).map fun ks => k :: ks
end
mutual
theorem nk_is {h : Heap} : ∀ (d : PyData) (u : Value) (as : List Addr) (k : NestedKey), Reads h u d as → nkD d = some k → NestedIs h k u
  | .none, _, _, _, r, e => by
    cases r
    cases e
    exact .none
  | .bool b, _, _, _, r, e => by
    cases r
    cases e
    exact .bool rfl
  | .int i, _, _, _, r, e => by
    cases r
    cases e
    exact .int _ _
  | .str x, _, _, _, r, e => by
    cases r
    cases e
    exact .text _ _
  | .tuple ds, _, _, k, r, e => by
    cases r with
    | tuple h1 h2 h3 h4 =>
      have e : (nksD ds).map NestedKey.tup = some k := e
      obtain ⟨ks, e1, rfl⟩ := Option.map_eq_some_iff.mp e
      exact .tup h1 h2 h3 (nks_are ds _ _ ks h4 e1)
  | .list _, _, _, _, r, e => by cases e
  | .dict _, _, _, _, r, e => by cases e
theorem nks_are {h : Heap} : ∀ (ds : List PyData) (us : List Value) (as : List Addr) (ks : List NestedKey), ReadsAll h us ds as → nksD ds = some ks → NestedAll h ks us
  | [], _, _, _, r, e => by
    cases r
    cases e
    exact .nil
  | d :: ds, _, _, ks, r, e => by
    cases r with
    | cons r1 r2 =>
      have e : ((nkD d).bind fun k => (nksD ds).map fun ks => k :: ks) = some ks := e
      obtain ⟨k, e1, e2⟩ := Option.bind_eq_some_iff.mp e
      obtain ⟨ks', e3, rfl⟩ := Option.map_eq_some_iff.mp e2
      exact .cons (nk_is d _ _ k r1 e1) (nks_are ds _ _ ks' r2 e3)
end
section
variable {X : Cx} {pins : List (Addr × Obj)} {σ : L2.St} {H : Hp} {s : Shared}
theorem Emp.keyed (I : Inv X pins σ H s) {d : Addr} (h : Emp H d) : (d == sysModules) = false ∧ s.heap.DictKeyed (nestedKind X.prog X.w) d [] := by
  rcases h with h | h
  · obtain ⟨_, y, vs, r, o, es, ep, ho, ex, hd, _, ps, _⟩ := I.hok d _ h
    cases r
    refine ⟨y, [], ⟨o, es, ep, ho, ex, hd, ?_, (fun x m => by cases m), List.nodup_nil⟩, rfl⟩
    generalize es.toList = l at ps
    cases ps
    rfl
  · obtain ⟨_, y, xs, r, o, es, ep, ho, ex, hd, he, nd⟩ := I.hok d _ h
    cases r
    exact ⟨y, [], ⟨o, es, ep, ho, ex, hd, he, (fun x m => by cases m), List.nodup_nil⟩, rfl⟩
end
section
variable {X : Cx}
/-- a nested tuple in an empty dict -/
def rInE (K : PySem.W.Frag) (b : Bool) : R2 := fun x y H Q => ∃ (a D : Addr) (d : PyData) (k : NestedKey), x = .ref a ∧ y = .ref D ∧ Dp K H (.ref a) d ∧ nkD d = some k ∧ k.depth ≤ 8 ∧ Emp H D ∧ Q (.bl b) H
theorem op_inE (hu : X.A.units + 64 < cLine) : OpR X (compareOp .In) (rInE X.K false) := by
  rintro pins s σ H x y v u Q I rx ry ⟨a, D, d, k, rfl, rfl, hd, hk, dp, em, q⟩
  cases rx
  cases ry
  obtain ⟨as, r⟩ := Dp.reads I d _ _ hd (show RelV (.ref a) (.ref a) from rfl)
  obtain ⟨sy, ke⟩ := em.keyed I
  exact in_keyed (knd := nestedKind X.prog X.w) (k := k) (show X.A.units + 1 + 8 < cLine by omega) ⟨nk_is d _ _ k r hk, dp⟩ sy ke ⟨.bl false, H, I.kept (t' := _) fun _ _ z => z, rfl, q⟩
theorem op_notInE (hu : X.A.units + 64 < cLine) : OpR X (compareOp .NotIn) (rInE X.K true) := by
  rintro pins s σ H x y v u Q I rx ry ⟨a, D, d, k, rfl, rfl, hd, hk, dp, em, q⟩
  cases rx
  cases ry
  obtain ⟨as, r⟩ := Dp.reads I d _ _ hd (show RelV (.ref a) (.ref a) from rfl)
  obtain ⟨sy, ke⟩ := em.keyed I
  exact notIn_keyed (knd := nestedKind X.prog X.w) (k := k) (show X.A.units + 1 + 8 < cLine by omega) ⟨nk_is d _ _ k r hk, dp⟩ sy ke ⟨.bl true, H, I.kept (t' := _) fun _ _ z => z, rfl, q⟩
/-- some object -/
def Any : HO := .ext fun _ => True
/-- the first entry of an empty dict, by a nested tuple -/
def rSetE (K : PySem.W.Frag) : V → V → V → Hp → (Hp → Prop) → Prop := fun o i v H Q => ∃ (a D : Addr) (d : PyData) (k : NestedKey), o = .ref D ∧ i = .ref a ∧ Dp K H (.ref a) d ∧ nkD d = some k ∧ k.depth ≤ 8 ∧ Emp H D ∧ Q (upd H D Any)
theorem set_dictE (hu : X.A.units + 64 < cLine) : PSet X (rSetE X.K) := by
  rintro pins s σ H o i v ov iv u Q I ro ri rv ⟨a, D, d, k, rfl, rfl, hd, hk, dp, em, q⟩
  cases ro
  cases ri
  obtain ⟨as, r⟩ := Dp.reads I d _ _ hd (show RelV (.ref a) (.ref a) from rfl)
  obtain ⟨sy, ke⟩ := em.keyed I
  refine setItem_keyed (knd := nestedKind X.prog X.w) (k := k) (show X.A.units + 1 + 8 < cLine by omega) ⟨nk_is d _ _ k r hk, dp⟩ ke (fun h' ke' hs => ?_) (Nat.zero_le _)
  have he : ∃ o, h'.get? D = some o := let ⟨_, ⟨o, _, _, ho, _⟩, _⟩ := ke'; ⟨o, ho⟩
  have nf : ∃ o, H D = some o ∧ ∀ (Z : Prop), Z → Z := by
    rcases em with e | e
    · exact ⟨_, e, fun _ z => z⟩
    · exact ⟨_, e, fun _ z => z⟩
  refine ⟨_, ?_, q⟩
  rcases em with e | e
  · exact d_write I (by rw [e]; exact True.intro) hs he ⟨True.intro, he, fun _ _ _ _ => True.intro⟩
  · exact d_write I (by rw [e]; exact True.intro) hs he ⟨True.intro, he, fun _ _ _ _ => True.intro⟩
end
end Moot
/-! Several except clauses, each with a name for the error or without one. -/
namespace Moot
open PySem PySem.Spec PyProof.Rows L2
/-- one clause: the class it asks for, its name's slot, its suite's reading -/
abbrev Clause := Value × Option Nat × (Addr → Value → Option Addr → TS)
/-- where a suite's ends lead, the name's slot empty again -/
def Ends.drop (D : Ends) : Option Nat → Ends
  | none => D
  | some i => { nx := fun σ H => D.nx (σ.set i none) H, rt := D.rt, bk := fun σ H => D.bk (σ.set i none) H, ct := fun σ H => D.ct (σ.set i none) H }
/-- the slots at a suite's beginning -/
def slotOf (σ : L2.St) (a : Addr) : Option Nat → L2.St
  | none => σ
  | some i => σ.set i (some (.ref a))
/-- what is wished of an error: the first clause that takes it, else what is wished outside -/
def wCl (K : PySem.W.Frag) (out : WX) (D : Ends) : List Clause → WX
  | [] => out
  | t :: r => fun cls d σ H => ∃ b, PySem.W.exmOne K cls t.1 = some b ∧ (b = true → ∀ a, H a = none → t.2.2 a cls d (Ends.drop D t.2.1) (slotOf σ a t.2.1) H) ∧ (b = false → wCl K out D r cls d σ H)
/-- the name of a clause: none, or a local one in its slot -/
inductive NameOk (X : Cx) : Option Str → Option Nat → Prop
  | none : NameOk X none none
  | some {n : Str} {i : Nat} (hi : X.N[i]? = some n) (hl : X.env.kindOf n = some .local) : NameOk X (some n) (some i)
/-- the clauses as they are written -/
inductive ClOk (X : Cx) : List ExceptHandler → List Clause → Prop
  | nil : ClOk X [] []
  | cons {x : Str} {n : Option Str} {i : Option Nat} {c : Value} {ts : Addr → Value → Option Addr → TS} {b : Stmt} {bs : List Stmt} {p q : Pos} {hs : List ExceptHandler} {l : List Clause}
      (cl : Names X x c) (nm : NameOk X n i) (su : ∀ a oe cls d pn, Zc cls d oe → (∃ vs, oe.data = .fields vs) → PSs (X.suite a ((a, oe) :: pn)) (b :: bs) (ts a cls d)) (r : ClOk X hs l) :
      ClOk X (.ExceptHandler (some (.Name x p)) n (b :: bs) q :: hs) ((c, i, ts) :: l)
/-- an error in flight over the def's own frame: what is known of the state -/
structure Hit (X : Cx) (pins : List (Addr × Obj)) (σ : L2.St) (H : Hp) (B : Heap) (a : Addr) (cls : Value) (d : Option Addr) (s : Shared) : Prop where
  back : ∃ z : Shared, Inv X pins σ H z ∧ (∀ b o, z.heap.get? b = some o → b ∉ frs X.stack → B.get? b = some o) ∧ z.heap.UpToSlots s.heap ∧ s.os = z.os ∧ AllBare s.gens
  fly : HandSPX.FlyingZ B (X.env :: X.outer) a (Zc cls d) s.heap
  non : H a = none
section
variable {X : Cx} {pins : List (Addr × Obj)} {σ : L2.St} {H : Hp} {B : Heap} {a : Addr} {cls : Value} {d : Option Addr} {s : Shared}
theorem Hit.inv (t : Hit X pins σ H B a cls d s) : Inv X pins σ H s := by
  obtain ⟨z, i, n, u, o, g⟩ := t.back
  exact i.landed n t.fly.1 u o g
theorem Hit.off (t : Hit X pins σ H B a cls d s) (hf : X.env.frame = some X.env.locals) : a ∉ frs (X.env :: X.outer) := by
  obtain ⟨oe, vs, e, _, dt⟩ := t.fly.there
  intro m
  obtain ⟨_, o2, e2, nf⟩ := t.fly.2.2.1.mem m
  exact nf vs (by rw [← Option.some.inj (e.symm.trans e2)]; exact dt)
theorem Hit.held (t : Hit X pins σ H B a cls d s) (hf : X.env.frame = some X.env.locals) : ∃ oe, Zc cls d oe ∧ (∃ vs, oe.data = .fields vs) ∧ s.heap.get? a = some oe ∧ Inv (X.suite a ((a, oe) :: (X.pn ++ pins))) [] σ H s := by
  obtain ⟨oe, vs, e, z, dt⟩ := t.fly.there
  have off := t.off hf
  refine ⟨oe, z, ⟨vs, dt⟩, e, t.inv.suite e dt t.non (fun k => off ?_) fun m => off ?_⟩
  · exact List.mem_filterMap.mpr ⟨_, List.mem_cons_self, by rw [hf, k]⟩
  · obtain ⟨en, me, q⟩ := List.mem_filterMap.mp m
    exact List.mem_filterMap.mpr ⟨en, List.mem_cons_of_mem _ me, q⟩
theorem Hit.at (t : Hit X pins σ H B a cls d s) {h : Heap} (fl : HandSPX.FlyingZ B (X.env :: X.outer) a (Zc cls d) h) (up : s.heap.UpToSlots h) : Hit X pins σ H B a cls d { s with heap := h } := by
  obtain ⟨z, i, n, u, o, g⟩ := t.back
  exact ⟨⟨z, i, n, u.trans up, o, g⟩, fl, t.non⟩
/-- a suite's end, seen from outside of the suite -/
theorem suite_end {oe : Obj} {D : Ends} {i : Option Nat} {n : Option Str} {q : Pos} (ok : X.Ok) (hN : X.N.Nodup) (nm : NameOk X n i) {f : Flow} {s6 : Shared} (h : SP (X.suite a ((a, oe) :: (X.pn ++ pins))) [] (Ends.drop D i) f s6) :
    match n with
    | none => SP X pins D f s6
    | some y => wpAny (model X.prog X.w) X.A (do bindName X.env y .none; unbindBehindTheSuite X.env y q) (fun _ s7 => SP X pins D f s7) X.xe s6 := by
  cases nm with
  | none =>
    cases f with
    | ret u => obtain ⟨v, σ6, H6, S6, r6, q6⟩ := h; exact ⟨v, σ6, H6, S6.unsuite ok, r6, q6⟩
    | next => obtain ⟨σ6, H6, S6, q6⟩ := h; exact ⟨σ6, H6, S6.unsuite ok, q6⟩
    | brk => obtain ⟨σ6, H6, S6, q6⟩ := h; exact ⟨σ6, H6, S6.unsuite ok, q6⟩
    | cont => obtain ⟨σ6, H6, S6, q6⟩ := h; exact ⟨σ6, H6, S6.unsuite ok, q6⟩
  | some hi hl =>
    cases f with
    | ret u => obtain ⟨v, σ6, H6, S6, r6, q6⟩ := h; exact gone_ok (S6.unsuite ok) hN hi hl fun s7 J => ⟨v, _, H6, J, r6, q6⟩
    | next => obtain ⟨σ6, H6, S6, q6⟩ := h; exact gone_ok (S6.unsuite ok) hN hi hl fun s7 J => ⟨_, H6, J, q6⟩
    | brk => obtain ⟨σ6, H6, S6, q6⟩ := h; exact gone_ok (S6.unsuite ok) hN hi hl fun s7 J => ⟨_, H6, J, q6⟩
    | cont => obtain ⟨σ6, H6, S6, q6⟩ := h; exact gone_ok (S6.unsuite ok) hN hi hl fun s7 J => ⟨_, H6, J, q6⟩
/-- the clauses, one after the other -/
theorem Hit.by (ok : X.Ok) (hN : X.N.Nodup) (hs : X.stack = X.env :: X.outer) (hf : X.env.frame = some X.env.locals) {out : WX} (tk : Takes X out) {D : Ends} {hds : List ExceptHandler} {l : List Clause} (c : ClOk X hds l) :
    ∀ {s : Shared}, Hit X pins σ H B a cls d s → wCl X.K out D l cls d σ H → wpAny (model X.prog X.w) X.A (handleBy (.ref a) X.env hds) (SP X pins D) X.xe s := by
  induction c with
  | nil =>
    intro s t w
    refine wpAny_handleBy_nil ?_
    obtain ⟨_, _, _, oe, vs, T, _, _, he, _, dt, v1, _⟩ := id t.fly
    unfold PySem.passOn
    refine wpAny_bind (wpAny_field he dt v1 ?_)
    rw [show (Value.ref T == Value.none) = false from rfl, if_neg Bool.false_ne_true]
    have up : wpAny (model X.prog X.w) X.A (setFlight (.ref a) X.env.frame) (fun _ s4 => wpAny (model X.prog X.w) X.A (throw (.ref a) : Sem Flow) (SP X pins D) X.xe s4) X.xe s := by
      rw [hf]
      obtain ⟨z, i, n, u, o, g⟩ := t.back
      exact HandSPX.setFlight_upZ t.fly fun h4 fl u4 => wpAny_throw (tk _ _ ⟨a, B, z, pins, σ, H, cls, d, rfl, i, n, u.trans u4, .inr (.inr (by rw [hs]; exact fl)), t.non, o, g, w⟩)
    first
      | exact wpAny_bind up
      | exact wpAny_bind (wpAny_pure (wpAny_bind up))
  | @cons x n i c ts b bs p q hs' l cl nm su r ih =>
    intro s t w
    obtain ⟨v, e1, yes, no⟩ := w
    obtain ⟨oe, z, dt, at0, S⟩ := t.held hf
    refine wpAny_handleBy_cons (codeAny_handlers_test ?_) (fun e => nomatch e)
    have kind : PySem.W.Looks (model X.prog X.w) s.heap (typeOf (.ref a)) cls := fun A Q E s2 k q => wpAny_typeOf_ref (k _ _ at0) (z.1 ▸ q)
    have name : ∀ {Q : Value → Shared → Prop} {E : Value → Shared → Prop}, Q c s → wpAny (model X.prog X.w) (X.A.mark (some (.ref a))) (eval (.Name x p) X.env) Q E s := fun {Q E} q => by
      obtain ⟨g, db, m⟩ := cl
      rcases m with m | ⟨m, bt, nn⟩
      · exact ld_glob S g m q db
      · exact ld_blt S g m bt q nn db
    refine name ((PySem.W.exm_one t.inv.kIn kind e1).here ?_)
    cases v with
    | false => exact ih t (no rfl)
    | true =>
      have run : ∀ {h4 : Heap}, HandSPX.FlyingZ B (X.env :: X.outer) a (Zc cls d) h4 → s.heap.UpToSlots h4 → ∃ oe4, Zc cls d oe4 ∧ (∃ vs, oe4.data = .fields vs) ∧ Inv (X.suite a ((a, oe4) :: (X.pn ++ pins))) [] σ H { s with heap := h4 } := fun fl up => by
        obtain ⟨o4, z4, d4, _, S4⟩ := (t.at fl up).held hf
        exact ⟨o4, z4, d4, S4⟩
      have go := yes rfl a t.non
      cases nm with
      | none =>
        refine codeAny_handlers_suite (HandSPX.lands_againZ t.fly fun h4 fl up => ?_)
        obtain ⟨o4, z4, d4, S4⟩ := run fl up
        exact wpAny_mono ((su a o4 cls d _ z4 d4).run [] _ _ H _ S4 go) (fun f s6 h => suite_end (q := q) (n := none) ok hN .none h) fun _ _ k => k.elim
      | @some n i hi hl =>
        refine codeAny_handlers_suite_as (HandSPX.lands_againZ t.fly fun h4 fl up => ?_)
        obtain ⟨o4, z4, d4, S4⟩ := run fl up
        refine store_ok (X := X.suite a ((a, o4) :: (X.pn ++ pins))) (v := .ref a) S4 hN hi (.inl hl) rfl (fun s5 S5 => ?_) (.inr hl)
        exact wpAny_mono ((su a o4 cls d _ z4 d4).run [] s5 _ H _ S5 go) (fun f s6 h => suite_end (q := q) (n := some n) ok hN (.some hi hl) h) fun _ _ k => k.elim
end
theorem ps_tryCl {X : Cx} {body : List Stmt} {hd : ExceptHandler} {hds : List ExceptHandler} {l : List Clause} {pos : Pos} {tb : WX → TS} {out : WX} (hs : X.stack = X.env :: X.outer) (hf : X.env.frame = some X.env.locals) (hN : X.N.Nodup) (tk : Takes X out)
    (hb : ∀ (W : WX) (pn : List (Addr × Obj)) (xe : Value → Shared → Prop), Takes (X.tr pn xe) W → PassesOwn (model X.prog X.w) X.A X.env xe → PSs (X.tr pn xe) body (tb W)) (c : ClOk X (hd :: hds) l) : PS X (.Try body (hd :: hds) [] [] pos) (fun D σ H => tb (wCl X.K out D l) D σ H) := by
  refine ⟨fun pins s σ H D I h => wpAny_Try_except ?_⟩
  have ok := I.ok
  have deep : X.A.frames = some (X.env :: X.outer) := ok.frames.trans (by rw [hs])
  refine wpAny_mono ((hb (wCl X.K out D l) (X.pn ++ pins) _ (fun u s2 k => ?_) PassesOwn.looking).run [] s σ H D (I.toTry _) h) (fun f s2 e => ?_) fun _ _ e => e
  · obtain ⟨a, B, z, pins2, σ2, H2, cls, d, rfl, J, nb, up, sky, na, os, ag, w⟩ := k
    refine Sky.land Zc.steady deep hf (hs ▸ sky) fun h3 fl up3 => ?_
    exact Hit.by ok hN hs hf tk c (s := { s2 with heap := h3 }) ⟨⟨z, J.ofTry ok, nb, up.trans up3, os, ag⟩, fl, na⟩ w
  · cases f with
    | next =>
      obtain ⟨σ2, H2, J, q⟩ := e
      exact wpAny_execs_nil ⟨σ2, H2, J.ofTry ok, q⟩
    | ret u =>
      obtain ⟨v, σ2, H2, J, r, q⟩ := e
      exact ⟨v, σ2, H2, J.ofTry ok, r, q⟩
    | brk => obtain ⟨σ2, H2, J, q⟩ := e; exact ⟨σ2, H2, J.ofTry ok, q⟩
    | cont => obtain ⟨σ2, H2, J, q⟩ := e; exact ⟨σ2, H2, J.ofTry ok, q⟩
end Moot
/-! Own exceptions with an __init__ of one field or two. -/
namespace Moot
open PySem PySem.Spec PyProof.Rows L2
/-- an own exception class: its name at the top, its place, its __init__'s -/
structure ExcT (K : PySem.W.Frag) (mg : Str → Option Value) (x : Str) (C fI : Addr) : Prop where
  oex : OexC K C
  xf : XfC K C
  gC : mg x = some (.ref C)
  iC : PySem.W.findIn K (.ref C) "__init__" = some (some (.ref fI))
  tI : PySem.W.typeIn K (.ref fI) = some (.type "function")
theorem upd_del {H : Hp} {a d : Addr} {o1 o2 o3 u : HO} (ha : H a = none) (hd : H d = none) (ne : d ≠ a) : upd (L2.del (upd (upd (upd H a o1) d o2) a o3) a) d u = upd H d u := by
  funext b
  by_cases hb : b = d
  · rw [hb, upd_same, upd_same]
  · rw [upd_ne hb, upd_ne hb]
    by_cases h2 : b = a
    · rw [h2, L2.del_same, ha]
    · rw [L2.del_ne h2, upd_ne h2, upd_ne hb, upd_ne h2]
/-- C's __init__ keeps one field -/
def spEx1 (f : Str) (C : Addr) : Sp := fun vs H Q _ => ∃ (a : Addr) (v : V), vs = [.ref a, v] ∧ H a = some (exo a C none) ∧ ∀ dx, H dx = none → dx ≠ a → Q .non (upd (upd H dx (exd dx [(f, v)])) a (exo a C (some dx)))
/-- two -/
def spEx2 (f f2 : Str) (C : Addr) : Sp := fun vs H Q _ => ∃ (a : Addr) (v v2 : V), vs = [.ref a, v, v2] ∧ H a = some (exo a C none) ∧ ∀ dx, H dx = none → dx ≠ a → Q .non (upd (upd (upd H dx (exd dx [(f, v)])) a (exo a C (some dx))) dx (exd dx [(f2, v2), (f, v)]))
abbrev MkQ (C a : Addr) (H1 : Hp) (Q : XK) : VK := fun v H2 => v = .non ∧ ∃ (d : Addr) (fs : List (Str × V)), H2 a = some (exo a C (some d)) ∧ H2 d = some (exd d fs) ∧ H1 d = none ∧ Q (.ref C) (some d) (upd (L2.del H2 a) d (.xd fs))
theorem mk1 {f : Str} {C : Addr} {v : V} {H1 : Hp} {Q : XK} {E : XK} (h : ∀ d, H1 d = none → Q (.ref C) (some d) (upd H1 d (.xd [(f, v)]))) : [v].length ≤ 1000 ∧ ∀ a, H1 a = none → spEx1 f C (.ref a :: ([v] ++ [])) (upd H1 a (exo a C none)) (MkQ C a H1 Q) E := by
  refine ⟨by show 1 ≤ 1000; decide, fun a na => ⟨a, v, rfl, upd_same, fun dx ndx nx => ⟨rfl, dx, [(f, v)], upd_same, ?_, ?_, ?_⟩⟩⟩
  · rw [upd_ne nx, upd_same]
  · rwa [upd_ne nx] at ndx
  · rw [upd_ne nx] at ndx
    rw [upd_del na ndx nx]
    exact h dx ndx
theorem mk2 {f f2 : Str} {C : Addr} {v v2 : V} {H1 : Hp} {Q : XK} {E : XK} (h : ∀ d, H1 d = none → Q (.ref C) (some d) (upd H1 d (.xd [(f2, v2), (f, v)]))) : [v, v2].length ≤ 1000 ∧ ∀ a, H1 a = none → spEx2 f f2 C (.ref a :: ([v, v2] ++ [])) (upd H1 a (exo a C none)) (MkQ C a H1 Q) E := by
  refine ⟨by show 2 ≤ 1000; decide, fun a na => ⟨a, v, v2, rfl, upd_same, fun dx ndx nx => ⟨rfl, dx, [(f2, v2), (f, v)], ?_, upd_same, ?_, ?_⟩⟩⟩
  · rw [upd_ne nx.symm, upd_same]
  · rwa [upd_ne nx] at ndx
  · rw [upd_ne nx] at ndx
    have e : upd (L2.del (upd (upd (upd (upd H1 a (exo a C none)) dx (exd dx [(f, v)])) a (exo a C (some dx))) dx (exd dx [(f2, v2), (f, v)])) a) dx (.xd [(f2, v2), (f, v)]) = upd H1 dx (.xd [(f2, v2), (f, v)]) := by
      funext b
      by_cases hb : b = dx
      · rw [hb, upd_same, upd_same]
      · rw [upd_ne hb, upd_ne hb]
        by_cases h2 : b = a
        · rw [h2, L2.del_same, na]
        · rw [L2.del_ne h2, upd_ne hb, upd_ne h2, upd_ne hb, upd_ne h2]
    rw [e]
    exact h dx ndx
/-- any block behind what raises -/
theorem pss_any {X : Cx} : ∀ {l : List Stmt}, PSs X l (fun _ _ _ => False) := fun {l} => ⟨fun pins s σ H D I h => h.elim⟩
end Moot
/-! The forms of ballots, answers, messages, sets, reasons, as far as garbage goes. -/
namespace Moot
open PySem PySem.Spec PyProof.Rows L2
/-- no tuple of this length -/
def NoT (n : Nat) (d : PyData) : Prop := ∀ ds, d = .tuple ds → ds.length ≠ n
def rInT (K : PySem.W.Frag) : R2 := fun x y H Q => ∃ (d : PyData) (ds : List PyData), Dp K H x d ∧ Dp K H y (.tuple ds) ∧ SeqAt.shaped d = true ∧ SeqAt.shaped (.list ds) = true ∧ Q (.bl (ds.any fun z => PyData.eqv z d)) H
theorem op_inT {X : Cx} (hu : X.A.units + 65 < cLine) : OpR X (compareOp .In) (rInT X.K) := by
  rintro pins s σ H x y v u Q I rx ry ⟨d, ds, h1, h2, s1, s2, q⟩
  obtain ⟨as, a1⟩ := Dp.reads I d x v h1 rx
  obtain ⟨bs, b1⟩ := Dp.reads I (.tuple ds) y u h2 ry
  refine SeqAt.in_tuple_reads b1 a1 (SeqAt.canLay_of_shaped s2) (SeqAt.canLay_of_shaped s1) (room_in_shaped s1 hu) ⟨.bl _, H, I, rfl, q⟩
theorem hu65 {A : Around} {k : Nat} (hr : Room k A) : A.units + 65 < cLine := by
  have := hr.un
  omega
/-- isinstance(x, tuple) of data -/
def isTup : PyData → Bool
  | .tuple _ => true
  | _ => false
theorem kit_tup {K : PySem.W.Frag} : ∀ (d : PyData), (∀ kv, d ≠ .dict kv) → PySem.W.kitOne K (tyD d) (.type "tuple") = some (isTup d)
  | .none, _ => kit_ty (r := false) (by decide +kernel)
  | .bool _, _ => kit_ty (r := false) (by decide +kernel)
  | .int _, _ => kit_ty (r := false) (by decide +kernel)
  | .str _, _ => kit_ty (r := false) (by decide +kernel)
  | .list _, _ => kit_ty (r := false) (by decide +kernel)
  | .tuple _, _ => kit_ty (r := true) (by decide +kernel)
  | .dict kv, h => absurd rfl (h kv)
theorem Dv.nd {b g : Addr} {H : Hp} {d : PyData} {v : V} (h : Dv b g H d v) : ∀ kv, d ≠ .dict kv := fun kv e => by
  subst e
  exact h
theorem isTup_is {d : PyData} (h : isTup d = true) : ∃ ds, d = .tuple ds := by
  cases d with
  | tuple ds => exact ⟨ds, rfl⟩
  | _ => cases h
theorem SqT.rd {K : PySem.W.Frag} {H : Hp} {a : Addr} {xs : List V} (h : Rd H a (.tup xs)) : SqT K H a xs := .inl h
theorem Dv.tupAt {b g : Addr} {H : Hp} {ds : List PyData} {v : V} (h : Dv b g H (.tuple ds) v) : ∃ a xs, v = .ref a ∧ a ≠ b ∧ a ≠ g ∧ Rd H a (.tup xs) ∧ DvAll b g H ds xs := h
section
variable {P : Program} {w : World} {K : PySem.W.Frag} {mg : Str → Option Value} {base : Heap}
/-! is_ballot -/
abbrev sBa : Stmt := top 31
theorem scBa : FnScope ["value", "number", "name"] ["value"] (defScope sBa) := ⟨rfl, rfl, rfl, by decide +kernel, rfl, by decide +kernel, by decide +kernel⟩
def spBa : Sp := fun vs H Q _ => ∃ (b g : Addr) (d : PyData) (v : V), vs = [v] ∧ Dv b g H d v ∧
  ((∃ (i : Int) (x : Str), d = .tuple [.int i, .str x] ∧ 0 ≤ i ∧ i ≤ 6 ∧ Nm x ∧ ∀ H', Same H H' → Q (.bl true) H') ∨ (NoT 2 d ∧ ∀ H', Same H H' → Q (.bl false) H'))
theorem ok_ballot {f f1 f2 : Addr} {fd fd1 fd2 : FuncData} {uL : Value} {k : Nat} (F : Fun K "is_ballot" "is_ballot" sBa f fd) (T : Bq mg) (mL : mg "LARGEST_NUMBER" = some uL) (rL : RelV (.int 6) uL)
    (F1 : Fun K "is_name" "is_name" sIn f1 fd1) (b1 : Binds K fd1 ["value"] []) (g1 : mg "is_name" = some (.ref f1)) (G1 : FnOk P w K mg base CX0 k f1 fd1 ["value"] (spIn K))
    (F2 : Fun K "is_whole_number" "is_whole_number" sWh f2 fd2) (b2 : Binds K fd2 ["value"] []) (g2 : mg "is_whole_number" = some (.ref f2)) (G2 : FnOk P w K mg base CX0 k f2 fd2 ["value"] spWh) : FnOk P w K mg base CX0 (k + 1) f fd ["value"] spBa := by
  refine F.ok scBa (fun vs H Q E h => ?_) (fun cdv A outer s H vs Q E hr h => ?_)
  · obtain ⟨b, g, d, v, rfl, _⟩ := h
    rfl
  · obtain ⟨b, g, d, v, rfl, hd, h⟩ := h
    refine ⟨_, pss_cons (ps_if (PW.pt (pw_or (pt_not (pt_val (pe_callB call_isi (by rfl) T.T.isi (by decide +kernel) (pa_cons (pv 0) (pa_cons (pe_bltn (v := .ty "tuple") (by rfl) T.T.tup (by decide +kernel) rfl) pa_nil)))))
        (pw_or1 (pt_cmpR op_ne (pe_callB call_len_seq (by rfl) T.T.len PySem.boot_len (pa_cons (pv 0) pa_nil)) pe_int (nomark _))))) (pss_one (ps_ret pe_bl)) pss_nil)
      (pss_cons (ps_asg (pv 0) (pg_tup (by rfl) (pgs_cons (pg_name (i := 1) scBa.nd rfl (Or.inl rfl)) (pgs_cons (pg_name (i := 2) scBa.nd rfl (Or.inl rfl)) pgs_nil))))
      (pss_one (ps_ret (pe_and (pe_call G2 hr (by rfl) g2 F2.kp b2 .nil pass0 (pa_cons (pv 1) pa_nil)) (pe_and (pe_chain op_le op_le pe_int (pv 1) (pe_glob (by rfl) mL rL)) (pe_one (pe_call G1 hr (by rfl) g1 F1.kp b1 .nil pass0 (pa_cons (pv 2) pa_nil)))))))), ?_⟩
    rcases h with ⟨i, x, rfl, i0, i6, nx, q⟩ | ⟨no, q⟩
    · obtain ⟨a, us, rfl, _, _, ha, v1, us1, rfl, e1, v2, us2, rfl, e2, e3⟩ := hd.tupAt
      cases e1
      cases e2
      cases e3
      refine ⟨.ref a, rfl, _, _, .type "tuple", .type "tuple", true, rfl, .ty _, (ha.elim (fun e => .base (.tup e)) fun ⟨o, e⟩ => .fTuple e), kit_ty (r := true) (by decide +kernel), _, rfl, iteF ⟨.ref a, rfl, a, _, rfl, .inr (SqT.rd ha), rfl, _, rfl, iteF ?_⟩⟩
      refine ⟨.ref a, rfl, a, _, rfl, SqT.rd ha, rfl, _, _, rfl, _, _, rfl, rfl, ?_⟩
      refine ⟨.int i, rfl, i, rfl, _, rfl, iteT ⟨.int i, rfl, _, _, rfl, rfl, _, rfl, ?_⟩⟩
      rw [decide_eq_true i0]
      refine iteT ⟨_, _, rfl, rfl, ?_⟩
      refine ⟨_, rfl, ?_⟩
      rw [decide_eq_true i6]
      exact iteT ⟨.str x, rfl, .inl ⟨x, rfl, nx, q⟩⟩
    · have ty := Dv.ty (K := K) hd
      refine ⟨v, rfl, _, _, _, .type "tuple", isTup d, rfl, .ty _, ty, kit_tup d hd.nd, _, rfl, ?_⟩
      cases it : isTup d with
      | false => exact iteT (iteT (q H (Same.refl _)))
      | true =>
        obtain ⟨ds, rfl⟩ := isTup_is it
        obtain ⟨a, us, rfl, _, _, ha, all⟩ := hd.tupAt
        have ul := all.len
        refine iteF ⟨.ref a, rfl, a, _, rfl, .inr (SqT.rd ha), rfl, _, rfl, ?_⟩
        rw [decide_eq_false (show ¬ V.int ((us.length : Nat) : Int) = V.int 2 from fun e => no ds rfl (by have := V.int.inj e; omega))]
        exact iteT (q H (Same.refl _))
/-! is_answer -/
abbrev sAn : Stmt := top 32
theorem scAn : FnScope ["value"] ["value"] (defScope sAn) := ⟨rfl, rfl, rfl, by decide +kernel, rfl, by decide +kernel, by decide +kernel⟩
def anS : List Str := ["commit", "abort"]
def spAn : Sp := fun vs H Q _ => ∃ (b g : Addr) (d : PyData) (v : V), vs = [v] ∧ Dv b g H d v ∧ SeqAt.shaped d = true ∧ ∀ H', Same H H' → Q (.bl (memD anS d)) H'
theorem ok_answer {f aA : Addr} {fd : FuncData} {k : Nat} (F : Fun K "is_answer" "is_answer" sAn f fd) (mA : mg "ANSWERS" = some (.ref aA)) (hA : ∀ H, SqT K H aA (anS.map V.str)) : FnOk P w K mg base CX0 (k + 1) f fd ["value"] spAn := by
  refine F.ok scAn (fun vs H Q E h => ?_) (fun cdv A outer s H vs Q E hr h => ?_)
  · obtain ⟨b, g, d, v, rfl, _⟩ := h
    rfl
  · obtain ⟨b, g, d, v, rfl, hd, sh, q⟩ := h
    refine ⟨_, pss_one (ps_ret (pe_cmpR (op_inT (hu65 hr)) (pv 0) (pe_glob (v := .ref aA) (by rfl) mA rfl) (by rfl))), ?_⟩
    have ok : ∀ x ∈ anS, PyData.strOk x = true := by decide +kernel
    refine ⟨v, rfl, d, anS.map PyData.str, Dv.dp _ _ hd, .tup (hA H) (dpa_strs anS), sh, (sh_strs ok).2, ?_⟩
    rw [any_mem]
    exact q H (Same.refl _)
/-! is_message, not even four entries -/
abbrev sMs : Stmt := top 35
abbrev nMs : List Str := ["network", "value", "sender", "requirement", "votes", "accepts", "names"]
theorem scMs : FnScope nMs ["network", "value"] (defScope sMs) := ⟨rfl, rfl, rfl, by decide +kernel, rfl, by decide +kernel, by decide +kernel⟩
def spMs : Sp := fun vs H Q _ => ∃ (b g : Addr) (d : PyData) (v y : V), vs = [y, v] ∧ Dv b g H d v ∧ NoT 4 d ∧ ∀ H', Same H H' → Q (.bl false) H'
theorem ok_msg {f : Addr} {fd : FuncData} {k : Nat} (F : Fun K "is_message" "is_message" sMs f fd) (T : Bq mg) : FnOk P w K mg base CX0 (k + 1) f fd ["network", "value"] spMs := by
  refine F.ok scMs (fun vs H Q E h => ?_) (fun cdv A outer s H vs Q E hr h => ?_)
  · obtain ⟨b, g, d, v, y, rfl, _⟩ := h
    rfl
  · obtain ⟨b, g, d, v, y, rfl, hd, no, q⟩ := h
    refine ⟨_, pss_cons (ps_if (PW.pt (pw_or (pt_not (pt_val (pe_callB call_isi (by rfl) T.T.isi (by decide +kernel) (pa_cons (pv 1) (pa_cons (pe_bltn (v := .ty "tuple") (by rfl) T.T.tup (by decide +kernel) rfl) pa_nil)))))
        (pw_or1 (pt_cmpR op_ne (pe_callB call_len_seq (by rfl) T.T.len PySem.boot_len (pa_cons (pv 1) pa_nil)) pe_int (nomark _))))) (pss_one (ps_ret pe_bl)) pss_nil) pss_any, ?_⟩
    have ty := Dv.ty (K := K) hd
    refine ⟨v, rfl, _, _, _, .type "tuple", isTup d, rfl, .ty _, ty, kit_tup d hd.nd, _, rfl, ?_⟩
    cases it : isTup d with
    | false => exact iteT (iteT (q H (Same.refl _)))
    | true =>
      obtain ⟨ds, rfl⟩ := isTup_is it
      obtain ⟨a, us, rfl, _, _, ha, all⟩ := hd.tupAt
      have ul := all.len
      refine iteF ⟨.ref a, rfl, a, _, rfl, .inr (SqT.rd ha), rfl, _, rfl, ?_⟩
      rw [decide_eq_false (show ¬ V.int ((us.length : Nat) : Int) = V.int 4 from fun e => no ds rfl (by have := V.int.inj e; omega))]
      exact iteT (q H (Same.refl _))
/-! is_within of data -/
theorem scWi5 : FnScope ["small", "large", "name"] ["small", "large"] (defScope sWit) := ⟨rfl, rfl, rfl, by decide +kernel, rfl, by decide +kernel, by decide +kernel⟩
def spWiD : Sp := fun vs H Q _ => ∃ (b g a p : Addr) (ds : List PyData) (us : List V) (xs : List Str), vs = [.ref a, .ref p] ∧ Rd H a (.tup us) ∧ DvAll b g H ds us ∧ ds.length ≤ 100 ∧ (∀ d ∈ ds, SeqAt.shaped d = true) ∧ H p = some (.tup (xs.map V.str)) ∧ (∀ x ∈ xs, PyData.strOk x = true) ∧ ∀ H', Same H H' → Q (.bl (ds.all fun d => memD xs d)) H'
theorem ok_within {f : Addr} {fd : FuncData} {k : Nat} (F : Fun K "is_within" "is_within" sWit f fd) (T : Bq mg) : FnOk P w K mg base CX0 (k + 1) f fd ["small", "large"] spWiD := by
  refine F.ok scWi5 (fun vs H Q E h => ?_) (fun cdv A outer s H vs Q E hr h => ?_)
  · obtain ⟨b, g, a, p, ds, us, xs, rfl, _⟩ := h
    rfl
  · obtain ⟨b, g, a, p, ds, us, xs, rfl, ha, dv, d100, sh, hp, ok, q⟩ := h
    refine ⟨_, pss_one (ps_ret (pe_callB (cr_all rfl) (by rfl) T.all (by decide +kernel) (pa_cons (pe_lc (own := [("name", 2)]) (g := gName 2) (tt := tYes) (by rfl) scWi5.nd (pi_tup (pv 0)) (blkOk_by (N := ["small", "large", "name"]) (sc := defScope sWit) (by decide +kernel))
          (fun _ _ _ _ _ => pg_name (i := 2) scWi5.nd rfl (Or.inl rfl)) (fun _ _ _ _ _ => pts_nil) (fun _ _ _ _ _ => pe_cmpR (show OpR _ (compareOp .In) (rInT K) from op_inT (hu65 hr)) (pv 2) (pv 1) (by rfl))) pa_nil))), ?_⟩
    have ul := dv.len
    refine ⟨.ref a, rfl, a, rfl, ⟨_, SqT.rd ha⟩, fun D nD => lc_tup (K := K) (a := a) (xs := us) (fun j H1 => Same H H1 ∧ H1 D = some (.lst (((ds.take j).map fun d => memD xs d).map V.bl))) ⟨same_new nD, upd_same⟩ (fun j H1 _ h => SqT.rd (rd_same ha h.1)) ?_ ?_⟩
    · rintro j y H1 hy ⟨s1, hD⟩
      obtain ⟨d, hd, dd⟩ := dv.get hy
      have lt := (List.getElem?_eq_some_iff.mp hd).1
      have tk : ds.take (j + 1) = ds.take j ++ [d] := by
        rw [List.take_add_one, hd]
        rfl
      refine ⟨rfl, y, rfl, .ref p, rfl, d, xs.map PyData.str, Dv.dp _ _ (dd.same s1), .tup (SqT.of (s1 _ _ hp)) (dpa_strs xs), sh d (List.mem_of_getElem? hd), (sh_strs ok).2, ?_⟩
      rw [any_mem]
      refine ⟨_, hD, ?_, fun a o e => ?_, ?_⟩
      · rw [List.length_map, List.length_map, List.length_take]
        exact small1000 (by omega)
      · rw [upd_ne (ne_of_none e nD)]
        exact s1 a o e
      · rw [upd_same, tk, List.map_append, List.map_append]
        rfl
    · rintro H1 ⟨s1, hD⟩
      rw [ul, List.take_length] at hD
      refine ⟨D, _, rfl, SqL.of hD, ?_⟩
      have r := q H1 s1
      rw [List.all_map]
      exact r
end
end Moot
/-! is_event of garbage. -/
namespace Moot
open PySem PySem.Spec PyProof.Rows L2
section
variable {P : Program} {w : World} {K : PySem.W.Frag} {mg : Str → Option Value} {base : Heap}
/-! is_ascending of nothing -/
abbrev sAs : Stmt := top 11
theorem scAs : FnScope ["entries", "at"] ["entries"] (defScope sAs) := ⟨rfl, rfl, rfl, by decide +kernel, rfl, by decide +kernel, by decide +kernel⟩
def spAs0 : Sp := fun vs H Q _ => ∃ a : Addr, vs = [.ref a] ∧ Rd H a (.tup []) ∧ ∀ H', Same H H' → Q (.bl true) H'
theorem ok_asc {f : Addr} {fd : FuncData} {k : Nat} (F : Fun K "is_ascending" "is_ascending" sAs f fd) (T : Bq mg) : FnOk P w K mg base CX0 (k + 1) f fd ["entries"] spAs0 := by
  refine F.ok scAs (fun vs H Q E h => ?_) (fun cdv A outer s H vs Q E hr h => ?_)
  · obtain ⟨a, rfl, _⟩ := h
    rfl
  · obtain ⟨a, rfl, ha, q⟩ := h
    refine ⟨_, pss_one (ps_ret (pe_callB (cr_all rfl) (by rfl) T.all (by decide +kernel) (pa_cons (pe_lc (own := [("at", 1)]) (g := gName 1) (tt := tYes) (by rfl) scAs.nd (pi_range1 rfl T.T.rng (pa_cons (pe_op op_sub (pe_callB call_len_seq (by rfl) T.T.len PySem.boot_len (pa_cons (pv 0) pa_nil)) pe_int) pa_nil)) (blkOk_by (N := ["entries", "at"]) (sc := defScope sAs) (by decide +kernel))
          (fun _ _ _ _ _ => pg_name (i := 1) scAs.nd rfl (Or.inl rfl)) (fun _ _ _ _ _ => pts_nil) (fun _ _ _ _ _ => pe_cmpR op_lt (pe_ix (show IxR _ (rIxT K) from ix_tup) (pv 0) (pv 1) (fun _ _ => rfl)) (pe_ix (show IxR _ (rIxT K) from ix_tup) (pv 0) (pe_op op_add (pv 1) pe_int) (fun _ _ => rfl)) (nomark _))) pa_nil))), ?_⟩
    refine ⟨.ref a, rfl, a, _, rfl, .inr (SqT.rd ha), _, _, rfl, rfl, (-1 : Int), rfl, by decide, by decide, fun D nD => ?_⟩
    refine lc_range (lo := 0) (n := ((-1 : Int)).toNat) (fun j H1 => Same H H1 ∧ H1 D = some (.lst (([] : List Bool).map V.bl))) ⟨same_new nD, upd_same⟩ (fun j H1 hj => absurd hj (Nat.not_lt_zero _)) ?_
    rintro H1 ⟨s1, hD⟩
    exact ⟨D, _, rfl, SqL.of hD, q H1 s1⟩
/-! is_written_set -/
abbrev sWs : Stmt := top 41
theorem scWs : FnScope ["network", "value"] ["network", "value"] (defScope sWs) := ⟨rfl, rfl, rfl, by decide +kernel, rfl, by decide +kernel, by decide +kernel⟩
/-- no tuple, the empty one, or one whose names are not all nodes -/
def SetR (xs : List Str) (d : PyData) (r : Bool) : Prop := (isTup d = false ∧ r = false) ∨ (d = .tuple [] ∧ r = true) ∨ ∃ ds, d = .tuple ds ∧ (ds.all fun e => memD xs e) = false ∧ ds.length ≤ 100 ∧ r = false
def spWs (C : Addr) : Sp := fun vs H Q _ => ∃ (net D b g : Addr) (c : Rq) (xs : List Str) (rs : Rws) (d : PyData) (v : V) (r : Bool), vs = [.ref net, v] ∧ NetAt C H net D c xs rs ∧ Dv b g H d v ∧ SeqAt.shaped d = true ∧ SetR (rs.map (·.1)) d r ∧ ∀ H', Same H H' → Q (.bl r) H'
theorem ok_wset {f f1 f2 f3 C : Addr} {fd fd1 fd2 fd3 : FuncData} {k : Nat} (F : Fun K "is_written_set" "is_written_set" sWs f fd) (T : Bq mg) (X : Txt K mg C)
    (M1 : Meth K C "node_names" f1) (b1 : Binds K fd1 ["self"] []) (G1 : FnOk P w K mg base CX0 k f1 fd1 ["self"] (spNn C))
    (F2 : Fun K "is_within" "is_within" sWit f2 fd2) (b2 : Binds K fd2 ["small", "large"] []) (g2 : mg "is_within" = some (.ref f2)) (G2 : FnOk P w K mg base CX0 k f2 fd2 ["small", "large"] spWiD)
    (F3 : Fun K "is_ascending" "is_ascending" sAs f3 fd3) (b3 : Binds K fd3 ["entries"] []) (g3 : mg "is_ascending" = some (.ref f3)) (G3 : FnOk P w K mg base CX0 k f3 fd3 ["entries"] spAs0) : FnOk P w K mg base CX0 (k + 1) f fd ["network", "value"] (spWs C) := by
  refine F.ok scWs (fun vs H Q E h => ?_) (fun cdv A outer s H vs Q E hr h => ?_)
  · obtain ⟨net, D, b, g, c, xs, rs, d, v, r, rfl, _⟩ := h
    rfl
  · obtain ⟨net, D, b, g, c, xs, rs, d, v, r, rfl, N, hd, sh, sr, q⟩ := h
    refine ⟨_, pss_one (ps_ret (pe_and (pe_callB call_isi (by rfl) T.T.isi (by decide +kernel) (pa_cons (pv 1) (pa_cons (pe_bltn (v := .ty "tuple") (by rfl) T.T.tup (by decide +kernel) rfl) pa_nil)))
        (pe_and (pe_call G2 hr (by rfl) g2 F2.kp b2 .nil pass0 (pa_cons (pv 1) (pa_cons (pe_meth0 (pv 0) X.cl M1 G1 hr b1 .nil pass0) pa_nil))) (pe_one (pe_call G3 hr (by rfl) g3 F3.kp b3 .nil pass0 (pa_cons (pv 1) pa_nil)))))), ?_⟩
    have ty := Dv.ty (K := K) hd
    obtain ⟨dx, hn⟩ := N.ob
    have okx : ∀ x ∈ rs.map (·.1), PyData.strOk x = true := fun x mx => (N.fit.nm x (N.fit.keys.mem_iff.mp mx)).ok
    refine ⟨v, rfl, _, _, _, .type "tuple", isTup d, rfl, .ty _, ty, kit_tup d hd.nd, _, rfl, ?_⟩
    rcases sr with ⟨it, rfl⟩ | ⟨rfl, rfl⟩ | ⟨ds, rfl, no, d100, rfl⟩
    · rw [it]
      exact iteF (q H (Same.refl _))
    · obtain ⟨a, us, rfl, _, _, ha, all⟩ := hd.tupAt
      have ue : us = [] := all
      subst ue
      refine iteT ⟨.ref a, rfl, .ref net, rfl, net, dx, _, rfl, hn, fld_no D (by decide +kernel), net, D, c, xs, rs, rfl, N, fun p H1 s1 np hp => ?_⟩
      refine ⟨b, g, a, p, [], [], _, rfl, rd_same ha s1, rfl, Nat.zero_le _, (fun d m => by cases m), hp, okx, fun H2 s2 => ⟨_, rfl, iteT ?_⟩⟩
      exact ⟨.ref a, rfl, a, rfl, rd_same (rd_same ha s1) s2, fun H3 s3 => q H3 ((s1.trans s2).trans s3)⟩
    · obtain ⟨a, us, rfl, ab, ag, ha, all⟩ := hd.tupAt
      refine iteT ⟨.ref a, rfl, .ref net, rfl, net, dx, _, rfl, hn, fld_no D (by decide +kernel), net, D, c, xs, rs, rfl, N, fun p H1 s1 np hp => ?_⟩
      refine ⟨b, g, a, p, ds, us, _, rfl, rd_same ha s1, all.same s1, d100, fun d m => sh_mem rfl sh m, hp, okx, fun H2 s2 => ?_⟩
      rw [no]
      exact ⟨_, rfl, iteF (q H2 (s1.trans s2))⟩
/-! is_written_reason, no pair -/
abbrev sWr : Stmt := top 42
theorem scWr : FnScope ["network", "value"] ["network", "value"] (defScope sWr) := ⟨rfl, rfl, rfl, by decide +kernel, rfl, by decide +kernel, by decide +kernel⟩
def spWr : Sp := fun vs H Q _ => ∃ (b g : Addr) (d : PyData) (v y : V), vs = [y, v] ∧ Dv b g H d v ∧ NoT 2 d ∧ ∀ H', Same H H' → Q (.bl false) H'
theorem ok_wreason {f : Addr} {fd : FuncData} {k : Nat} (F : Fun K "is_written_reason" "is_written_reason" sWr f fd) (T : Bq mg) : FnOk P w K mg base CX0 (k + 1) f fd ["network", "value"] spWr := by
  refine F.ok scWr (fun vs H Q E h => ?_) (fun cdv A outer s H vs Q E hr h => ?_)
  · obtain ⟨b, g, d, v, y, rfl, _⟩ := h
    rfl
  · obtain ⟨b, g, d, v, y, rfl, hd, no, q⟩ := h
    refine ⟨_, pss_cons (ps_if (PW.pt (pw_or (pt_not (pt_val (pe_callB call_isi (by rfl) T.T.isi (by decide +kernel) (pa_cons (pv 1) (pa_cons (pe_bltn (v := .ty "tuple") (by rfl) T.T.tup (by decide +kernel) rfl) pa_nil)))))
        (pw_or1 (pt_cmpR op_ne (pe_callB call_len_seq (by rfl) T.T.len PySem.boot_len (pa_cons (pv 1) pa_nil)) pe_int (nomark _))))) (pss_one (ps_ret pe_bl)) pss_nil) pss_any, ?_⟩
    have ty := Dv.ty (K := K) hd
    refine ⟨v, rfl, _, _, _, .type "tuple", isTup d, rfl, .ty _, ty, kit_tup d hd.nd, _, rfl, ?_⟩
    cases it : isTup d with
    | false => exact iteT (iteT (q H (Same.refl _)))
    | true =>
      obtain ⟨ds, rfl⟩ := isTup_is it
      obtain ⟨a, us, rfl, _, _, ha, all⟩ := hd.tupAt
      have ul := all.len
      refine iteF ⟨.ref a, rfl, a, _, rfl, .inr (SqT.rd ha), rfl, _, rfl, ?_⟩
      rw [decide_eq_false (show ¬ V.int ((us.length : Nat) : Int) = V.int 2 from fun e => no ds rfl (by have := V.int.inj e; omega))]
      exact iteT (q H (Same.refl _))
end
/-- a good ballot -/
def GoodB (d : PyData) : Prop := ∃ (i : Int) (x : Str), d = .tuple [.int i, .str x] ∧ 0 ≤ i ∧ i ≤ 6 ∧ Nm x
/-- what is_event says of these -/
inductive EvR (xs : List Str) : PyData → Bool → Prop
  | nt {d : PyData} : isTup d = false → EvR xs d false
  | sh {ds : List PyData} : ds.length < 3 → EvR xs (.tuple ds) false
  | who {w e : PyData} {rest : List PyData} : 1 ≤ rest.length → memD xs e = false → EvR xs (.tuple (w :: e :: rest)) false
  | w3 {w m : PyData} {n : Str} : n ∈ xs → strD "received" w = false → EvR xs (.tuple [w, .str n, m]) false
  | re {m : PyData} {n : Str} : n ∈ xs → NoT 4 m → EvR xs (.tuple [.str "received", .str n, m]) false
  | bal {w m a : PyData} {n : Str} {rest : List PyData} : n ∈ xs → strD "received" w = false → NoT 2 m → EvR xs (.tuple (w :: .str n :: m :: a :: rest)) false
  | ans {w m a : PyData} {n : Str} {rest : List PyData} : n ∈ xs → strD "received" w = false → GoodB m → memD anS a = false → EvR xs (.tuple (w :: .str n :: m :: a :: rest)) false
  | four {w m a : PyData} {n : Str} : n ∈ xs → strD "received" w = false → GoodB m → memD anS a = true → EvR xs (.tuple [w, .str n, m, a]) (strD "voted" w)
  | rea {m a r : PyData} {n : Str} : n ∈ xs → GoodB m → memD anS a = true → NoT 2 r → EvR xs (.tuple [.str "accepted", .str n, m, a, r]) false
  | set {w m a r : PyData} {n : Str} {t : Bool} : n ∈ xs → strD "received" w = false → strD "voted" w = false → strD "accepted" w = false → GoodB m → memD anS a = true → (strD "confirmed" w = true → SetR xs r t) → EvR xs (.tuple [w, .str n, m, a, r]) (strD "confirmed" w && t)
theorem strD_self (z : Str) : strD z (.str z) = true := decide_eq_true (p := z = z) rfl
theorem EvR.out {xs : List Str} {d0 d1 : PyData} {rest : List PyData} {r : Bool} (h : EvR xs (.tuple (d0 :: d1 :: rest)) r) (no : memD xs d1 = false) : r = false := by
  have yes : ∀ n : Str, n ∈ xs → memD xs (.str n) = true := fun n m => decide_eq_true m
  cases h with
  | nt h => cases h
  | sh _ => rfl
  | who _ _ => rfl
  | w3 m _ => rfl
  | re m _ => rfl
  | bal m _ _ => rfl
  | ans m _ _ _ => rfl
  | four m _ _ _ => cases (yes _ m).symm.trans no
  | rea m _ _ _ => rfl
  | set m _ _ _ _ _ _ => cases (yes _ m).symm.trans no
theorem EvR.inv {xs : List Str} {d0 d2 : PyData} {n : Str} {tail : List PyData} {r : Bool} (h : EvR xs (.tuple (d0 :: .str n :: d2 :: tail)) r) (mn : n ∈ xs) :
    (tail = [] ∧ strD "received" d0 = false ∧ r = false) ∨ (tail = [] ∧ d0 = .str "received" ∧ NoT 4 d2 ∧ r = false) ∨
    (∃ a rest, tail = a :: rest ∧ strD "received" d0 = false ∧ NoT 2 d2 ∧ r = false) ∨ (∃ a rest, tail = a :: rest ∧ strD "received" d0 = false ∧ GoodB d2 ∧ memD anS a = false ∧ r = false) ∨
    (∃ a, tail = [a] ∧ strD "received" d0 = false ∧ GoodB d2 ∧ memD anS a = true ∧ r = strD "voted" d0) ∨ (∃ a rr, tail = [a, rr] ∧ d0 = .str "accepted" ∧ GoodB d2 ∧ memD anS a = true ∧ NoT 2 rr ∧ r = false) ∨
    ∃ a rr t, tail = [a, rr] ∧ strD "received" d0 = false ∧ strD "voted" d0 = false ∧ strD "accepted" d0 = false ∧ GoodB d2 ∧ memD anS a = true ∧ (strD "confirmed" d0 = true → SetR xs rr t) ∧ r = (strD "confirmed" d0 && t) := by
  cases h with
  | nt h => cases h
  | sh l => exact absurd l (by simp only [List.length_cons]; omega)
  | who _ no => cases (show memD xs (.str n) = true from decide_eq_true mn).symm.trans no
  | w3 _ h => exact .inl ⟨rfl, h, rfl⟩
  | re _ h => exact .inr (.inl ⟨rfl, rfl, h, rfl⟩)
  | bal _ h1 h2 => exact .inr (.inr (.inl ⟨_, _, rfl, h1, h2, rfl⟩))
  | ans _ h1 h2 h3 => exact .inr (.inr (.inr (.inl ⟨_, _, rfl, h1, h2, h3, rfl⟩)))
  | four _ h1 h2 h3 => exact .inr (.inr (.inr (.inr (.inl ⟨_, rfl, h1, h2, h3, rfl⟩))))
  | rea _ h1 h2 h3 => exact .inr (.inr (.inr (.inr (.inr (.inl ⟨_, _, rfl, rfl, h1, h2, h3, rfl⟩)))))
  | set _ h1 h2 h3 h4 h5 h6 => exact .inr (.inr (.inr (.inr (.inr (.inr ⟨_, _, _, rfl, h1, h2, h3, h4, h5, h6, rfl⟩)))))
section
variable {P : Program} {w : World} {K : PySem.W.Frag} {mg : Str → Option Value} {base : Heap}
/-! is_event -/
abbrev sEv : Stmt := top 43
abbrev nEv : List Str := ["network", "value", "word"]
theorem scEv : FnScope nEv ["network", "value"] (defScope sEv) := ⟨rfl, rfl, rfl, by decide +kernel, rfl, by decide +kernel, by decide +kernel⟩
def spEv (C : Addr) : Sp := fun vs H Q _ => ∃ (net D b g : Addr) (c : Rq) (xs : List Str) (rs : Rws) (d : PyData) (v : V) (r : Bool), vs = [.ref net, v] ∧ NetAt C H net D c xs rs ∧ Dv b g H d v ∧ SeqAt.shaped d = true ∧ EvR (rs.map (·.1)) d r ∧ ∀ H', Same H H' → Q (.bl r) H'
theorem ok_isev {f f1 f2 f3 f4 f5 f6 C : Addr} {fd fd1 fd2 fd3 fd4 fd5 fd6 : FuncData} {k : Nat} (F : Fun K "is_event" "is_event" sEv f fd) (T : Bq mg) (X : Txt K mg C)
    (M1 : Meth K C "node_names" f1) (b1 : Binds K fd1 ["self"] []) (G1 : FnOk P w K mg base CX0 k f1 fd1 ["self"] (spNn C))
    (F2 : Fun K "is_message" "is_message" sMs f2 fd2) (b2 : Binds K fd2 ["network", "value"] []) (g2 : mg "is_message" = some (.ref f2)) (G2 : FnOk P w K mg base CX0 k f2 fd2 ["network", "value"] spMs)
    (F3 : Fun K "is_ballot" "is_ballot" sBa f3 fd3) (b3 : Binds K fd3 ["value"] []) (g3 : mg "is_ballot" = some (.ref f3)) (G3 : FnOk P w K mg base CX0 k f3 fd3 ["value"] spBa)
    (F4 : Fun K "is_answer" "is_answer" sAn f4 fd4) (b4 : Binds K fd4 ["value"] []) (g4 : mg "is_answer" = some (.ref f4)) (G4 : FnOk P w K mg base CX0 k f4 fd4 ["value"] spAn)
    (F5 : Fun K "is_written_reason" "is_written_reason" sWr f5 fd5) (b5 : Binds K fd5 ["network", "value"] []) (g5 : mg "is_written_reason" = some (.ref f5)) (G5 : FnOk P w K mg base CX0 k f5 fd5 ["network", "value"] spWr)
    (F6 : Fun K "is_written_set" "is_written_set" sWs f6 fd6) (b6 : Binds K fd6 ["network", "value"] []) (g6 : mg "is_written_set" = some (.ref f6)) (G6 : FnOk P w K mg base CX0 k f6 fd6 ["network", "value"] (spWs C)) : FnOk P w K mg base CX0 (k + 1) f fd ["network", "value"] (spEv C) := by
  refine F.ok scEv (fun vs H Q E h => ?_) (fun cdv A outer s H vs Q E hr h => ?_)
  · obtain ⟨net, D, b, g, c, xs, rs, d, v, r, rfl, _⟩ := h
    rfl
  · obtain ⟨net, D, b, g, c, xs, rs, d, v, r, rfl, N, hd, sh, er, q⟩ := h
    refine ⟨_, pss_cons (ps_if (PW.pt (pw_or (pt_not (pt_val (pe_callB call_isi (by rfl) T.T.isi (by decide +kernel) (pa_cons (pv 1) (pa_cons (pe_bltn (v := .ty "tuple") (by rfl) T.T.tup (by decide +kernel) rfl) pa_nil)))))
          (pw_or (pt_cmpR op_lt (pe_callB call_len_seq (by rfl) T.T.len PySem.boot_len (pa_cons (pv 1) pa_nil)) pe_int (nomark _))
          (pw_or1 (pt_cmpR (op_notInU (hu65 hr)) (pe_ix ix_tup (pv 1) pe_int (fun _ _ => rfl)) (pe_meth0 (pv 0) X.cl M1 G1 hr b1 .nil pass0) (by rfl)))))) (pss_one (ps_ret pe_bl)) pss_nil)
      (pss_cons (ps_set (i := 2) scEv.nd rfl (Or.inl rfl) (pe_ix ix_tup (pv 1) pe_int (fun _ _ => rfl)))
      (pss_cons (ps_if (pt_cmpR (op_eqD hr.units) (pv 2) pe_str (nomark _)) (pss_one (ps_ret (pe_and (pe_cmpR op_eq (pe_callB call_len_seq (by rfl) T.T.len PySem.boot_len (pa_cons (pv 1) pa_nil)) pe_int (nomark _)) (pe_one (pe_call G2 hr (by rfl) g2 F2.kp b2 .nil pass0 (pa_cons (pv 0) (pa_cons (pe_ix ix_tup (pv 1) pe_int (fun _ _ => rfl)) pa_nil))))))) pss_nil)
      (pss_cons (ps_if (PW.pt (pw_or (pt_cmpR op_lt (pe_callB call_len_seq (by rfl) T.T.len PySem.boot_len (pa_cons (pv 1) pa_nil)) pe_int (nomark _))
          (pw_or (pt_not (pt_val (pe_call G3 hr (by rfl) g3 F3.kp b3 .nil pass0 (pa_cons (pe_ix ix_tup (pv 1) pe_int (fun _ _ => rfl)) pa_nil))))
          (pw_or1 (pt_not (pt_val (pe_call G4 hr (by rfl) g4 F4.kp b4 .nil pass0 (pa_cons (pe_ix ix_tup (pv 1) pe_int (fun _ _ => rfl)) pa_nil)))))))) (pss_one (ps_ret pe_bl)) pss_nil)
      (pss_cons (ps_if (pt_cmpR (op_eqD hr.units) (pv 2) pe_str (nomark _)) (pss_one (ps_ret (pe_cmpR op_eq (pe_callB call_len_seq (by rfl) T.T.len PySem.boot_len (pa_cons (pv 1) pa_nil)) pe_int (nomark _)))) pss_nil)
      (pss_cons (ps_if (pt_cmpR op_ne (pe_callB call_len_seq (by rfl) T.T.len PySem.boot_len (pa_cons (pv 1) pa_nil)) pe_int (nomark _)) (pss_one (ps_ret pe_bl)) pss_nil)
      (pss_cons (ps_if (pt_cmpR (op_eqD hr.units) (pv 2) pe_str (nomark _)) (pss_one (ps_ret (pe_call G5 hr (by rfl) g5 F5.kp b5 .nil pass0 (pa_cons (pv 0) (pa_cons (pe_ix ix_tup (pv 1) pe_int (fun _ _ => rfl)) pa_nil))))) pss_nil)
      (pss_one (ps_ret (pe_and (pe_cmpR (op_eqD hr.units) (pv 2) pe_str (nomark _)) (pe_one (pe_call G6 hr (by rfl) g6 F6.kp b6 .nil pass0 (pa_cons (pv 0) (pa_cons (pe_ix ix_tup (pv 1) pe_int (fun _ _ => rfl)) pa_nil))))))))))))), ?_⟩
    have ty := Dv.ty (K := K) hd
    obtain ⟨dx, hn⟩ := N.ob
    have okx : ∀ x ∈ rs.map (·.1), PyData.strOk x = true := fun x mx => (N.fit.nm x (N.fit.keys.mem_iff.mp mx)).ok
    have sR : SeqAt.shaped (.str "received") = true := sh_str (by decide +kernel)
    have sV : SeqAt.shaped (.str "voted") = true := sh_str (by decide +kernel)
    have sA : SeqAt.shaped (.str "accepted") = true := sh_str (by decide +kernel)
    have sC : SeqAt.shaped (.str "confirmed") = true := sh_str (by decide +kernel)
    refine ⟨v, rfl, _, _, _, .type "tuple", isTup d, rfl, .ty _, ty, kit_tup d hd.nd, _, rfl, ?_⟩
    cases it : isTup d with
    | false =>
      have er' : r = false := by
        cases er with
        | nt _ => rfl
        | _ => cases it
      subst er'
      exact iteT (iteT (q H (Same.refl _)))
    | true =>
    obtain ⟨ds, rfl⟩ := isTup_is it
    obtain ⟨a, us, rfl, ab, ag, ha, all⟩ := hd.tupAt
    have ul := all.len
    refine iteF ⟨.ref a, rfl, a, _, rfl, .inr (SqT.rd ha), _, _, rfl, rfl, _, rfl, ?_⟩
    by_cases l3 : ds.length < 3
    · rw [decide_eq_true (show ((us.length : Nat) : Int) < 3 by omega)]
      have er' : r = false := by
        cases er with
        | nt h => cases it.symm.trans h
        | sh _ => rfl
        | who h _ => exact absurd l3 (by simp only [List.length_cons]; omega)
        | _ => exact absurd l3 (by simp only [List.length_cons]; omega)
      subst er'
      exact iteT (iteT (q H (Same.refl _)))
    rw [decide_eq_false (show ¬ ((us.length : Nat) : Int) < 3 by omega)]
    obtain ⟨d0, d1, d2, tail, rfl⟩ : ∃ d0 d1 d2 tail, ds = d0 :: d1 :: d2 :: tail := by
      match ds, l3 with
      | d0 :: d1 :: d2 :: tail, _ => exact ⟨d0, d1, d2, tail, rfl⟩
      | [], l => exact absurd (show 0 < 3 by decide) l
      | [_], l => exact absurd (show 1 < 3 by decide) l
      | [_, _], l => exact absurd (show 2 < 3 by decide) l
    obtain ⟨v0, us0, rfl, h0, v1, us1, rfl, h1, v2, us2, rfl, h2, h3⟩ := all
    have shd : ∀ x ∈ d0 :: d1 :: d2 :: tail, SeqAt.shaped x = true := fun x m => sh_mem rfl sh m
    have s0 := shd d0 List.mem_cons_self
    have s1' := shd d1 (List.mem_cons_of_mem _ List.mem_cons_self)
    have s2' := shd d2 (List.mem_cons_of_mem _ (List.mem_cons_of_mem _ List.mem_cons_self))
    refine iteF ⟨.ref a, rfl, a, _, 1, v1, rfl, rfl, SqT.rd ha, atI_nat (j := 1) rfl, .ref net, rfl, net, dx, _, rfl, hn, fld_no D (by decide +kernel), net, D, c, xs, rs, rfl, N, fun p H1 s1 np hp => ⟨d1, (rs.map (·.1)).map PyData.str, Dv.dp _ _ (h1.same s1), .tup (SqT.of hp) (dpa_strs _), s1', (sh_strs okx).1, _, rfl, ?_⟩⟩
    rw [any_mem]
    cases hm : memD (rs.map (·.1)) d1 with
    | false =>
      have := er.out hm
      subst this
      exact iteT (q H1 s1)
    | true =>
    obtain ⟨n, rfl, mn⟩ := memD_is hm
    have ha1 := rd_same ha s1
    have N1 := N.same s1
    have g0 := h0.same s1
    have g2' := h2.same s1
    have len3 : (v0 :: v1 :: v2 :: us2).length = tail.length + 3 := by
      have := h3.len
      simp only [List.length_cons]
      omega
    refine iteF ⟨.ref a, rfl, a, _, 0, v0, rfl, rfl, SqT.rd ha1, atI_nat (j := 0) rfl, ?_⟩
    refine ⟨v0, rfl, d0, .str "received", Dv.dp _ _ g0, .str _, s0, sR, _, rfl, ?_⟩
    rw [eqv_strR]
    rcases er.inv mn with ⟨rfl, nr, rfl⟩ | ⟨rfl, rfl, no, rfl⟩ | ⟨e3, rest, rfl, nr, no, rfl⟩ | ⟨e3, rest, rfl, nr, gb, na, rfl⟩ | ⟨e3, rfl, nr, gb, ya, rfl⟩ | ⟨e3, e4, rfl, rfl, gb, ya, no, rfl⟩ | ⟨e3, e4, t, rfl, nr, nv, nac, gb, ya, sr, rfl⟩
    · -- three entries, no message
      rw [nr]
      refine iteF ⟨.ref a, rfl, a, _, rfl, .inr (SqT.rd ha1), _, _, rfl, rfl, _, rfl, ?_⟩
      rw [decide_eq_true (show (((v0 :: v1 :: v2 :: us2).length : Nat) : Int) < 4 by rw [len3]; decide)]
      exact iteT (iteT (q H1 s1))
    · -- a message that is none
      rw [strD_self]
      refine iteT ⟨.ref a, rfl, a, _, rfl, .inr (SqT.rd ha1), rfl, _, rfl, ?_⟩
      rw [decide_eq_true (show V.int (((v0 :: v1 :: v2 :: us2).length : Nat) : Int) = V.int 3 from by rw [len3]; rfl)]
      exact iteT ⟨.ref net, rfl, .ref a, rfl, a, _, 2, v2, rfl, rfl, SqT.rd ha1, atI_nat (j := 2) rfl, b, g, d2, v2, _, rfl, g2', no, fun H2 s2 => q H2 (s1.trans s2)⟩
    · -- no ballot
      have l4 : ¬ (((v0 :: v1 :: v2 :: us2).length : Nat) : Int) < 4 := by rw [len3, List.length_cons]; omega
      rw [nr]
      refine iteF ⟨.ref a, rfl, a, _, rfl, .inr (SqT.rd ha1), _, _, rfl, rfl, _, rfl, ?_⟩
      rw [decide_eq_false l4]
      exact iteF ⟨.ref a, rfl, a, _, 2, v2, rfl, rfl, SqT.rd ha1, atI_nat (j := 2) rfl, b, g, d2, v2, rfl, g2', .inr ⟨no, fun H2 s2 => ⟨_, rfl, iteT (iteT (q H2 (s1.trans s2)))⟩⟩⟩
    · -- no answer
      have l4 : ¬ (((v0 :: v1 :: v2 :: us2).length : Nat) : Int) < 4 := by rw [len3, List.length_cons]; omega
      obtain ⟨v3, us3, rfl, h3', h4⟩ := h3
      rw [nr]
      refine iteF ⟨.ref a, rfl, a, _, rfl, .inr (SqT.rd ha1), _, _, rfl, rfl, _, rfl, ?_⟩
      rw [decide_eq_false l4]
      obtain ⟨i, x, eb, i0, i6, nx⟩ := gb
      refine iteF ⟨.ref a, rfl, a, _, 2, v2, rfl, rfl, SqT.rd ha1, atI_nat (j := 2) rfl, b, g, d2, v2, rfl, g2', .inl ⟨i, x, eb, i0, i6, nx, fun H2 s2 => ⟨_, rfl, iteF ?_⟩⟩⟩
      refine ⟨.ref a, rfl, a, _, 3, v3, rfl, rfl, SqT.rd (rd_same ha1 s2), atI_nat (j := 3) rfl, b, g, e3, v3, rfl, h3'.same (s1.trans s2), shd e3 (List.mem_cons_of_mem _ (List.mem_cons_of_mem _ (List.mem_cons_of_mem _ List.mem_cons_self))), fun H3 s3 => ?_⟩
      rw [na]
      exact ⟨_, rfl, iteT (q H3 ((s1.trans s2).trans s3))⟩
    · -- four entries
      obtain ⟨v3, us3, rfl, h3', h4⟩ := h3
      have e4 : us3 = [] := h4
      subst e4
      rw [nr]
      refine iteF ⟨.ref a, rfl, a, _, rfl, .inr (SqT.rd ha1), _, _, rfl, rfl, _, rfl, ?_⟩
      rw [decide_eq_false (show ¬ (((v0 :: v1 :: v2 :: [v3]).length : Nat) : Int) < 4 from (by decide : ¬ ((4 : Nat) : Int) < 4))]
      obtain ⟨i, x, eb, i0, i6, nx⟩ := gb
      refine iteF ⟨.ref a, rfl, a, _, 2, v2, rfl, rfl, SqT.rd ha1, atI_nat (j := 2) rfl, b, g, d2, v2, rfl, g2', .inl ⟨i, x, eb, i0, i6, nx, fun H2 s2 => ⟨_, rfl, iteF ?_⟩⟩⟩
      refine ⟨.ref a, rfl, a, _, 3, v3, rfl, rfl, SqT.rd (rd_same ha1 s2), atI_nat (j := 3) rfl, b, g, e3, v3, rfl, h3'.same (s1.trans s2), shd e3 (List.mem_cons_of_mem _ (List.mem_cons_of_mem _ (List.mem_cons_of_mem _ List.mem_cons_self))), fun H3 s3 => ?_⟩
      rw [ya]
      have s13 := (s1.trans s2).trans s3
      have ha3 := rd_same ha s13
      refine ⟨_, rfl, iteF ⟨v0, rfl, d0, .str "voted", Dv.dp _ _ (h0.same s13), .str _, s0, sV, _, rfl, ?_⟩⟩
      rw [eqv_strR]
      have r := q H3 s13
      cases hv : strD "voted" d0 with
      | true =>
        rw [hv] at r
        exact iteT ⟨.ref a, rfl, a, _, rfl, .inr (SqT.rd ha3), rfl, r⟩
      | false =>
        rw [hv] at r
        refine iteF ⟨.ref a, rfl, a, _, rfl, .inr (SqT.rd ha3), rfl, _, rfl, ?_⟩
        rw [decide_eq_false (show ¬ V.int (((v0 :: v1 :: v2 :: [v3]).length : Nat) : Int) = V.int 5 from fun e => absurd (V.int.inj e) (by decide : ¬ ((4 : Nat) : Int) = 5))]
        exact iteT r
    · -- no reason
      obtain ⟨v3, us3, rfl, h3', v4, us4, rfl, h4', h5⟩ := h3
      have e5 : us4 = [] := h5
      subst e5
      rw [show strD "received" (.str "accepted") = false by decide +kernel]
      refine iteF ⟨.ref a, rfl, a, _, rfl, .inr (SqT.rd ha1), _, _, rfl, rfl, _, rfl, ?_⟩
      rw [decide_eq_false (show ¬ (((v0 :: v1 :: v2 :: v3 :: [v4]).length : Nat) : Int) < 4 from (by decide : ¬ ((5 : Nat) : Int) < 4))]
      obtain ⟨i, x, eb, i0, i6, nx⟩ := gb
      refine iteF ⟨.ref a, rfl, a, _, 2, v2, rfl, rfl, SqT.rd ha1, atI_nat (j := 2) rfl, b, g, d2, v2, rfl, g2', .inl ⟨i, x, eb, i0, i6, nx, fun H2 s2 => ⟨_, rfl, iteF ?_⟩⟩⟩
      refine ⟨.ref a, rfl, a, _, 3, v3, rfl, rfl, SqT.rd (rd_same ha1 s2), atI_nat (j := 3) rfl, b, g, e3, v3, rfl, h3'.same (s1.trans s2), shd e3 (List.mem_cons_of_mem _ (List.mem_cons_of_mem _ (List.mem_cons_of_mem _ List.mem_cons_self))), fun H3 s3 => ?_⟩
      rw [ya]
      have s13 := (s1.trans s2).trans s3
      have ha3 := rd_same ha s13
      refine ⟨_, rfl, iteF ⟨v0, rfl, .str "accepted", .str "voted", Dv.dp _ _ (h0.same s13), .str _, s0, sV, _, rfl, ?_⟩⟩
      rw [eqv_strR, show strD "voted" (.str "accepted") = false by decide +kernel]
      refine iteF ⟨.ref a, rfl, a, _, rfl, .inr (SqT.rd ha3), rfl, _, rfl, ?_⟩
      rw [decide_eq_true (show V.int (((v0 :: v1 :: v2 :: v3 :: [v4]).length : Nat) : Int) = V.int 5 from rfl)]
      refine iteF ⟨v0, rfl, .str "accepted", .str "accepted", Dv.dp _ _ (h0.same s13), .str _, s0, sA, _, rfl, ?_⟩
      rw [eqv_strR, strD_self]
      exact iteT ⟨.ref net, rfl, .ref a, rfl, a, _, 4, v4, rfl, rfl, SqT.rd ha3, atI_nat (j := 4) rfl, b, g, e4, v4, _, rfl, h4'.same s13, no, fun H4 s4 => q H4 (s13.trans s4)⟩
    · -- a set
      obtain ⟨v3, us3, rfl, h3', v4, us4, rfl, h4', h5⟩ := h3
      have e5 : us4 = [] := h5
      subst e5
      rw [nr]
      refine iteF ⟨.ref a, rfl, a, _, rfl, .inr (SqT.rd ha1), _, _, rfl, rfl, _, rfl, ?_⟩
      rw [decide_eq_false (show ¬ (((v0 :: v1 :: v2 :: v3 :: [v4]).length : Nat) : Int) < 4 from (by decide : ¬ ((5 : Nat) : Int) < 4))]
      obtain ⟨i, x, eb, i0, i6, nx⟩ := gb
      refine iteF ⟨.ref a, rfl, a, _, 2, v2, rfl, rfl, SqT.rd ha1, atI_nat (j := 2) rfl, b, g, d2, v2, rfl, g2', .inl ⟨i, x, eb, i0, i6, nx, fun H2 s2 => ⟨_, rfl, iteF ?_⟩⟩⟩
      refine ⟨.ref a, rfl, a, _, 3, v3, rfl, rfl, SqT.rd (rd_same ha1 s2), atI_nat (j := 3) rfl, b, g, e3, v3, rfl, h3'.same (s1.trans s2), shd e3 (List.mem_cons_of_mem _ (List.mem_cons_of_mem _ (List.mem_cons_of_mem _ List.mem_cons_self))), fun H3 s3 => ?_⟩
      rw [ya]
      have s13 := (s1.trans s2).trans s3
      have ha3 := rd_same ha s13
      have N3 := N.same s13
      refine ⟨_, rfl, iteF ⟨v0, rfl, d0, .str "voted", Dv.dp _ _ (h0.same s13), .str _, s0, sV, _, rfl, ?_⟩⟩
      rw [eqv_strR, nv]
      refine iteF ⟨.ref a, rfl, a, _, rfl, .inr (SqT.rd ha3), rfl, _, rfl, ?_⟩
      rw [decide_eq_true (show V.int (((v0 :: v1 :: v2 :: v3 :: [v4]).length : Nat) : Int) = V.int 5 from rfl)]
      refine iteF ⟨v0, rfl, d0, .str "accepted", Dv.dp _ _ (h0.same s13), .str _, s0, sA, _, rfl, ?_⟩
      rw [eqv_strR, nac]
      refine iteF ⟨v0, rfl, d0, .str "confirmed", Dv.dp _ _ (h0.same s13), .str _, s0, sC, _, rfl, ?_⟩
      rw [eqv_strR]
      cases hc : strD "confirmed" d0 with
      | false =>
        have r := q H3 s13
        rw [hc] at r
        exact iteF r
      | true =>
        rw [hc] at q
        exact iteT ⟨.ref net, rfl, .ref a, rfl, a, _, 4, v4, rfl, rfl, SqT.rd ha3, atI_nat (j := 4) rfl, net, D, b, g, c, xs, rs, e4, v4, t, rfl, N3, h4'.same s13, shd e4 (List.mem_cons_of_mem _ (List.mem_cons_of_mem _ (List.mem_cons_of_mem _ (List.mem_cons_of_mem _ List.mem_cons_self)))), sr hc, fun H4 s4 => by
          have := q H4 (s13.trans s4)
          rwa [Bool.true_and] at this⟩
end
end Moot
/-! Portraits and members. -/
namespace Moot
open PySem PySem.Spec PyProof.Rows L2
structure PorT (K : PySem.W.Frag) (mg : Str → Option Value) (C : Addr) : Prop where
  cl : Cls K C
  re : NoAttr K C "requirement"
  vo : NoAttr K C "votes"
  ac : NoAttr K C "accepts"
  mgC : mg "Portrait" = some (.ref C)
structure MemT (K : PySem.W.Frag) (mg : Str → Option Value) (C : Addr) : Prop where
  cl : Cls K C
  na : NoAttr K C "name"
  ow : NoAttr K C "own"
  po : NoAttr K C "portraits"
  to : NoAttr K C "told"
  re : NoAttr K C "reasons"
  co : NoAttr K C "confirmed"
  mgC : mg "Member" = some (.ref C)
/-- a portrait with these dicts -/
def PorAt (C : Addr) (H : Hp) (p dv da : Addr) : Prop := ∃ dx fs, H p = some (.ins C dx fs) ∧ fs.lookup ("votes" : Str) = some (.ref dv) ∧ fs.lookup ("accepts" : Str) = some (.ref da)
theorem PorAt.go {C : Addr} {H H' : Hp} {p dv da : Addr} (h : PorAt C H p dv da) (k : ∀ C dx fs, H p = some (.ins C dx fs) → H' p = some (.ins C dx fs)) : PorAt C H' p dv da := let ⟨dx, fs, e, a, b⟩ := h; ⟨dx, fs, k _ _ _ e, a, b⟩
def memF : List Str := ["name", "own", "portraits", "told", "reasons", "confirmed"]
/-- a member that has done nothing: its votes in a dict of B, what it accepted in one of A -/
structure MemAt (CM CP : Addr) (A B : Addr → Prop) (H : Hp) (m : Addr) : Prop where
  ex : ∃ (dx : Addr) (fs : List (Str × V)) (p tl re dv da : Addr) (us : List V), H m = some (.ins CM dx fs) ∧ fs.lookup ("own" : Str) = some (.ref p) ∧ fs.lookup ("told" : Str) = some (.ref tl) ∧ fs.lookup ("reasons" : Str) = some (.ref re) ∧
    PorAt CP H p dv da ∧ H tl = some (.lst us) ∧ us.length ≤ 5 ∧ H re = some (.dK []) ∧ H dv = some (.dK []) ∧ H da = some (.dK []) ∧ A da ∧ A re ∧ B dv ∧ B tl ∧ ∀ f : Str, f ∉ memF → fs.lookup f = none
/-- a member that has accepted nothing -/
structure MemW (CM CP : Addr) (H : Hp) (m : Addr) : Prop where
  ex : ∃ (dx : Addr) (fs : List (Str × V)) (p dv da : Addr), H m = some (.ins CM dx fs) ∧ fs.lookup ("own" : Str) = some (.ref p) ∧ PorAt CP H p dv da ∧ H da = some (.dK [])
theorem MemAt.same {CM CP : Addr} {A B : Addr → Prop} {H H' : Hp} {m : Addr} (h : MemAt CM CP A B H m) (s : Same H H') : MemAt CM CP A B H' m := by
  obtain ⟨dx, fs, p, tl, re, dv, da, us, a1, a2, a3, a4, a5, a6, a7, a8, a9, b1, b2, b4, b3, b6, b5⟩ := h.ex
  exact ⟨dx, fs, p, tl, re, dv, da, us, s _ _ a1, a2, a3, a4, a5.go fun _ _ _ e => s _ _ e, s _ _ a6, a7, s _ _ a8, s _ _ a9, s _ _ b1, b2, b4, b3, b6, b5⟩
theorem MemAt.wide {CM CP : Addr} {A B A' B' : Addr → Prop} {H : Hp} {m : Addr} (h : MemAt CM CP A B H m) (a : ∀ x, A x → A' x) (b : ∀ x, B x → B' x) : MemAt CM CP A' B' H m := by
  obtain ⟨dx, fs, p, tl, re, dv, da, us, a1, a2, a3, a4, a5, a6, a7, a8, a9, b1, b2, b4, b3, b6, b5⟩ := h.ex
  exact ⟨dx, fs, p, tl, re, dv, da, us, a1, a2, a3, a4, a5, a6, a7, a8, a9, b1, a _ b2, a _ b4, b _ b3, b _ b6, b5⟩
theorem MemAt.w {CM CP : Addr} {A B : Addr → Prop} {H H' : Hp} {m : Addr} (h : MemAt CM CP A B H m) (ap : ∀ x, A x → ¬ B x) (k : ∀ a o, H a = some o → ¬ B a → H' a = some o) (no : ∀ a C dx fs, H a = some (.ins C dx fs) → ¬ B a) : MemW CM CP H' m := by
  obtain ⟨dx, fs, p, tl, re, dv, da, us, a1, a2, a3, a4, a5, a6, a7, a8, a9, b1, b2, b4, b3, b6, b5⟩ := h.ex
  exact ⟨dx, fs, p, dv, da, k _ _ a1 (no _ _ _ _ a1), a2, a5.go fun _ _ _ e => k _ _ e (no _ _ _ _ e), k _ _ b1 (ap _ b2)⟩
theorem MemAt.off {CM CP : Addr} {A B : Addr → Prop} {H : Hp} {m D : Addr} {kv : List (L2.Key × V)} {o : HO} (h : MemAt CM CP A B H m) (hD : H D = some (.dK kv)) (na : ¬ A D) (nb : ¬ B D) : MemAt CM CP A B (upd H D o) m := by
  obtain ⟨dx, fs, p, tl, re, dv, da, us, a1, a2, a3, a4, a5, a6, a7, a8, a9, b1, b2, b4, b3, b6, b5⟩ := h.ex
  have go : ∀ a u, H a = some u → (∀ kv, u ≠ .dK kv) → upd H D o a = some u := fun a u e no => by
    rw [upd_ne (fun z => by rw [z, hD] at e; exact no kv (Option.some.inj e).symm)]
    exact e
  have ne : ∀ a u, H a = some u → a ≠ D → upd H D o a = some u := fun a u e n => by
    rw [upd_ne n]
    exact e
  exact ⟨dx, fs, p, tl, re, dv, da, us, go _ _ a1 (fun _ z => by cases z), a2, a3, a4, a5.go fun _ _ _ e => go _ _ e (fun _ z => by cases z), go _ _ a6 (fun _ z => by cases z), a7, ne _ _ a8 (fun z => na (by rw [← z]; exact b4)), ne _ _ a9 (fun z => nb (by rw [← z]; exact b3)), ne _ _ b1 (fun z => na (by rw [← z]; exact b2)), b2, b4, b3, b6, b5⟩
theorem MemW.same {CM CP : Addr} {H H' : Hp} {m : Addr} (h : MemW CM CP H m) (s : Same H H') : MemW CM CP H' m := by
  obtain ⟨dx, fs, p, dv, da, a1, a2, a3, a4⟩ := h.ex
  exact ⟨dx, fs, p, dv, da, s _ _ a1, a2, a3.go fun _ _ _ e => s _ _ e, s _ _ a4⟩
section
variable {P : Program} {w : World} {K : PySem.W.Frag} {mg : Str → Option Value} {base : Heap}
/-! Portrait -/
abbrev sPi : Stmt := inClass (top 37) 0
theorem scPi : FnScope ["self", "requirement"] ["self", "requirement"] (defScope sPi) := ⟨rfl, rfl, rfl, by decide +kernel, rfl, by decide +kernel, by decide +kernel⟩
def spPi (C : Addr) : Sp := fun vs H Q _ => ∃ (p dx : Addr) (r : V), vs = [.ref p, r] ∧ H p = some (.ins C dx []) ∧ ∀ (dv da : Addr) (H' : Hp), PorAt C H' p dv da → H dv = none → H da = none → dv ≠ da → H' dv = some (.dK []) → H' da = some (.dK []) → But p H H' → Q .non H'
theorem ok_pori {f C : Addr} {fd : FuncData} {k : Nat} (F : Fun K "__init__" "Portrait.__init__" sPi f fd) (X : PorT K mg C) : FnOk P w K mg base CX0 (k + 1) f fd ["self", "requirement"] (spPi C) := by
  refine F.ok scPi (fun vs H Q E h => ?_) (fun cdv A outer s H vs Q E hr h => ?_)
  · obtain ⟨p, dx, r, rfl, _⟩ := h
    rfl
  · obtain ⟨p, dx, r, rfl, hp, q⟩ := h
    refine ⟨_, pss_cons (ps_fld (pv 0) (pv 1) rfl) (pss_cons (ps_fld (pv 0) pe_dnewK rfl) (pss_one (ps_fld (pv 0) pe_dnewK rfl))), ?_⟩
    refine ⟨r, rfl, .ref p, rfl, p, C, dx, [], rfl, hp, X.cl, X.re, by decide, fun dv ndv => ?_⟩
    have dvp : dv ≠ p := fun z => by rw [z, upd_same] at ndv; cases ndv
    rw [upd_ne dvp] at ndv
    refine ⟨.ref p, rfl, p, C, dx, putF "requirement" r [], rfl, ?_, X.cl, X.vo, Nat.lt_of_le_of_lt (length_putF _ _ _) (by decide), fun da nda => ?_⟩
    · rw [upd_ne dvp.symm]
      exact upd_same
    have dap : da ≠ p := fun z => by rw [z, upd_same] at nda; cases nda
    rw [upd_ne dap] at nda
    have dad : da ≠ dv := fun z => by rw [z, upd_same] at nda; cases nda
    rw [upd_ne dad, upd_ne dap] at nda
    refine ⟨.ref p, rfl, p, C, dx, putF "votes" (.ref dv) (putF "requirement" r []), rfl, ?_, X.cl, X.ac, Nat.lt_of_le_of_lt (length_putF _ _ _) (Nat.lt_of_le_of_lt (Nat.succ_le_succ (length_putF _ _ _)) (by decide)), ?_⟩
    · rw [upd_ne dap.symm]
      exact upd_same
    refine q dv da _ ⟨dx, _, upd_same, ?_, ?_⟩ ndv nda dad.symm ?_ ?_ fun a o e na => ?_
    · rw [lookup_putF, if_neg (by decide +kernel), lookup_putF, if_pos rfl]
    · rw [lookup_putF, if_pos rfl]
    · rw [upd_ne dvp, upd_ne dad.symm, upd_ne dvp]
      exact upd_same
    · rw [upd_ne dap]
      exact upd_same
    · rw [upd_ne na, upd_ne (ne_of_none e nda), upd_ne na, upd_ne (ne_of_none e ndv), upd_ne na]
      exact e
end
end Moot
/-! A member made, asked, and its vote. -/
namespace Moot
open PySem PySem.Spec PyProof.Rows L2
/-- while a member is made -/
structure MS (CP : Addr) (H Hx : Hp) (m p dv da : Addr) : Prop where
  but : But m H Hx
  por : PorAt CP Hx p dv da
  hv : Hx dv = some (.dK [])
  ha : Hx da = some (.dK [])
  pm : p ≠ m
  vm : dv ≠ m
  am : da ≠ m
theorem MS.step {CP : Addr} {H Hx : Hp} {m p dv da q : Addr} {o u : HO} (h : MS CP H Hx m p dv da) (nq : Hx q = none) : MS CP H (upd (upd Hx q o) m u) m p dv da := by
  have go : ∀ a x, Hx a = some x → a ≠ m → upd (upd Hx q o) m u a = some x := fun a x e n => by
    rw [upd_ne n, upd_ne (ne_of_none e nq)]
    exact e
  exact ⟨fun a x e n => go a x (h.but a x e n) n, h.por.go fun _ _ _ e => go _ _ e h.pm, go _ _ h.hv h.vm, go _ _ h.ha h.am, h.pm, h.vm, h.am⟩
theorem MS.set {CP : Addr} {H Hx : Hp} {m p dv da : Addr} {u : HO} (h : MS CP H Hx m p dv da) : MS CP H (upd Hx m u) m p dv da := by
  have go : ∀ a x, Hx a = some x → a ≠ m → upd Hx m u a = some x := fun a x e n => by
    rw [upd_ne n]
    exact e
  exact ⟨fun a x e n => go a x (h.but a x e n) n, h.por.go fun _ _ _ e => go _ _ e h.pm, go _ _ h.hv h.vm, go _ _ h.ha h.am, h.pm, h.vm, h.am⟩
section
variable {P : Program} {w : World} {K : PySem.W.Frag} {mg : Str → Option Value} {base : Heap}
/-! Member -/
abbrev sMi : Stmt := inClass (top 38) 0
abbrev pMi : List Str := ["self", "name", "requirement"]
theorem scMi : FnScope pMi pMi (defScope sMi) := ⟨rfl, rfl, rfl, by decide +kernel, rfl, by decide +kernel, by decide +kernel⟩
def spMi (CM CP : Addr) : Sp := fun vs H Q _ => ∃ (m dx : Addr) (n : Str) (r : V), vs = [.ref m, .str n, r] ∧ H m = some (.ins CM dx []) ∧ ∀ (A B : Addr → Prop) (H' : Hp), MemAt CM CP A B H' m → (∀ x, A x → ¬ B x) → (∀ x, A x ∨ B x → H x = none ∧ ∃ o, H' x = some o) → (∀ x, B x → H' x = some (.dK []) ∨ ∃ us, H' x = some (.lst us)) → But m H H' → Q .non H'
theorem ok_memi {f f1 CM CP : Addr} {fd fd1 : FuncData} {k : Nat} (F : Fun K "__init__" "Member.__init__" sMi f fd) (X : MemT K mg CM) (XP : PorT K mg CP)
    (MP : Mk K CP f1) (b1 : Binds K fd1 ["self", "requirement"] []) (G1 : FnOk P w K mg base CX0 k f1 fd1 ["self", "requirement"] (spPi CP)) : FnOk P w K mg base CX0 (k + 1 + 1) f fd pMi (spMi CM CP) := by
  refine F.ok scMi (fun vs H Q E h => ?_) (fun cdv A outer s H vs Q E hr h => ?_)
  · obtain ⟨m, dx, n, r, rfl, _⟩ := h
    rfl
  · obtain ⟨m, dx, n, r, rfl, hm, q⟩ := h
    refine ⟨_, pss_cons (ps_fld (pv 0) (pv 1) rfl)
      (pss_cons (ps_fld (pv 0) (pe_make MP G1 hr (by rfl) XP.mgC b1 .nil pass0 (pa_cons (pv 2) pa_nil)) rfl)
      (pss_cons (ps_fld (pv 0) (pe_disp (pps_cons (pv 1) (pe_fld (pv 0) rfl) pps_nil) rfl rfl (by simp) (by decide)) rfl)
      (pss_cons (ps_fld (pv 0) (pe_lst pa_nil) rfl)
      (pss_cons (ps_fld (pv 0) pe_dnewK rfl)
      (pss_one (ps_fld (pv 0) pe_dnewK rfl)))))), ?_⟩
    have ln : ∀ (f : Str) (v : V) (fs : List (Str × V)), fs.length < 100 → (putF f v fs).length < 101 := fun f v fs h => Nat.lt_of_le_of_lt (length_putF _ _ _) (by omega)
    refine ⟨.str n, rfl, .ref m, rfl, m, CM, dx, [], rfl, hm, X.cl, X.na, by decide, r, rfl, ?_⟩
    intro p dxp np ndxp nx
    obtain ⟨f1, ef1⟩ : ∃ f1, f1 = putF "name" (.str n) [] := ⟨_, rfl⟩
    have l1 : f1.length ≤ 1 := by rw [ef1]; exact length_putF _ _ _
    rw [← ef1] at np ndxp ⊢
    have hm1 : upd H m (.ins CM dx f1) m = some (.ins CM dx f1) := upd_same
    have but1 : But m H (upd H m (.ins CM dx f1)) := fun a o e na => by
      rw [upd_ne na]
      exact e
    have back : ∀ a, a ≠ m → upd H m (.ins CM dx f1) a = none → H a = none := fun a na e => by
      rw [upd_ne na] at e
      exact e
    generalize upd H m (.ins CM dx f1) = H1 at np ndxp hm1 but1 back ⊢
    have pm : p ≠ m := fun z => by rw [z, hm1] at np; cases np
    have s2 : Same H1 (upd (upd H1 dxp (.own p)) p (.ins CP dxp [])) := (same_new ndxp).trans (same_new (by rw [upd_ne nx.symm]; exact np))
    refine ⟨p, dxp, r, rfl, upd_same, fun dv da H3 por ndv nda ne hdv hda bt => ⟨rfl, ?_⟩⟩
    have b13 : ∀ a o, H1 a = some o → H3 a = some o := fun a o e => bt a o (s2 _ _ e) (ne_of_none e np)
    have hm3 := b13 _ _ hm1
    have ndv1 := s2.free ndv
    have nda1 := s2.free nda
    have vm : dv ≠ m := fun z => by rw [z, hm1] at ndv1; cases ndv1
    have am : da ≠ m := fun z => by rw [z, hm1] at nda1; cases nda1
    have M3 : MS CP H H3 m p dv da := ⟨fun a o e na => b13 _ _ (but1 a o e na), por, hdv, hda, pm, vm, am⟩
    have ndvH := back _ vm ndv1
    have ndaH := back _ am nda1
    clear bt s2 b13 but1 por hdv hda ndv nda
    -- own
    obtain ⟨f2, ef2⟩ : ∃ f2, f2 = putF "own" (.ref p) f1 := ⟨_, rfl⟩
    have l2 : f2.length ≤ 2 := by rw [ef2]; exact Nat.le_trans (length_putF _ _ _) (by omega)
    refine ⟨.ref m, rfl, m, CM, dx, f1, rfl, hm3, X.cl, X.ow, by omega, ?_⟩
    rw [← ef2]
    have M4 : MS CP H (upd H3 m (.ins CM dx f2)) m p dv da := M3.set
    have hm4 : upd H3 m (.ins CM dx f2) m = some (.ins CM dx f2) := upd_same
    generalize upd H3 m (.ins CM dx f2) = H4 at M4 hm4 ⊢
    -- portraits
    intro D nD
    have mD : m ≠ D := ne_of_none hm4 nD
    obtain ⟨f3, ef3⟩ : ∃ f3, f3 = putF "portraits" (.ref D) f2 := ⟨_, rfl⟩
    have l3 : f3.length ≤ 3 := by rw [ef3]; exact Nat.le_trans (length_putF _ _ _) (by omega)
    refine ⟨.str n, rfl, .ref m, rfl, m, CM, dx, f2, .ref p, rfl, ?_, X.cl, X.ow, ?_, upd_same, [(Sum.inr n, .ref p)], rfl, (show 1 ≤ 15 by decide), .ref m, rfl, m, CM, dx, f2, rfl, ?_, X.cl, X.po, by omega, ?_⟩
    · rw [upd_ne mD]
      exact hm4
    · rw [ef2, lookup_putF, if_pos rfl]
    · rw [upd_ne mD, upd_ne mD]
      exact hm4
    rw [← ef3, upd_upd]
    obtain ⟨o5, eo5⟩ : ∃ o5, o5 = HO.dK (mergeK [] [(Sum.inr n, V.ref p)]) := ⟨_, rfl⟩
    rw [← eo5]
    have M5 : MS CP H (upd (upd H4 D o5) m (.ins CM dx f3)) m p dv da := M4.step nD
    have hm5 : upd (upd H4 D o5) m (.ins CM dx f3) m = some (.ins CM dx f3) := upd_same
    generalize upd (upd H4 D o5) m (.ins CM dx f3) = H5 at M5 hm5 ⊢
    -- told
    refine ⟨Nat.zero_le _, fun tl ntl => ?_⟩
    have mt : m ≠ tl := ne_of_none hm5 ntl
    obtain ⟨f4, ef4⟩ : ∃ f4, f4 = putF "told" (.ref tl) f3 := ⟨_, rfl⟩
    have l4 : f4.length ≤ 4 := by rw [ef4]; exact Nat.le_trans (length_putF _ _ _) (by omega)
    refine ⟨.ref m, rfl, m, CM, dx, f3, rfl, ?_, X.cl, X.to, by omega, ?_⟩
    · rw [upd_ne mt]
      exact hm5
    rw [← ef4]
    have M6 : MS CP H (upd (upd H5 tl (.lst [])) m (.ins CM dx f4)) m p dv da := M5.step ntl
    have hm6 : upd (upd H5 tl (.lst [])) m (.ins CM dx f4) m = some (.ins CM dx f4) := upd_same
    have ht6 : upd (upd H5 tl (.lst [])) m (.ins CM dx f4) tl = some (.lst []) := by
      rw [upd_ne mt.symm]
      exact upd_same
    generalize upd (upd H5 tl (.lst [])) m (.ins CM dx f4) = H6 at M6 hm6 ht6 ⊢
    -- reasons
    intro re nre
    have mr : m ≠ re := ne_of_none hm6 nre
    obtain ⟨f5, ef5⟩ : ∃ f5, f5 = putF "reasons" (.ref re) f4 := ⟨_, rfl⟩
    have l5 : f5.length ≤ 5 := by rw [ef5]; exact Nat.le_trans (length_putF _ _ _) (by omega)
    refine ⟨.ref m, rfl, m, CM, dx, f4, rfl, ?_, X.cl, X.re, by omega, ?_⟩
    · rw [upd_ne mr]
      exact hm6
    rw [← ef5]
    have M7 : MS CP H (upd (upd H6 re (.dK [])) m (.ins CM dx f5)) m p dv da := M6.step nre
    have hm7 : upd (upd H6 re (.dK [])) m (.ins CM dx f5) m = some (.ins CM dx f5) := upd_same
    have ht7 : upd (upd H6 re (.dK [])) m (.ins CM dx f5) tl = some (.lst []) := by
      rw [upd_ne mt.symm, upd_ne (ne_of_none ht6 nre)]
      exact ht6
    have hr7 : upd (upd H6 re (.dK [])) m (.ins CM dx f5) re = some (.dK []) := by
      rw [upd_ne mr.symm]
      exact upd_same
    generalize upd (upd H6 re (.dK [])) m (.ins CM dx f5) = H7 at M7 hm7 ht7 hr7 ⊢
    -- confirmed
    intro co nco
    have mc : m ≠ co := ne_of_none hm7 nco
    obtain ⟨f6, ef6⟩ : ∃ f6, f6 = putF "confirmed" (.ref co) f5 := ⟨_, rfl⟩
    refine ⟨.ref m, rfl, m, CM, dx, f5, rfl, ?_, X.cl, X.co, by omega, ?_⟩
    · rw [upd_ne mc]
      exact hm7
    rw [← ef6]
    have M8 : MS CP H (upd (upd H7 co (.dK [])) m (.ins CM dx f6)) m p dv da := M7.step nco
    have reH : H re = none := by
      cases e : H re with
      | none => rfl
      | some o =>
        have := M6.but re o e mr.symm
        rw [nre] at this
        cases this
    have rv : re ≠ dv := fun z => by rw [z, M6.hv] at nre; cases nre
    have hr8 : upd (upd H7 co (.dK [])) m (.ins CM dx f6) re = some (.dK []) := by
      rw [upd_ne mr.symm, upd_ne (ne_of_none hr7 nco)]
      exact hr7
    have tlH : H tl = none := by
      cases e : H tl with
      | none => rfl
      | some o =>
        have := M5.but tl o e mt.symm
        rw [ntl] at this
        cases this
    have ht8 : upd (upd H7 co (.dK [])) m (.ins CM dx f6) tl = some (.lst []) := by
      rw [upd_ne mt.symm, upd_ne (ne_of_none ht7 nco)]
      exact ht7
    have da8 := M8.ha
    have dv8 := M8.hv
    refine q (fun a => a = da ∨ a = re) (fun a => a = dv ∨ a = tl) _ ⟨dx, f6, p, tl, re, dv, da, [], upd_same, ?_, ?_, ?_, M8.por, ht8, by decide, hr8, M8.hv, M8.ha, .inl rfl, .inr rfl, .inl rfl, .inr rfl, fun f hf => ?_⟩ (fun x h e => ?_) (fun x h => ?_) (fun x h => ?_) M8.but
    · rw [ef6, ef5, ef4, ef3, ef2, lookup_putF, if_neg (by decide +kernel), lookup_putF, if_neg (by decide +kernel), lookup_putF, if_neg (by decide +kernel), lookup_putF, if_neg (by decide +kernel), lookup_putF, if_pos rfl]
    · rw [ef6, ef5, ef4, lookup_putF, if_neg (by decide +kernel), lookup_putF, if_neg (by decide +kernel), lookup_putF, if_pos rfl]
    · rw [ef6, ef5, lookup_putF, if_neg (by decide +kernel), lookup_putF, if_pos rfl]
    · have nf : ∀ g ∈ memF, f ≠ g := fun g mg e => hf (e ▸ mg)
      rw [ef6, ef5, ef4, ef3, ef2, ef1, lookup_putF, if_neg (nf _ (by decide +kernel)), lookup_putF, if_neg (nf _ (by decide +kernel)), lookup_putF, if_neg (nf _ (by decide +kernel)), lookup_putF, if_neg (nf _ (by decide +kernel)), lookup_putF, if_neg (nf _ (by decide +kernel)), lookup_putF, if_neg (nf _ (by decide +kernel))]
      rfl
    · have z : upd (upd H7 co (.dK [])) m (.ins CM dx f6) x = some (.dK []) := by
        rcases h with h | h <;> rw [h]
        · exact da8
        · exact hr8
      rcases e with e | e
      · rcases h with h | h
        · exact ne (e.symm.trans h)
        · exact rv (h.symm.trans e)
      · rw [e, ht8] at z
        cases z
    · rcases h with (h | h) | (h | h)
      · rw [h]
        exact ⟨ndaH, _, da8⟩
      · rw [h]
        exact ⟨reH, _, hr8⟩
      · rw [h]
        exact ⟨ndvH, _, dv8⟩
      · rw [h]
        exact ⟨tlH, _, ht8⟩
    · rcases h with h | h
      · rw [h]
        exact .inl dv8
      · rw [h]
        exact .inr ⟨_, ht8⟩
end
end Moot
/-! What a fresh member says, and its vote. -/
namespace Moot
open PySem PySem.Spec PyProof.Rows L2
theorem SqT.go {K : PySem.W.Frag} {H H' : Hp} {a : Addr} {xs : List V} (h : SqT K H a xs) (s : Same H H') : SqT K H' a xs := h.imp (fun r => r.imp (fun e => s _ _ e) fun ⟨o, e⟩ => ⟨o, s _ _ e⟩) id
mutual
theorem Dp.go {K : PySem.W.Frag} {H H' : Hp} (s : Same H H') : ∀ (d : PyData) (v : V), Dp K H v d → Dp K H' v d
  | .none, _, h => by cases h; exact .non
  | .bool _, _, h => by cases h; exact .bl _
  | .int _, _, h => by cases h; exact .int _
  | .str _, _, h => by cases h; exact .str _
  | .list ds, _, h => by
    cases h with
    | lst h1 h2 => exact .lst (Same.seq s h1) (DpAll.go s ds _ h2)
  | .tuple ds, _, h => by
    cases h with
    | tup h1 h2 => exact .tup (SqT.go h1 s) (DpAll.go s ds _ h2)
  | .dict _, _, h => by cases h
theorem DpAll.go {K : PySem.W.Frag} {H H' : Hp} (s : Same H H') : ∀ (ds : List PyData) (xs : List V), DpAll K H xs ds → DpAll K H' xs ds
  | [], _, h => by cases h; exact .nil
  | d :: ds, _, h => by
    cases h with
    | cons a b => exact .cons (Dp.go s d _ a) (DpAll.go s ds _ b)
end
/-- data of a ballot or a statement, as a key -/
def KeyD (d : PyData) : Prop := ∃ k, nkD d = some k ∧ k.depth ≤ 6
theorem nk_pair {d e : PyData} {k l : NestedKey} (h1 : nkD d = some k) (h2 : nkD e = some l) : nkD (.tuple [d, e]) = some (.tup [k, l]) := by
  show (nksD [d, e]).map NestedKey.tup = _
  have e1 : nksD [d, e] = some [k, l] := by
    show ((nkD d).bind fun k => ((nkD e).bind fun k => (some ([] : List NestedKey)).map fun ks => k :: ks).map fun ks => k :: ks) = _
    rw [h1, h2]
    rfl
  rw [e1]
  rfl
theorem dep_pair {k l : NestedKey} (h1 : k.depth ≤ 6) (h2 : l.depth ≤ 6) : (NestedKey.tup [k, l]).depth ≤ 7 := by
  show max k.depth (max l.depth 0) + 1 ≤ 7
  omega
section
variable {P : Program} {w : World} {K : PySem.W.Frag} {mg : Str → Option Value} {base : Heap}
/-! has_voted -/
abbrev sHv : Stmt := inClass (top 38) 2
theorem scHv : FnScope ["self", "ballot", "answer"] ["self", "ballot"] (defScope sHv) := ⟨rfl, rfl, rfl, by decide +kernel, rfl, by decide +kernel, by decide +kernel⟩
def spHv (K : PySem.W.Frag) (CM CP : Addr) : Sp := fun vs H Q _ => ∃ (m a : Addr) (A B : Addr → Prop) (d : PyData), vs = [.ref m, .ref a] ∧ MemAt CM CP A B H m ∧ Dp K H (.ref a) d ∧ KeyD d ∧ ∀ H', Same H H' → Q (.bl false) H'
theorem ok_hasv {f aA CM CP : Addr} {fd : FuncData} {k : Nat} (F : Fun K "has_voted" "Member.has_voted" sHv f fd) (T : Bq mg) (TN : Bn mg) (X : MemT K mg CM) (XP : PorT K mg CP) (mA : mg "ANSWERS" = some (.ref aA)) (hA : ∀ H, SqT K H aA (anS.map V.str)) : FnOk P w K mg base CX0 (k + 1) f fd ["self", "ballot"] (spHv K CM CP) := by
  refine F.ok scHv (fun vs H Q E h => ?_) (fun cdv A' outer s H vs Q E hr h => ?_)
  · obtain ⟨m, a, A, B, d, rfl, _⟩ := h
    rfl
  · obtain ⟨m, a, A, B, d, rfl, M, hd, ⟨kb, nk, dk⟩, q⟩ := h
    refine ⟨_, pss_one (ps_ret (pe_callB (cr_any rfl) (by rfl) TN.any (by decide +kernel) (pa_cons (pe_lc (own := [("answer", 2)]) (g := gName 2) (tt := tYes) (by rfl) scHv.nd (pi_tup (pe_glob (v := .ref aA) (by rfl) mA rfl)) (blkOk_by (N := ["self", "ballot", "answer"]) (sc := defScope sHv) (by decide +kernel))
          (fun _ _ _ _ _ => pg_name (i := 2) scHv.nd rfl (Or.inl rfl)) (fun _ _ _ _ _ => pts_nil) (fun _ _ _ _ _ => pe_cmpR (ta := tTup (tCons (tVar 1) (tCons (tVar 2) tNil))) (tb := tFld K (tFld K (tVar 0) "own") "votes") (show OpR _ (compareOp .In) (rInE K false) from op_inE hr.units) (pe_tup (pa_cons (pv 1) (pa_cons (pv 2) pa_nil))) (pe_fld (pe_fld (pv 0) (by rfl)) (by rfl)) (by rfl))) pa_nil))), ?_⟩
    obtain ⟨dx, fs, p, tl, re, dv, da, us, m1, m2, m3, m4, ⟨dp, gs, p1, p2, p3⟩, m6, m7, m8, m9, n1, n2, n4, n3, n6, n5⟩ := M.ex
    refine ⟨aA, rfl, ⟨_, hA H⟩, fun D nD => lc_tup (K := K) (a := aA) (xs := anS.map V.str) (fun j H1 => Same H H1 ∧ H1 D = some (.lst ((List.replicate j false).map V.bl))) ⟨same_new nD, upd_same⟩ (fun j H1 _ h => hA H1) ?_ ?_⟩
    · rintro j y H1 hy ⟨s1, hD⟩
      rw [List.getElem?_map] at hy
      obtain ⟨z, hz, rfl⟩ := Option.map_eq_some_iff.mp hy
      have j2 : j < 2 := (List.getElem?_eq_some_iff.mp hz).1
      refine ⟨rfl, .ref a, rfl, .str z, rfl, by show 2 ≤ sizeLine; decide, fun t nt => ?_⟩
      have s2 := s1.trans (same_new (o := .tup [.ref a, .str z]) nt)
      have ht : (upd H1 t (.tup [.ref a, .str z])) t = some (.tup [.ref a, .str z]) := upd_same
      have hD2 := same_new (o := .tup [.ref a, .str z]) nt _ _ hD
      generalize upd H1 t (.tup [.ref a, .str z]) = H2 at s2 ht hD2 ⊢
      refine ⟨.ref m, rfl, m, CM, dx, fs, .ref p, rfl, s2 _ _ m1, X.cl, X.ow, m2, p, CP, dp, gs, .ref dv, rfl, s2 _ _ p1, XP.cl, XP.vo, p2, t, dv, .tuple [d, .str z], .tup [kb, .text z], rfl, rfl, .tup (SqT.of ht) (.cons (Dp.go s2 _ _ hd) (.cons (.str z) .nil)), nk_pair nk rfl, Nat.le_trans (dep_pair dk (by show 0 ≤ 6; omega)) (by decide), .inl (s2 _ _ m9), ?_⟩
      refine ⟨_, hD2, ?_, fun a o e => ?_, ?_⟩
      · rw [List.length_map, List.length_replicate]
        exact small1000 (by omega)
      · rw [upd_ne (ne_of_none e nD)]
        exact s2 a o e
      · rw [upd_same, List.replicate_succ', List.map_append]
        rfl
    · rintro H1 ⟨s1, hD⟩
      refine ⟨D, _, rfl, SqL.of hD, ?_⟩
      exact q H1 s1
/-! has_accepted -/
abbrev sHa : Stmt := inClass (top 38) 3
theorem scHa : FnScope ["self", "ballot"] ["self", "ballot"] (defScope sHa) := ⟨rfl, rfl, rfl, by decide +kernel, rfl, by decide +kernel, by decide +kernel⟩
theorem ok_hasa {f CM CP : Addr} {fd : FuncData} {k : Nat} (F : Fun K "has_accepted" "Member.has_accepted" sHa f fd) (X : MemT K mg CM) : FnOk P w K mg base CX0 (k + 1) f fd ["self", "ballot"] (spHv K CM CP) := by
  refine F.ok scHa (fun vs H Q E h => ?_) (fun cdv A' outer s H vs Q E hr h => ?_)
  · obtain ⟨m, a, A, B, d, rfl, _⟩ := h
    rfl
  · obtain ⟨m, a, A, B, d, rfl, M, hd, ⟨kb, nk, dk⟩, q⟩ := h
    refine ⟨_, pss_one (ps_ret (pe_cmpR (op_inE hr.units) (pv 1) (pe_fld (pv 0) rfl) (by rfl))), ?_⟩
    obtain ⟨dx, fs, p, tl, re, dv, da, us, m1, m2, m3, m4, m5, m6, m7, m8, m9, n1, n2, n4, n3, n6, n5⟩ := M.ex
    exact ⟨.ref a, rfl, .ref m, rfl, m, CM, dx, fs, .ref re, rfl, m1, X.cl, X.re, m4, a, re, d, kb, rfl, rfl, hd, nk, Nat.le_trans dk (by decide), .inl m8, q H (Same.refl _)⟩
/-! cast_vote -/
abbrev sCv : Stmt := inClass (top 38) 4
theorem scCv : FnScope ["self", "statement"] ["self", "statement"] (defScope sCv) := ⟨rfl, rfl, rfl, by decide +kernel, rfl, by decide +kernel, by decide +kernel⟩
def spCv (K : PySem.W.Frag) (CM CP : Addr) : Sp := fun vs H Q _ => ∃ (m a : Addr) (A B : Addr → Prop) (d : PyData), vs = [.ref m, .ref a] ∧ MemAt CM CP A B H m ∧ (∀ x, A x → ¬ B x) ∧ Dp K H (.ref a) d ∧ (∃ k, nkD d = some k ∧ k.depth ≤ 8) ∧ ∀ H', (∀ x o, H x = some o → ¬ B x → H' x = some o) → Q .non H'
theorem ok_cast {f CM CP : Addr} {fd : FuncData} {k : Nat} (F : Fun K "cast_vote" "Member.cast_vote" sCv f fd) (X : MemT K mg CM) (XP : PorT K mg CP) : FnOk P w K mg base CX0 (k + 1) f fd ["self", "statement"] (spCv K CM CP) := by
  refine F.ok scCv (fun vs H Q E h => ?_) (fun cdv A' outer s H vs Q E hr h => ?_)
  · obtain ⟨m, a, A, B, d, rfl, _⟩ := h
    rfl
  · obtain ⟨m, a, A, B, d, rfl, M, ap, hd, ⟨kb, nk, dk⟩, q⟩ := h
    refine ⟨_, pss_cons (ps_asg pe_bl (pg_sub (pe_fld (pe_fld (pv 0) rfl) rfl) (pv 1) (set_dictE hr.units)))
      (pss_one (ps_expr (pe_bm PySem.F.plainAttrs_list PySem.F.slot_list_append PySem.F.type_list_append mt_append (pe_fld (pv 0) rfl) (pa_cons (pe_tup (pa_cons pe_str (pa_cons (pv 1) pa_nil))) pa_nil)))), ?_⟩
    obtain ⟨dx, fs, p, tl, re, dv, da, us, m1, m2, m3, m4, ⟨dp, gs, p1, p2, p3⟩, m6, m7, m8, m9, n1, n2, n4, n3, n6, n5⟩ := M.ex
    refine ⟨.ref m, rfl, m, CM, dx, fs, .ref p, rfl, m1, X.cl, X.ow, m2, p, CP, dp, gs, .ref dv, rfl, p1, XP.cl, XP.vo, p2, .ref a, rfl, a, dv, d, kb, rfl, rfl, hd, nk, dk, .inl m9, ?_⟩
    have nv : ∀ x o, H x = some o → o ≠ .dK [] → x ≠ dv := fun x o e no z => by
      rw [z, m9] at e
      exact no (Option.some.inj e).symm
    have m1' : upd H dv Any m = some (.ins CM dx fs) := by rw [upd_ne (nv _ _ m1 (fun z => by cases z))]; exact m1
    have t1' : upd H dv Any tl = some (.lst us) := by rw [upd_ne (nv _ _ m6 (fun z => by cases z))]; exact m6
    have keep : ∀ x o, H x = some o → ¬ B x → upd H dv Any x = some o := fun x o e nb => by
      rw [upd_ne (fun z => nb (by rw [z]; exact n3))]
      exact e
    generalize upd H dv Any = H1 at m1' t1' keep ⊢
    refine ⟨.ref m, rfl, m, CM, dx, fs, .ref tl, rfl, m1', X.cl, X.to, m3, .inl ⟨rfl, _, SqL.of t1'⟩, .ref a, rfl, by show 2 ≤ sizeLine; decide, fun t nt => ?_⟩
    have s2 := same_new (o := .tup [.str "voted", .ref a]) nt
    refine ⟨tl, us, _, rfl, rfl, s2 _ _ t1', Nat.lt_of_le_of_lt m7 (by decide), ?_⟩
    refine q _ fun x o e nb => ?_
    rw [upd_ne (fun z => nb (by rw [z]; exact n6))]
    exact s2 _ _ (keep x o e nb)
end
end Moot
/-! The honest members, one of them votes or confirms. -/
namespace Moot
open PySem PySem.Spec PyProof.Rows L2
/-- the honest members, by their names -/
structure Mems (CM CP : Addr) (A B : Addr → Prop) (H : Hp) (ms : Rws) : Prop where
  at_ : ∀ q ∈ ms, MemAt CM CP A B H q.2
  apart : ∀ x, A x → ¬ B x
  kind : ∀ x, B x → H x = some (.dK []) ∨ ∃ us, H x = some (.lst us)
theorem Mems.same {CM CP : Addr} {A B : Addr → Prop} {H H' : Hp} {ms : Rws} (h : Mems CM CP A B H ms) (s : Same H H') : Mems CM CP A B H' ms := ⟨fun q m => (h.at_ q m).same s, h.apart, fun x b => (h.kind x b).imp (s _ _) fun ⟨us, e⟩ => ⟨us, s _ _ e⟩⟩
/-- members that have accepted nothing -/
def MemsW (CM CP : Addr) (H : Hp) (ms : Rws) : Prop := ∀ q ∈ ms, MemW CM CP H q.2
theorem Mems.w {CM CP : Addr} {A B : Addr → Prop} {H H' : Hp} {ms : Rws} (h : Mems CM CP A B H ms) (k : ∀ a o, H a = some o → ¬ B a → H' a = some o) : MemsW CM CP H' ms := fun q m =>
  (h.at_ q m).w h.apart k fun a C dx fs e b => by
    rcases h.kind a b with z | ⟨us, z⟩ <;> (rw [z] at e; cases e)
section
variable {P : Program} {w : World} {K : PySem.W.Frag} {mg : Str → Option Value} {base : Heap}
/-! honest_members -/
abbrev sHm : Stmt := top 39
abbrev nHm : List Str := ["network", "faulty", "honest", "name"]
theorem scHm : FnScope nHm ["network", "faulty"] (defScope sHm) := ⟨rfl, rfl, rfl, by decide +kernel, rfl, by decide +kernel, by decide +kernel⟩
def spHm (K : PySem.W.Frag) (C CM CP : Addr) : Sp := fun vs H Q _ => ∃ (net Dn e : Addr) (c : Rq) (xs : List Str) (rs : Rws) (Fs : List Str), vs = [.ref net, .ref e] ∧ NetAt C H net Dn c xs rs ∧ NodesAt K H e Fs ∧
  ∀ (M : Addr) (ms : Rws) (A B : Addr → Prop) (H' : Hp), H' M = some (.dK (kvs ms)) → ms.map (·.1) = (rs.map (·.1)).filter (fun x => decide (x ∉ Fs)) → Mems CM CP A B H' ms → ¬ B M → (∀ x, B x → H x = none) → Same H H' → Q (.ref M) H'
theorem ok_hm {f f1 f2 f3 f4 C CM CP : Addr} {fd fd1 fd2 fd3 fd4 : FuncData} {k : Nat} (F : Fun K "honest_members" "honest_members" sHm f fd) (T : Bq mg) (X : Txt K mg C) (XM : MemT K mg CM)
    (M1 : Meth K C "node_names" f1) (b1 : Binds K fd1 ["self"] []) (G1 : FnOk P w K mg base CX0 (k + 1) f1 fd1 ["self"] (spNn C))
    (F2 : Fun K "names_outside" "names_outside" sOut f2 fd2) (b2 : Binds K fd2 ["names", "excluded"] []) (g2 : mg "names_outside" = some (.ref f2)) (G2 : FnOk P w K mg base CX0 (k + 1) f2 fd2 ["names", "excluded"] (spOut K))
    (M3 : Meth K C "requirement_of" f3) (b3 : Binds K fd3 ["self", "name"] []) (G3 : FnOk P w K mg base CX0 (k + 1) f3 fd3 ["self", "name"] (spRo C))
    (MM : Mk K CM f4) (b4 : Binds K fd4 pMi []) (G4 : FnOk P w K mg base CX0 k f4 fd4 pMi (spMi CM CP)) : FnOk P w K mg base CX0 (k + 1 + 1) f fd ["network", "faulty"] (spHm K C CM CP) := by
  refine F.ok scHm (fun vs H Q E h => ?_) (fun cdv A' outer s H vs Q E hr h => ?_)
  · obtain ⟨net, Dn, e, c, xs, rs, Fs, rfl, _⟩ := h
    rfl
  · obtain ⟨net, Dn, e, c, xs, rs, Fs, rfl, N, he, q⟩ := h
    refine ⟨_, pss_cons (ps_set (i := 2) scHm.nd rfl (Or.inl rfl) (pe_call G2 hr (by rfl) g2 F2.kp b2 .nil pass0 (pa_cons (pe_meth0 (pv 0) X.cl M1 G1 hr b1 .nil pass0) (pa_cons (pv 1) pa_nil))))
      (pss_one (ps_ret (pe_dc (own := [("name", 3)]) (g := gName 3) (tt := tYes) (by rfl) scHm.nd (pi_tup (pv 2)) (blkOk_by (N := nHm) (sc := defScope sHm) (by decide +kernel))
        (fun _ _ _ _ _ => pg_name (i := 3) scHm.nd rfl (Or.inl rfl)) (fun _ _ _ _ _ => pts_nil) (fun _ _ _ _ _ => pv 3) (fun _ _ _ _ _ => pe_make MM G4 hr (by rfl) XM.mgC b4 .nil pass0 (pa_cons (pv 3) (pa_cons (pe_meth (pv 0) X.cl M3 G3 hr b3 .nil pass0 (pa_cons (pv 3) pa_nil)) pa_nil)))))), ?_⟩
    obtain ⟨dx, hn⟩ := N.ob
    have flen := N.fit.len
    have few := N.fit.few
    have knd : (rs.map (·.1)).Nodup := N.fit.keys.nodup_iff.mpr N.fit.nd
    have rl : (rs.map (·.1)).length ≤ 8 := by rw [List.length_map]; omega
    refine ⟨.ref net, rfl, net, dx, _, rfl, hn, fld_no Dn (by decide +kernel), net, Dn, c, xs, rs, rfl, N, fun p1 H1 s1 np1 hp1 => ?_⟩
    refine ⟨.ref e, rfl, p1, e, rs.map (·.1), Fs, rfl, hp1, he.imp (fun z => Same.seq s1 z) (fun z => SqT.go z s1), by omega, fun p2 H2 s2 np2 hp2 => ?_⟩
    obtain ⟨hs, ehs⟩ : ∃ hs, hs = (rs.map (·.1)).filter fun x => decide (x ∉ Fs) := ⟨_, rfl⟩
    rw [← ehs] at hp2 q
    have hl : hs.length ≤ 8 := by rw [ehs]; exact Nat.le_trans (List.length_filter_le _ _) rl
    have hnd : hs.Nodup := by rw [ehs]; exact knd.filter _
    have hin : ∀ x ∈ hs, x ∈ xs := fun x m => by rw [ehs] at m; exact N.fit.keys.mem_iff.mp (List.mem_filter.mp m).1
    have s02 := s1.trans s2
    refine ⟨.ref p2, rfl, p2, rfl, ⟨_, SqT.of hp2⟩, fun D nD => ?_⟩
    refine dc_tup (K := K) (a := p2) (xs := hs.map V.str) (fun i H3 => Same H2 H3 ∧ ∃ (ms : Rws) (A B : Addr → Prop), H3 D = some (.dK (kvs ms)) ∧ ms.map (·.1) = hs.take i ∧ Mems CM CP A B H3 ms ∧ ¬ A D ∧ ¬ B D ∧ (∀ x, A x ∨ B x → ∃ o, H3 x = some o) ∧ ∀ x, B x → H x = none)
      ⟨same_new nD, [], fun _ => False, fun _ => False, upd_same, rfl, ⟨(fun q m => by cases m), (fun x h => h.elim), (fun x h => h.elim)⟩, id, id, (fun x h => h.elim False.elim False.elim), (fun x h => h.elim)⟩ (fun i H3 _ h => SqT.of (h.1 _ _ hp2)) ?_ ?_
    · rintro i y H3 hy ⟨s3, ms, A, B, hD, ek, MS, nA, nB, old, bnew⟩
      rw [List.getElem?_map] at hy
      obtain ⟨x, hx, rfl⟩ := Option.map_eq_some_iff.mp hy
      have lt := (List.getElem?_eq_some_iff.mp hx).1
      have s03 := s02.trans s3
      refine ⟨rfl, .str x, rfl, .str x, rfl, .ref net, rfl, net, dx, _, rfl, s03 _ _ hn, fld_no Dn (by decide +kernel), .str x, rfl, net, Dn, c, xs, rs, x, rfl, N.same s03, hin x (List.mem_of_getElem? hx), fun r H4 s4 _ => ?_⟩
      intro m dxm nm ndxm nx
      have s5 : Same H4 (upd (upd H4 dxm (.own m)) m (.ins CM dxm [])) := (same_new ndxm).trans (same_new (by rw [upd_ne nx.symm]; exact nm))
      refine ⟨m, dxm, x, .ref r, rfl, upd_same, fun A1 B1 H6 M6 ap1 new1 kin1 bt => ⟨rfl, ?_⟩⟩
      have s46 : Same H4 H6 := fun a o e => bt a o (s5 _ _ e) (ne_of_none e nm)
      have s36 := s4.trans s46
      have fresh : ∀ z, A1 z ∨ B1 z → H3 z = none := fun z h => s4.free (s5.free (new1 z h).1)
      have hD6 := s36 _ _ hD
      have nA1 : ¬ A1 D := fun h => by
        have := fresh D (.inl h)
        rw [hD] at this
        cases this
      have nB1 : ¬ B1 D := fun h => by
        have := fresh D (.inr h)
        rw [hD] at this
        cases this
      have ml : ms.length ≤ 8 := by
        have := congrArg List.length ek
        rw [List.length_map, List.length_take] at this
        omega
      have newx : x ∉ ms.map (·.1) := by
        rw [ek]
        intro mem
        have e2 : hs = hs.take i ++ hs.drop i := (List.take_append_drop i hs).symm
        rw [e2] at hnd
        exact (List.nodup_append.mp hnd).2.2 x mem x (List.mem_of_getElem? (i := 0) (by rw [List.getElem?_drop]; exact hx)) rfl
      have off : ∀ a o, H6 a = some o → a ≠ D → upd H6 D (.dK (putK (kvs ms) (Sum.inr x : L2.Key) (.ref m))) a = some o := fun a o e n => by
        rw [upd_ne n]
        exact e
      refine ⟨kvs ms, Sum.inr x, rfl, hD6, ?_, fun a o e => ?_, ms ++ [(x, m)], fun z => A z ∨ A1 z, fun z => B z ∨ B1 z, ?_, ?_, ⟨fun q mq => ?_, fun z ha hb => ?_, fun z hb => ?_⟩, fun h => h.elim nA nA1, fun h => h.elim nB nB1, fun z h => ?_, fun z h => h.elim (bnew z) fun h => s03.free (fresh z (.inr h))⟩
      · rw [kvs_len]
        exact small1000 (by omega)
      · rw [upd_ne (ne_of_none e nD)]
        exact s36 _ _ (s3 _ _ e)
      · rw [upd_same, putK_new _ (val_out newx)]
        show some (HO.dK (kvs ms ++ _)) = some (HO.dK ((ms ++ [(x, m)]).map _))
        rw [List.map_append]
        rfl
      · rw [List.map_append, ek, List.take_add_one, hx]
        rfl
      · rcases List.mem_append.mp mq with mq | mq
        · exact (((MS.at_ q mq).same s36).off hD6 nA nB).wide (fun _ => .inl) (fun _ => .inl)
        · rw [List.mem_singleton.mp mq]
          exact (M6.off hD6 nA1 nB1).wide (fun _ => .inr) (fun _ => .inr)
      · rcases ha with ha | ha <;> rcases hb with hb | hb
        · exact MS.apart z ha hb
        · obtain ⟨o, ho⟩ := old z (.inl ha)
          have := fresh z (.inr hb)
          rw [ho] at this
          cases this
        · obtain ⟨o, ho⟩ := old z (.inr hb)
          have := fresh z (.inl ha)
          rw [ho] at this
          cases this
        · exact ap1 z ha hb
      · rcases hb with hb | hb
        · exact (MS.kind z hb).imp (fun e => off _ _ (s36 _ _ e) (fun e => nB (by rw [← e]; exact hb))) fun ⟨us, e⟩ => ⟨us, off _ _ (s36 _ _ e) (fun e => nB (by rw [← e]; exact hb))⟩
        · exact (kin1 z hb).imp (fun e => off _ _ e (fun e => nB1 (by rw [← e]; exact hb))) fun ⟨us, e⟩ => ⟨us, off _ _ e (fun e => nB1 (by rw [← e]; exact hb))⟩
      · have some6 : ∃ o, H6 z = some o := by
          rcases h with (h | h) | (h | h)
          · obtain ⟨o, ho⟩ := old z (.inl h)
            exact ⟨o, s36 _ _ ho⟩
          · exact (new1 z (.inl h)).2
          · obtain ⟨o, ho⟩ := old z (.inr h)
            exact ⟨o, s36 _ _ ho⟩
          · exact (new1 z (.inr h)).2
        obtain ⟨o, ho⟩ := some6
        exact ⟨o, off _ _ ho (fun e => h.elim (fun h => h.elim (fun h => nA (by rw [← e]; exact h)) fun h => nA1 (by rw [← e]; exact h)) fun h => h.elim (fun h => nB (by rw [← e]; exact h)) fun h => nB1 (by rw [← e]; exact h))⟩
    · rintro H3 ⟨s3, ms, A, B, hD, ek, MS, nA, nB, old, bnew⟩
      rw [List.length_map, List.take_length] at ek
      exact q D ms A B H3 hD ek MS nB bnew (s02.trans s3)
end
end Moot
/-! perform_vote, perform_confirmation. -/
namespace Moot
open PySem PySem.Spec PyProof.Rows L2
theorem cutFrom2 (vs : List V) (n : Nat) : cutV vs (some (n : Int)) none = vs.drop n := by
  unfold cutV
  rw [HT.sIx_none, HT.sIx_nat]
  by_cases h : n ≤ vs.length
  · rw [Nat.min_eq_left h, List.take_of_length_le (by rw [List.length_drop]; omega)]
  · rw [Nat.min_eq_right (by omega), List.drop_of_length_le (Nat.le_refl _), List.drop_of_length_le (by omega), List.take_nil]
section
variable {P : Program} {w : World} {K : PySem.W.Frag} {mg : Str → Option Value} {base : Heap}
/-! perform_vote -/
abbrev sPv : Stmt := top 44
abbrev pPv : List Str := ["members", "event"]
abbrev nPv : List Str := ["members", "event", "member", "ballot", "answer"]
theorem scPv : FnScope nPv pPv (defScope sPv) := ⟨rfl, rfl, rfl, by decide +kernel, rfl, by decide +kernel, by decide +kernel⟩
def spPv (K : PySem.W.Frag) (CM CP : Addr) : Sp := fun vs H Q _ => ∃ (M ev vb : Addr) (ms : Rws) (A B : Addr → Prop) (v0 : V) (n z : Str) (bd : PyData), vs = [.ref M, .ref ev] ∧ H M = some (.dK (kvs ms)) ∧ n ∈ ms.map (·.1) ∧ Mems CM CP A B H ms ∧ Rd H ev (.tup [v0, .str n, .ref vb, .str z]) ∧ Dp K H (.ref vb) bd ∧ KeyD bd ∧
  ∀ H', (∀ x o, H x = some o → ¬ B x → H' x = some o) → Q (.bl true) H'
theorem ok_pvote {f f1 f2 f3 CM CP : Addr} {fd fd1 fd2 fd3 : FuncData} {k : Nat} (F : Fun K "perform_vote" "perform_vote" sPv f fd) (T : Bq mg) (XM : MemT K mg CM)
    (M1 : Meth K CM "has_voted" f1) (b1 : Binds K fd1 ["self", "ballot"] []) (G1 : FnOk P w K mg base CX0 k f1 fd1 ["self", "ballot"] (spHv K CM CP))
    (M2 : Meth K CM "has_accepted" f2) (b2 : Binds K fd2 ["self", "ballot"] []) (G2 : FnOk P w K mg base CX0 k f2 fd2 ["self", "ballot"] (spHv K CM CP))
    (M3 : Meth K CM "cast_vote" f3) (b3 : Binds K fd3 ["self", "statement"] []) (G3 : FnOk P w K mg base CX0 k f3 fd3 ["self", "statement"] (spCv K CM CP)) : FnOk P w K mg base CX0 (k + 1) f fd pPv (spPv K CM CP) := by
  refine F.ok scPv (fun vs H Q E h => ?_) (fun cdv A' outer s H vs Q E hr h => ?_)
  · obtain ⟨M, ev, vb, ms, A, B, v0, n, z, bd, rfl, _⟩ := h
    rfl
  · obtain ⟨M, ev, vb, ms, A, B, v0, n, z, bd, rfl, hM, mn, MS, he, hb, ⟨kb, nk, dk⟩, q⟩ := h
    have hu := hu_of hr
    refine ⟨_, pss_cons (ps_set (i := 2) scPv.nd rfl (Or.inl rfl) (pe_dget hu (pv 0) (pe_ix ix_tup (pv 1) pe_int (fun _ _ => rfl)) (fun _ _ => rfl)))
      (pss_cons (ps_asg (pe_slice sl_tup (pv 1) (po_some pe_int) po_none) (pg_tup (by rfl) (pgs_cons (pg_name (i := 3) scPv.nd rfl (Or.inl rfl)) (pgs_cons (pg_name (i := 4) scPv.nd rfl (Or.inl rfl)) pgs_nil))))
      (pss_cons (ps_if (PW.pt (pw_or (pt_val (pe_meth (pv 2) XM.cl M1 G1 hr b1 .nil pass0 (pa_cons (pv 3) pa_nil))) (pw_or1 (pt_val (pe_meth (pv 2) XM.cl M2 G2 hr b2 .nil pass0 (pa_cons (pv 3) pa_nil)))))) (pss_one (ps_ret pe_bl)) pss_nil)
      (pss_cons (ps_expr (pe_meth (pv 2) XM.cl M3 G3 hr b3 .nil pass0 (pa_cons (pe_tup (pa_cons (pv 3) (pa_cons (pv 4) pa_nil))) pa_nil)))
      (pss_one (ps_ret pe_bl))))), ?_⟩
    obtain ⟨m, mm, hv⟩ := val_in mn
    have at_ := MS.at_ _ mm
    refine ⟨.ref M, rfl, .ref ev, rfl, ev, _, 1, .str n, rfl, rfl, SqT.rd he, atI_nat (j := 1) rfl, M, _, rfl, .inl ⟨_, Sum.inr n, .inl hM, rfl, hv.symm⟩, ?_⟩
    refine ⟨.ref ev, rfl, 2, rfl, ev, _, rfl, SqT.rd he, (fun h => by cases h.1), fun t nt => ?_⟩
    rw [show cutV [v0, V.str n, .ref vb, .str z] (some 2) none = [.ref vb, .str z] from cutFrom2 _ 2]
    have s1 := same_new (o := .tup [.ref vb, .str z]) nt
    have ht : (upd H t (.tup [.ref vb, .str z])) t = some (.tup [.ref vb, .str z]) := upd_same
    generalize upd H t (.tup [.ref vb, .str z]) = H1 at s1 ht ⊢
    refine ⟨t, _, rfl, SqT.of ht, rfl, _, _, rfl, _, _, rfl, rfl, ?_⟩
    have M1' := at_.same s1
    obtain ⟨dx, fs, p, tl, re, dv, da, us, m1, m2, m3, m4, m5, m6, m7, m8, m9, n1, n2, n4, n3, n6, nf⟩ := M1'.ex
    refine ⟨.ref m, rfl, m, dx, fs, rfl, m1, nf _ (by decide +kernel), .ref vb, rfl, m, vb, A, B, bd, rfl, M1', Dp.go s1 _ _ hb, ⟨kb, nk, dk⟩, fun H2 s2 => ⟨_, rfl, iteF ?_⟩⟩
    have s12 := s1.trans s2
    refine ⟨.ref m, rfl, m, dx, fs, rfl, s2 _ _ m1, nf _ (by decide +kernel), .ref vb, rfl, m, vb, A, B, bd, rfl, at_.same s12, Dp.go s12 _ _ hb, ⟨kb, nk, dk⟩, fun H3 s3 => ⟨_, rfl, iteF ?_⟩⟩
    have s13 := s12.trans s3
    refine ⟨.ref m, rfl, m, dx, fs, rfl, s3 _ _ (s2 _ _ m1), nf _ (by decide +kernel), .ref vb, rfl, .str z, rfl, by show 2 ≤ sizeLine; decide, fun u nu => ?_⟩
    have s4 := same_new (o := .tup [.ref vb, .str z]) nu
    have hu4 : (upd H3 u (.tup [.ref vb, .str z])) u = some (.tup [.ref vb, .str z]) := upd_same
    generalize upd H3 u (.tup [.ref vb, .str z]) = H4 at s4 hu4 ⊢
    have s14 := s13.trans s4
    refine ⟨m, u, A, B, .tuple [bd, .str z], rfl, at_.same s14, MS.apart, .tup (SqT.of hu4) (.cons (Dp.go s14 _ _ hb) (.cons (.str z) .nil)), ⟨.tup [kb, .text z], nk_pair nk rfl, Nat.le_trans (dep_pair dk (by show 0 ≤ 6; omega)) (by decide)⟩, fun H5 k5 => ?_⟩
    exact q H5 fun x o e nb => k5 x o (s14 _ _ e) nb
/-! perform_confirmation, nothing accepted yet -/
abbrev sPc : Stmt := top 48
abbrev nPc : List Str := ["members", "event", "member", "ballot", "answer", "nodes", "statement"]
theorem scPc : FnScope nPc pPv (defScope sPc) := ⟨rfl, rfl, rfl, by decide +kernel, rfl, by decide +kernel, by decide +kernel⟩
def spPc (K : PySem.W.Frag) (CM CP : Addr) : Sp := fun vs H Q _ => ∃ (M ev vb : Addr) (ms : Rws) (v0 v4 : V) (n z : Str) (bd : PyData), vs = [.ref M, .ref ev] ∧ H M = some (.dK (kvs ms)) ∧ n ∈ ms.map (·.1) ∧ MemsW CM CP H ms ∧ Rd H ev (.tup [v0, .str n, .ref vb, .str z, v4]) ∧ Dp K H (.ref vb) bd ∧ KeyD bd ∧
  ∀ H', Same H H' → Q (.bl false) H'
theorem ok_pconf {f CM CP : Addr} {fd : FuncData} {k : Nat} (F : Fun K "perform_confirmation" "perform_confirmation" sPc f fd) (XM : MemT K mg CM) (XP : PorT K mg CP) : FnOk P w K mg base CX0 (k + 1) f fd pPv (spPc K CM CP) := by
  refine F.ok scPc (fun vs H Q E h => ?_) (fun cdv A' outer s H vs Q E hr h => ?_)
  · obtain ⟨M, ev, vb, ms, v0, v4, n, z, bd, rfl, _⟩ := h
    rfl
  · obtain ⟨M, ev, vb, ms, v0, v4, n, z, bd, rfl, hM, mn, MS, he, hb, ⟨kb, nk, dk⟩, q⟩ := h
    have hu := hu_of hr
    refine ⟨_, pss_cons (ps_set (i := 2) scPc.nd rfl (Or.inl rfl) (pe_dget hu (pv 0) (pe_ix ix_tup (pv 1) pe_int (fun _ _ => rfl)) (fun _ _ => rfl)))
      (pss_cons (ps_asg (pe_slice sl_tup (pv 1) (po_some pe_int) po_none) (pg_tup (by rfl) (pgs_cons (pg_name (i := 3) scPc.nd rfl (Or.inl rfl)) (pgs_cons (pg_name (i := 4) scPc.nd rfl (Or.inl rfl)) (pgs_cons (pg_name (i := 5) scPc.nd rfl (Or.inl rfl)) pgs_nil)))))
      (pss_cons (ps_set (i := 6) scPc.nd rfl (Or.inl rfl) (pe_tup (pa_cons (pv 3) (pa_cons (pv 4) pa_nil))))
      (pss_cons (ps_if (PW.pt (pw_or (pt_cmpR (op_notInE hr.units) (pv 6) (pe_fld (pe_fld (pv 2) rfl) rfl) (by rfl)) (pw_or1 (pt_cmpR (op_inE hr.units) (pv 6) (pe_fld (pv 2) rfl) (by rfl))))) (pss_one (ps_ret pe_bl)) pss_nil) pss_any))), ?_⟩
    obtain ⟨m, mm, hv⟩ := val_in mn
    have at_ := MS _ mm
    refine ⟨.ref M, rfl, .ref ev, rfl, ev, _, 1, .str n, rfl, rfl, SqT.rd he, atI_nat (j := 1) rfl, M, _, rfl, .inl ⟨_, Sum.inr n, .inl hM, rfl, hv.symm⟩, ?_⟩
    refine ⟨.ref ev, rfl, 2, rfl, ev, _, rfl, SqT.rd he, (fun h => by cases h.1), fun t nt => ?_⟩
    rw [show cutV [v0, V.str n, .ref vb, .str z, v4] (some 2) none = [.ref vb, .str z, v4] from cutFrom2 _ 2]
    have s1 := same_new (o := .tup [.ref vb, .str z, v4]) nt
    have ht : (upd H t (.tup [.ref vb, .str z, v4])) t = some (.tup [.ref vb, .str z, v4]) := upd_same
    generalize upd H t (.tup [.ref vb, .str z, v4]) = H1 at s1 ht ⊢
    refine ⟨t, _, rfl, SqT.of ht, rfl, _, _, rfl, _, _, rfl, _, _, rfl, rfl, ?_⟩
    refine ⟨.ref vb, rfl, .str z, rfl, by show 2 ≤ sizeLine; decide, fun u nu => ?_⟩
    have s2 := s1.trans (same_new (o := .tup [.ref vb, .str z]) nu)
    have hu2 : (upd H1 u (.tup [.ref vb, .str z])) u = some (.tup [.ref vb, .str z]) := upd_same
    generalize upd H1 u (.tup [.ref vb, .str z]) = H2 at s2 hu2 ⊢
    obtain ⟨dx, fs, p, dv, da, m1, m2, ⟨dp, gs, p1, p2, p3⟩, m4⟩ := (at_.same s2).ex
    exact ⟨.ref u, rfl, .ref m, rfl, m, CM, dx, fs, .ref p, rfl, m1, XM.cl, XM.ow, m2, p, CP, dp, gs, .ref da, rfl, p1, XP.cl, XP.ac, p3, u, da, .tuple [bd, .str z], .tup [kb, .text z], rfl, rfl, .tup (SqT.of hu2) (.cons (Dp.go s2 _ _ hb) (.cons (.str z) .nil)), nk_pair nk rfl, Nat.le_trans (dep_pair dk (by show 0 ≤ 6; omega)) (by decide), .inl m4, _, rfl, iteT (iteT (q H2 s2))⟩
end
end Moot
/-! members_after, is_valid_history, is_complete_history of what is no history. -/
namespace Moot
open PySem PySem.Spec PyProof.Rows L2
theorem pe_alt {X : Cx} {e : Expr} {t1 t2 : TE} (h1 : PE X e t1) (h2 : PE X e t2) : PE X e (fun σ H Q => t1 σ H Q ∨ t2 σ H Q) :=
  ⟨fun pins s σ H Q I h => h.elim (h1.run pins s σ H Q I) (h2.run pins s σ H Q I)⟩
theorem GoodB.key {d : PyData} (h : GoodB d) : KeyD d := by
  obtain ⟨i, x, rfl, _⟩ := h
  exact ⟨.tup [.num i, .text x], nk_pair rfl rfl, by show max 0 (max 0 0) + 1 ≤ 6; decide⟩
/-- an event that is none, or the confirmation of what is not accepted -/
def Bad (xs : List Str) (d : PyData) : Prop := EvR xs d false ∨ ∃ (n z : Str) (bd : PyData), d = .tuple [.str "confirmed", .str n, bd, .str z, .tuple []] ∧ GoodB bd ∧ EvR xs d true
def Vote (xs Fs : List Str) (d : PyData) : Prop := ∃ (n z : Str) (bd : PyData), d = .tuple [.str "voted", .str n, bd, .str z] ∧ n ∈ xs ∧ n ∉ Fs ∧ GoodB bd ∧ memD anS (.str z) = true
/-- no history -/
def EvsNo (xs Fs : List Str) (o : PyData) : Prop := seqD o = none ∨ (∃ d rest, seqD o = some (d :: rest) ∧ Bad xs d) ∨ ∃ v d, seqD o = some [v, d] ∧ Vote xs Fs v ∧ Bad xs d
/-- what a turn meets -/
def TurnD (CM CP : Addr) (A B : Addr → Prop) (xs : List Str) (ds : List PyData) (j : Nat) (H3 : Hp) (ms : Rws) (d : PyData) : Prop :=
  (EvR xs d false ∨ ∃ (n z : Str) (bd : PyData), d = .tuple [.str "confirmed", .str n, bd, .str z, .tuple []] ∧ GoodB bd ∧ EvR xs d true ∧ MemsW CM CP H3 ms) ∨
  ∃ (n z : Str) (bd : PyData), d = .tuple [.str "voted", .str n, bd, .str z] ∧ n ∈ ms.map (·.1) ∧ GoodB bd ∧ EvR xs d true ∧ Mems CM CP A B H3 ms ∧ j + 1 = 1 ∧ ∃ v d', ds = [v, d'] ∧ Bad xs d'
theorem cls_tl : Paired ClsV [V.ty "tuple", V.ty "list"] [.type "tuple", .type "list"] := .cons (.ty _) (.cons (.ty _) .nil)
section
variable {P : Program} {w : World} {K : PySem.W.Frag} {mg : Str → Option Value} {base : Heap}
/-! members_after -/
abbrev sMa : Stmt := top 50
abbrev pMa : List Str := ["network", "faulty", "events"]
abbrev nMa : List Str := ["network", "faulty", "events", "members", "event", "perform"]
theorem scMa : FnScope nMa pMa (defScope sMa) := ⟨rfl, rfl, rfl, by decide +kernel, rfl, by decide +kernel, by decide +kernel⟩
def spMa (K : PySem.W.Frag) (C : Addr) : Sp := fun vs H Q _ => ∃ (net Dn e b g : Addr) (c : Rq) (xs : List Str) (rs : Rws) (Fs : List Str) (o : PyData) (v : V), vs = [.ref net, .ref e, v] ∧ NetAt C H net Dn c xs rs ∧ NodesAt K H e Fs ∧ Dv b g H o v ∧ SeqAt.shaped o = true ∧ EvsNo (rs.map (·.1)) Fs o ∧ ∀ H', Same H H' → Q .non H'
theorem ok_ma {f f1 f2 fV fC aP C CM CP : Addr} {fd fd1 fd2 fdV fdC : FuncData} {k : Nat} (F : Fun K "members_after" "members_after" sMa f fd) (T : Bq mg) (X : Txt K mg C)
    (F1 : Fun K "honest_members" "honest_members" sHm f1 fd1) (b1 : Binds K fd1 ["network", "faulty"] []) (g1 : mg "honest_members" = some (.ref f1)) (G1 : FnOk P w K mg base CX0 k f1 fd1 ["network", "faulty"] (spHm K C CM CP))
    (F2 : Fun K "is_event" "is_event" sEv f2 fd2) (b2 : Binds K fd2 ["network", "value"] []) (g2 : mg "is_event" = some (.ref f2)) (G2 : FnOk P w K mg base CX0 k f2 fd2 ["network", "value"] (spEv C))
    (FV : Fun K "perform_vote" "perform_vote" sPv fV fdV) (bV : Binds K fdV pPv []) (GV : FnOk P w K mg base CX0 k fV fdV pPv (spPv K CM CP))
    (FC : Fun K "perform_confirmation" "perform_confirmation" sPc fC fdC) (bC : Binds K fdC pPv []) (GC : FnOk P w K mg base CX0 k fC fdC pPv (spPc K CM CP))
    (mP : mg "PERFORMERS" = some (.ref aP)) (k1 : KDct K w aP "voted" (.ref fV)) (k2 : KDct K w aP "confirmed" (.ref fC)) : FnOk P w K mg base CX0 (k + 1) f fd pMa (spMa K C) := by
  refine F.ok scMa (fun vs H Q E h => ?_) (fun cdv A' outer s H vs Q E hr h => ?_)
  · obtain ⟨net, Dn, e, b, g, c, xs, rs, Fs, o, v, rfl, _⟩ := h
    rfl
  · obtain ⟨net, Dn, e, b, g, c, xs, rs, Fs, o, v, rfl, N, he, hd, sh, no, q⟩ := h
    have hu := hu_of hr
    refine ⟨_, pss_cons (ps_if (pt_not (pt_val (pe_callB call_isiT (by rfl) T.T.isi (by decide +kernel) (pa_cons (pv 2) (pa_cons (pe_tup (pa_cons (pe_bltn (v := .ty "tuple") (by rfl) T.T.tup (by decide +kernel) rfl) (pa_cons (pe_bltn (v := .ty "list") (by rfl) T.T.lst (by decide +kernel) rfl) pa_nil))) pa_nil))))) (pss_one (ps_ret pe_non)) pss_nil)
      (pss_cons (ps_set (i := 3) scMa.nd rfl (Or.inl rfl) (pe_call G1 hr (by rfl) g1 F1.kp b1 .nil pass0 (pa_cons (pv 0) (pa_cons (pv 1) pa_nil))))
      (pss_cons (ps_for PassesOwn.never rfl (pi_or (pi_list (pv 2)) (pi_tup (pv 2))) (pg_name (i := 4) scMa.nd rfl (Or.inl rfl))
        (pss_cons (ps_if (PW.pt (pw_or (pt_not (pt_val (pe_call G2 hr (by rfl) g2 F2.kp b2 .nil pass0 (pa_cons (pv 0) (pa_cons (pv 4) pa_nil))))) (pw_or1 (pt_cmp (pc_dnotin hu (pe_ix ix_tup (pv 4) pe_int (fun _ _ => rfl)) (pv 3)))))) (pss_one (ps_ret pe_non)) pss_nil)
        (pss_cons (ps_set (i := 5) scMa.nd rfl (Or.inl rfl) (pe_ix ix_kdict (pe_glob (v := .ref aP) (by rfl) mP rfl) (pe_ix ix_tup (pv 4) pe_int (fun _ _ => rfl)) (fun _ _ => rfl)))
        (pss_one (ps_if (pt_not (pt_val (pe_alt (pe_callL (i := 5) GV hr rfl (Or.inl rfl) FV.kp bV .nil pass0 (pa_cons (pv 3) (pa_cons (pv 4) pa_nil))) (pe_callL (i := 5) GC hr rfl (Or.inl rfl) FC.kp bC .nil pass0 (pa_cons (pv 3) (pa_cons (pv 4) pa_nil)))))) (pss_one (ps_ret pe_non)) pss_nil)))))
      (pss_one (ps_ret (pv 3))))), ?_⟩
    refine ⟨v, rfl, by show 2 ≤ sizeLine; decide, fun tp ntp => ?_⟩
    have s1 := same_new (o := .tup [.ty "tuple", .ty "list"]) ntp
    have htp : (upd H tp (.tup [.ty "tuple", .ty "list"])) tp = some (.tup [.ty "tuple", .ty "list"]) := upd_same
    generalize upd H tp (.tup [.ty "tuple", .ty "list"]) = H1 at s1 htp ⊢
    have hd1 := hd.same s1
    refine ⟨_, tp, _, tyD o, _, (seqD o).isSome, rfl, htp, cls_tl, hd1.ty, kit_tl hd1, _, rfl, ?_⟩
    cases es : seqD o with
    | none => exact iteT (q H1 s1)
    | some ds =>
      refine iteF ?_
      have hds : (∃ d rest, ds = d :: rest ∧ Bad (rs.map (·.1)) d) ∨ ∃ v d, ds = [v, d] ∧ Vote (rs.map (·.1)) Fs v ∧ Bad (rs.map (·.1)) d := by
        rcases no with z | ⟨d, rest, e, bd⟩ | ⟨v, d, e, vo, bd⟩
        · rw [es] at z
          cases z
        · rw [es] at e
          exact .inl ⟨d, rest, Option.some.inj e, bd⟩
        · rw [es] at e
          exact .inr ⟨v, d, Option.some.inj e, vo, bd⟩
      obtain ⟨a2, vs, rfl, sq, all⟩ := hd.seq (K := K) es
      have vl := all.len
      refine ⟨.ref net, rfl, .ref e, rfl, net, Dn, e, c, xs, rs, Fs, rfl, N.same s1, he.imp (fun z => Same.seq s1 z) (fun z => SqT.go z s1), fun M ms A B H2 hM ek MS nM bnew s12 => ?_⟩
      have s02 := s1.trans s12
      have turn : ∀ (j : Nat) (y : V) (H3 : Hp), vs[j]? = some y → Same H H3 → ((j = 0 ∧ Mems CM CP A B H3 ms) ∨ (j = 1 ∧ MemsW CM CP H3 ms ∧ ∃ v d, ds = [v, d] ∧ Bad (rs.map (·.1)) d)) →
          ∃ d, Dv b g H3 d y ∧ SeqAt.shaped d = true ∧ TurnD CM CP A B (rs.map (·.1)) ds j H3 ms d := by
        intro j y H3 hy s3 st
        obtain ⟨d, hdj, dv⟩ := all.get hy
        have sd := sh_mem es sh (List.mem_of_getElem? hdj)
        refine ⟨d, dv.same s3, sd, ?_⟩
        have bad : Bad (rs.map (·.1)) d → MemsW CM CP H3 ms → TurnD CM CP A B (rs.map (·.1)) ds j H3 ms d := fun h mw => Or.inl (h.imp id fun ⟨n, z, bd, e, gb, ev⟩ => ⟨n, z, bd, e, gb, ev, mw⟩)
        rcases st with ⟨rfl, MS3⟩ | ⟨rfl, MW, v, d', e, bd⟩
        · have MW := MS3.w (H' := H3) fun a o e _ => e
          rcases hds with ⟨d0, rest, e, bd⟩ | ⟨v, d', e, ⟨n, z, bb, ev, nx, nF, gb, ma⟩, bd⟩
          · subst e
            obtain rfl : d0 = d := Option.some.inj hdj
            exact bad bd MW
          · have e0 := e
            subst e
            obtain rfl : v = d := Option.some.inj hdj
            refine .inr ⟨n, z, bb, ev, ?_, gb, ?_, MS3, rfl, v, d', rfl, bd⟩
            · rw [ek]
              exact List.mem_filter.mpr ⟨nx, decide_eq_true nF⟩
            · subst ev
              have := EvR.four (xs := rs.map (·.1)) (w := .str "voted") nx (by decide +kernel) gb ma
              rwa [strD_self] at this
        · subst e
          obtain rfl : d' = d := Option.some.inj hdj
          exact bad bd MW
      rcases sq with sq | sq
      case' inl => refine .inl ⟨.ref a2, rfl, a2, rfl, ⟨_, Same.seq s02 sq⟩, for_list (K := K) (a := a2) (xs := vs) (fun j σ H3 => ∃ (y4 y5 : Option V), σ = [some (.ref net), some (.ref e), some (.ref a2), some (.ref M), y4, y5] ∧ Same H H3 ∧ H3 M = some (.dK (kvs ms)) ∧ ((j = 0 ∧ Mems CM CP A B H3 ms) ∨ (j = 1 ∧ MemsW CM CP H3 ms ∧ ∃ v d, ds = [v, d] ∧ Bad (rs.map (·.1)) d))) ⟨_, _, rfl, s02, hM, .inl ⟨rfl, MS⟩⟩ (fun j σ H3 _ ⟨_, _, _, s3, _⟩ => Same.seq s3 sq) ?_ ?_⟩
      case' inr => refine .inr ⟨.ref a2, rfl, a2, rfl, ⟨_, SqT.go sq s02⟩, for_tup (K := K) (a := a2) (xs := vs) (fun j σ H3 => ∃ (y4 y5 : Option V), σ = [some (.ref net), some (.ref e), some (.ref a2), some (.ref M), y4, y5] ∧ Same H H3 ∧ H3 M = some (.dK (kvs ms)) ∧ ((j = 0 ∧ Mems CM CP A B H3 ms) ∨ (j = 1 ∧ MemsW CM CP H3 ms ∧ ∃ v d, ds = [v, d] ∧ Bad (rs.map (·.1)) d))) ⟨_, _, rfl, s02, hM, .inl ⟨rfl, MS⟩⟩ (fun j σ H3 _ ⟨_, _, _, s3, _⟩ => SqT.go sq s3) ?_ ?_⟩
      all_goals first
        | (rintro j y σ H3 hy ⟨y4, y5, rfl, s3, hM3, st⟩
           obtain ⟨d, dv, sd, cs⟩ := turn j y H3 hy s3 st
           refine ⟨.ref net, rfl, y, rfl, net, Dn, b, g, c, xs, rs, d, y, ?_⟩
           rcases cs with (ev | ⟨n, z, bd, rfl, gb, ev, MW⟩) | ⟨n, z, bd, rfl, mn, gb, ev, MS3, j1, more⟩
           · exact ⟨false, rfl, N.same s3, dv, sd, ev, fun H4 s4 => ⟨_, rfl, iteT (iteT (q H4 (s3.trans s4)))⟩⟩
           · refine ⟨true, rfl, N.same s3, dv, sd, ev, fun H4 s4 => ⟨_, rfl, iteF ?_⟩⟩
             obtain ⟨ae, us, rfl, _, _, hae, alle⟩ := (dv.same s4).tupAt
             obtain ⟨v0, us, rfl, d0, v1, us, rfl, d1, v2, us, rfl, d2, v3, us, rfl, d3, v4, us, rfl, d4, e5⟩ := alle
             cases e5
             cases d0
             cases d1
             cases d3
             obtain ⟨i, x, rfl, gi⟩ := gb
             obtain ⟨vb, ub, rfl, _, _, _, _⟩ := d2.tupAt
             have hM4 := s4 _ _ hM3
             by_cases mn : n ∈ ms.map (·.1)
             · obtain ⟨m, mm, hv⟩ := val_in mn
               refine ⟨.ref ae, rfl, ae, _, 1, .str n, rfl, rfl, SqT.rd hae, atI_nat (j := 1) rfl, .ref M, rfl, M, _, rfl, .inl ⟨_, Sum.inr n, .inl hM4, rfl, hv.symm⟩, _, rfl, iteF ?_⟩
               refine ⟨.ref ae, rfl, ae, _, 0, .str "confirmed", rfl, rfl, SqT.rd hae, atI_nat (j := 0) rfl, aP, _, _, rfl, rfl, k2, ?_⟩
               refine .inr ⟨rfl, .ref M, rfl, .ref ae, rfl, M, ae, vb, ms, .str "confirmed", v4, n, z, _, rfl, hM4, mn, fun r mr => (MW r mr).same s4, hae, Dv.dp _ _ d2, GoodB.key ⟨i, x, rfl, gi⟩, fun H5 s5 => ⟨_, rfl, iteT (q H5 ((s3.trans s4).trans s5))⟩⟩
             · have hv := val_out (rs := ms) (y := n) mn
               exact ⟨.ref ae, rfl, ae, _, 1, .str n, rfl, rfl, SqT.rd hae, atI_nat (j := 1) rfl, .ref M, rfl, M, _, rfl, .inl ⟨_, Sum.inr n, .inl hM4, rfl, hv.symm⟩, _, rfl, iteT (q H4 (s3.trans s4))⟩
           · refine ⟨true, rfl, N.same s3, dv, sd, ev, fun H4 s4 => ⟨_, rfl, iteF ?_⟩⟩
             obtain ⟨ae, us, rfl, _, _, hae, alle⟩ := (dv.same s4).tupAt
             obtain ⟨v0, us, rfl, d0, v1, us, rfl, d1, v2, us, rfl, d2, v3, us, rfl, d3, e5⟩ := alle
             cases e5
             cases d0
             cases d1
             cases d3
             obtain ⟨i, x, rfl, gi⟩ := gb
             obtain ⟨vb, ub, rfl, _, _, _, _⟩ := d2.tupAt
             have hM4 := s4 _ _ hM3
             obtain ⟨m, mm, hv⟩ := val_in mn
             refine ⟨.ref ae, rfl, ae, _, 1, .str n, rfl, rfl, SqT.rd hae, atI_nat (j := 1) rfl, .ref M, rfl, M, _, rfl, .inl ⟨_, Sum.inr n, .inl hM4, rfl, hv.symm⟩, _, rfl, iteF ?_⟩
             refine ⟨.ref ae, rfl, ae, _, 0, .str "voted", rfl, rfl, SqT.rd hae, atI_nat (j := 0) rfl, aP, _, _, rfl, rfl, k1, ?_⟩
             have MS4 := MS3.same s4
             refine .inl ⟨rfl, .ref M, rfl, .ref ae, rfl, M, ae, vb, ms, A, B, .str "voted", n, z, _, rfl, hM4, mn, MS4, hae, Dv.dp _ _ d2, GoodB.key ⟨i, x, rfl, gi⟩, fun H5 k5 => ⟨_, rfl, iteF ?_⟩⟩
             have s35 : Same H H5 := fun a o e => k5 a o (s4 _ _ (s3 _ _ e)) (fun hb => by
               have := bnew a hb
               rw [s1 _ _ e] at this
               cases this)
             exact ⟨_, _, rfl, s35, k5 _ _ hM4 nM, .inr ⟨j1, MS4.w k5, more⟩⟩)
        | (rintro σ H3 ⟨y4, y5, rfl, s3, hM3, st⟩
           exfalso
           have l1 : 1 ≤ ds.length := by rcases hds with ⟨_, _, rfl, _⟩ | ⟨_, _, rfl, _⟩ <;> simp
           rcases st with ⟨e, _⟩ | ⟨e, _, v, d, rfl, _⟩
           · omega
           · rw [vl] at e
             cases e)
end
end Moot
/-! isinstance of a caught error that has fields. -/
namespace Moot
open PySem PySem.Spec PySem.Calls PyProof.Rows PySem.W
section
variable {prog : Program} {w : World} {A : Around} {E : Value → Shared → Prop} {K : Frag} {x D : Addr} {ox : Obj} {od : Option Obj}
theorem find_desc {C : Addr} {name : Str} {a g : Value} (hc : (clsIn K C).isSome = true) (ha : findIn K (.ref C) name = some (some a)) (hg : specialIn K a "__get__" = some (some g)) (ht : takesIn K a = some true) : findObj K C od name = some (.bind g a) := by
  obtain ⟨cd, hc⟩ := Option.isSome_iff_exists.mp hc
  unfold findObj
  rw [hc, Option.bind_some, ha, Option.bind_some]
  simp [hg, ht]
/-- the attribute __class__ of an error, whatever its dict holds -/
theorem cls_of {Q : Option Value → Shared → Prop} {hp : Heap} {g : Array GenState} {d : Drawn} {t : Nat} {os : OsState} (C : L2.ExcC K D) (X : K.In hp) (I : InstAt hp x ox D od) (h : Q (some (.ref D)) ⟨hp, g, d, t + 1, os⟩) :
    wpAny (model prog w) A (getAttr? (.ref x) "__class__") Q E ⟨hp, g, d, t, os⟩ := by
  have known : (clsIn K D).isSome = true := by
    obtain ⟨cd, e, _⟩ := any_some C.hd
    rw [e]
    rfl
  have desc := looks_find (M := model prog w) X I (find_desc known C.ha C.hn C.ht)
  have kind := I.type (M := model prog w)
  have base : Looks (model prog w) hp (isInstance (.ref x) (.type "BaseException")) true := kind.andThen (looks_subIn X C.hs)
  have other : (Value.builtin "BaseException.__getattribute__" == Value.builtin "object.__getattribute__") = false := by decide +kernel
  have no1 : (onTheHeap (Value.ref D) && (Value.builtin "BaseException.__getattribute__" == Value.builtin "object.__getattribute__")) = false := by
    rw [other, Bool.and_false]
  unfold getAttr? getAttrBy? getAttrBy
  apply wpAny_bind
  apply wpAny_mkText
  apply wpAny_bind
  apply wpAny_attempt
  apply wpAny_holding
  apply wpAny_bind
  apply kind.at
  apply wpAny_bind
  apply (looks_findIn (M := model prog w) X C.hg).at
  show wpAny _ _ (if (onTheHeap (Value.ref D) && (Value.builtin "BaseException.__getattribute__" == Value.builtin "object.__getattribute__")) = true then _ else _) _ _ _
  rw [no1, if_neg Bool.false_ne_true]
  unfold getAttrByItsOwn hookBefore
  apply wpAny_bind
  rw [show onTheHeap (Value.ref D) = true from rfl, if_pos rfl]
  apply (looks_findIn (M := model prog w) X C.hk).at
  apply wpAny_bind
  apply wpAny_attempt
  apply wpAny_holding
  unfold callGetattribute
  rw [show (false && onTheHeap (Value.builtin "BaseException.__getattribute__")) = false from rfl, if_neg Bool.false_ne_true]
  unfold boundAndCalled
  rw [F.excAttr_ValueError.ga.bind (.ref x)]
  apply wpAny_bind
  apply wpAny_pure
  show wpAny _ _ (call _ [.ref x, .str "__class__" t]) _ _ _
  apply wpAny_call
  apply codeAny_call_builtin F.excAttr_ValueError.ga.plain F.entry_bexc_ga
  apply @check_slot (model prog w) _ _ ⟨hp, g, d, t + 1, os⟩ "BaseException.__getattribute__" "BaseException" "__getattribute__" (.ref x) [.str "__class__" t] [] _ (by decide +kernel) (by decide +kernel) base
  · exact F.args_bexc_ga (.ref x) (.str "__class__" t)
  unfold Builtin.«object.__getattribute__»
  apply wpAny_bind
  refine wpAny_of_eq (a := (Value.ref x, [Value.str "__class__" t])) (by first | rfl | (simp only [slotArgs]; rfl)) ?_
  apply wpAny_bind
  apply wpAny_pure
  apply wpAny_bind
  apply kind.at
  apply wpAny_bind
  apply desc.at
  show wpAny _ _ (holding _ (call (.builtin "getset_descriptor.__get__") [_, .ref x, .ref D]) >>= ret) _ _ _
  apply wpAny_bind
  apply wpAny_holding
  apply wpAny_call
  refine class_get (s := ⟨hp, g, d, t + 1, os⟩) (ox := ox) (od := od) X I C.hm ?_
  apply wpAny_pure
  show wpAny _ _ (handedOut (.ref D)) _ _ _
  rw [handedOut_of (v := .ref D) rfl]
  first
    | exact wpAny_pure h
    | exact wpAny_pure (wpAny_pure h)
    | exact wpAny_pure (wpAny_bind (wpAny_pure (wpAny_pure h)))
theorem kit_fields (C : L2.ExcC K D) : KitX K (.ref x) (.ref D) (fun h => InstAt h x ox D od) where
  ty := fun _ _ _ I => I.type
  ca := fun {prog w A E Q s} X I k => by
    obtain ⟨hp, g, d, t, os⟩ := s
    exact cls_of C X I k
  it := fun _ h X _ => by
    obtain ⟨cd, e, _⟩ := any_some C.hd
    unfold clsIn at e
    split at e
    · rename_i ho
      intro A' Q' E' s' k q
      unfold isType loadHead
      exact wpAny_bind (wpAny_loadPart (k _ _ (X _ _ ho)) (wpAny_pure q))
    · cases e
  ne := fun h tp dd its n sl X htp => by
    obtain ⟨cd, e, _⟩ := any_some C.hd
    unfold clsIn at e
    split at e
    · rename_i ho
      refine Bool.eq_false_iff.mpr fun q => ?_
      rw [← Value.ref.inj (beq_iff_eq.mp q)] at htp
      exact absurd ((X _ _ ho).symm.trans htp) (by intro z; cases z)
    · cases e
end
end Moot
namespace Moot
open PySem PySem.Spec PyProof.Rows L2
/-- isinstance(e, c), e the error at hand, which has fields -/
def rIsF (K : PySem.W.Frag) (D a dd : Addr) : List V → Hp → VK → Prop := fun xs H Q => ∃ (c : V) (cv : Value) (b : Bool) (fs : List (Str × V)), xs = [.ref a, c] ∧ (∀ u, RelV c u → u = cv) ∧ PySem.W.kitOne K (.ref D) cv = some b ∧ H dd = some (.xd fs) ∧ Q (.bl b) H
theorem call_isF {X : Cx} {a D dd : Addr} {oe : Obj} {pn : List (Addr × Obj)} (C : ExcC X.K D) (hz : Zc (.ref D) (some dd) oe) (hf : ∃ vs, oe.data = .fields vs) : CallR (X.suite a ((a, oe) :: pn)) (.builtin "isinstance") (rIsF X.K D a dd) := by
  intro pins s σ H xs us Q I r h
  obtain ⟨c, cv, b, fs, rfl, hcv, e, hd, q⟩ := h
  match us, r with
  | [u0, u1], .cons rx (.cons rt .nil) =>
    obtain rfl : u0 = Value.ref a := rx
    obtain rfl := hcv u1 rt
    obtain ⟨at0, _⟩ := I.pin (a, oe) (List.mem_append_left _ List.mem_cons_self)
    obtain ⟨vs, dt⟩ := hf
    have field : ObjOk X.prog X.w H s.heap dd (.xd fs) := I.hok dd _ hd
    obtain ⟨mA, hns, _⟩ := field
    obtain ⟨o2, ho2, _⟩ := lookIn_ns hns
    have J : PySem.W.InstAt s.heap a oe D (some o2) := ⟨at0, hz.1, by unfold PySem.W.notCls; rw [dt] <;> rfl, by rw [hz.2]; exact ho2⟩
    exact PySem.W.kia_one (kit_fields C) I.kIn J e (fun z => nomatch z) fun tk => ⟨.bl b, H, I.kept (t' := tk) fun _ _ z => z, rfl, q⟩
end Moot
/-! is_valid_history, is_complete_history of what is no history, and of nodes unknown. -/
namespace Moot
open PySem PySem.Spec PyProof.Rows L2
section
variable {P : Program} {w : World} {K : PySem.W.Frag} {mg : Str → Option Value} {base : Heap}
/-! UnknownNode -/
abbrev sUi : Stmt := inClass (top 6) 0
theorem scUi : FnScope ["self", "name"] ["self", "name"] (defScope sUi) := ⟨rfl, rfl, rfl, by decide +kernel, rfl, by decide +kernel, by decide +kernel⟩
theorem ok_ui {f CU : Addr} {fd : FuncData} {k : Nat} (F : Fun K "__init__" "UnknownNode.__init__" sUi f fd) (T : OexC K CU) (no : PySem.W.findIn K (.ref CU) "name" = some none) : FnOk P w K mg base CX0 (k + 1) f fd ["self", "name"] (spEx1 "name" CU) := by
  refine F.ok scUi (fun vs H Q E h => ?_) (fun cdv A outer s H vs Q E hr h => ?_)
  · obtain ⟨a, v, rfl, _⟩ := h
    rfl
  · obtain ⟨a, v, rfl, ha, q⟩ := h
    refine ⟨_, pss_one (ps_ost (pv 0) (pv 1)), ?_⟩
    exact ⟨v, rfl, .ref a, rfl, a, CU, rfl, T, no, .inl ⟨ha, fun dx ndx nx => q dx ndx nx⟩⟩
/-- this exception with this name leaves, all else stays -/
def ExE (C : Addr) (z : Str) (H : Hp) (E : XK) : Prop := ∀ (d : Addr) (H' : Hp), Same H H' → H d = none → H' d = some (.xd [("name", .str z)]) → E (.ref C) (some d) H'
/-! check_nodes, a name unknown -/
def spCnX (K : PySem.W.Frag) (C CU : Addr) : Sp := fun vs H _ E => ∃ (net D a : Addr) (c : Rq) (xs : List Str) (rs : Rws) (S R : List Str) (u : Str), vs = [.ref net, .ref a] ∧ NetAt C H net D c xs rs ∧ NodesAt K H a (S ++ u :: R) ∧ (∀ x ∈ S, x ∈ xs) ∧ u ∉ xs ∧ ExE CU u H E
theorem ok_cnX {f C CU fU : Addr} {fd fdU : FuncData} {k : Nat} (F : Fun K "check_nodes" "Network.check_nodes" sCn f fd) (X : Txt K mg C) (U : ExcT K mg "UnknownNode" CU fU) (bU : Binds K fdU ["self", "name"] []) (GU : FnOk P w K mg base CX0 k fU fdU ["self", "name"] (spEx1 "name" CU)) : FnOk P w K mg base (L2.CX P w) (k + 1 + 1) f fd ["self", "names"] (spCnX K C CU) := by
  refine F.okX scCn (fun vs H Q E h => ?_) (fun cdv A outer s H vs Q E hr h => ?_)
  · obtain ⟨net, D, a, c, xs, rs, S, R, u, rfl, _⟩ := h
    rfl
  · obtain ⟨net, D, a, c, xs, rs, S, R, u, rfl, N, ha, sub, nu, q⟩ := h
    have hu := hu_of hr
    obtain ⟨dx, hn⟩ := N.ob
    refine ⟨_, pss_one (ps_for (passes_of rfl) rfl (pi_or (pi_list (pv 1)) (pi_tup (pv 1))) (pg_name (i := 2) scCn.nd rfl (Or.inl rfl))
      (pss_one (ps_if (pt_cmp (pc_dnotin hu (pv 2) (pe_fld (pv 0) rfl))) (pss_one (ps_raise rfl (takes_of rfl rfl rfl rfl) (pmk_oex U.oex U.iC U.tI GU hr bU .nil pass0 (by rfl) U.gC (pa_cons (pv 2) pa_nil)))) pss_nil))), ?_⟩
    have len : ((S ++ u :: R).map V.str).length = S.length + 1 + R.length := by
      rw [List.length_map, List.length_append, List.length_cons]
      omega
    have step : ∀ (i : Nat) (z : Str), (S ++ u :: R)[i]? = some z → i ≤ S.length → (i < S.length ∧ z ∈ S) ∨ (i = S.length ∧ z = u) := fun i z hz hi => by
      by_cases lt : i < S.length
      · rw [List.getElem?_append_left lt] at hz
        exact .inl ⟨lt, List.mem_of_getElem? hz⟩
      · have e : i = S.length := by omega
        rw [e, List.getElem?_append_right (Nat.le_refl _), Nat.sub_self] at hz
        exact .inr ⟨e, (Option.some.inj hz).symm⟩
    rcases ha with ha | ha
    · refine .inl ⟨.ref a, rfl, a, rfl, ⟨_, ha⟩, for_it (walk_list (K := K) (a := a) (xs := (S ++ u :: R).map V.str)) (fun i σ H1 => H1 = H ∧ i ≤ S.length ∧ ∃ y2 : Option V, σ = [some (.ref net), some (.ref a), y2]) ⟨rfl, Nat.zero_le _, none, rfl⟩ (fun i σ H1 _ ⟨e, _⟩ => by rw [e]; exact ha) ?_ ?_⟩
      · rintro i y σ H1 H2 hi ⟨rfl, il, y2, rfl⟩ ⟨rfl, hy⟩
        rw [List.getElem?_map] at hy
        obtain ⟨z, hz, rfl⟩ := Option.map_eq_some_iff.mp hy
        rcases step i z hz il with ⟨lt, mz⟩ | ⟨e, rfl⟩
        · obtain ⟨r, _, hv⟩ := val_in (N.fit.keys.mem_iff.mpr (sub z mz))
          exact ⟨.str z, rfl, .ref net, rfl, net, C, dx, _, _, rfl, hn, X.cl, X.nR, fld_get D, D, _, rfl, .inl ⟨_, Sum.inr z, .inl N.dc, rfl, hv.symm⟩, _, rfl, iteF ⟨rfl, lt, _, rfl⟩⟩
        · have hv := val_out (rs := rs) (y := z) fun m => nu (N.fit.keys.mem_iff.mp m)
          exact ⟨.str z, rfl, .ref net, rfl, net, C, dx, _, _, rfl, hn, X.cl, X.nR, fld_get D, D, _, rfl, .inl ⟨_, Sum.inr z, .inl N.dc, rfl, hv.symm⟩, _, rfl, iteT ⟨.str z, rfl, mk1 fun d nd => q d _ (same_new nd) nd upd_same⟩⟩
      · rintro σ H1 ⟨rfl, il, y2, rfl⟩
        omega
    · refine .inr ⟨.ref a, rfl, a, rfl, ⟨_, ha⟩, for_it (walk_tup (K := K) (a := a) (xs := (S ++ u :: R).map V.str)) (fun i σ H1 => H1 = H ∧ i ≤ S.length ∧ ∃ y2 : Option V, σ = [some (.ref net), some (.ref a), y2]) ⟨rfl, Nat.zero_le _, none, rfl⟩ (fun i σ H1 _ ⟨e, _⟩ => by rw [e]; exact ha) ?_ ?_⟩
      · rintro i y σ H1 H2 hi ⟨rfl, il, y2, rfl⟩ ⟨rfl, hy⟩
        rw [List.getElem?_map] at hy
        obtain ⟨z, hz, rfl⟩ := Option.map_eq_some_iff.mp hy
        rcases step i z hz il with ⟨lt, mz⟩ | ⟨e, rfl⟩
        · obtain ⟨r, _, hv⟩ := val_in (N.fit.keys.mem_iff.mpr (sub z mz))
          exact ⟨.str z, rfl, .ref net, rfl, net, C, dx, _, _, rfl, hn, X.cl, X.nR, fld_get D, D, _, rfl, .inl ⟨_, Sum.inr z, .inl N.dc, rfl, hv.symm⟩, _, rfl, iteF ⟨rfl, lt, _, rfl⟩⟩
        · have hv := val_out (rs := rs) (y := z) fun m => nu (N.fit.keys.mem_iff.mp m)
          exact ⟨.str z, rfl, .ref net, rfl, net, C, dx, _, _, rfl, hn, X.cl, X.nR, fld_get D, D, _, rfl, .inl ⟨_, Sum.inr z, .inl N.dc, rfl, hv.symm⟩, _, rfl, iteT ⟨.str z, rfl, mk1 fun d nd => q d _ (same_new nd) nd upd_same⟩⟩
      · rintro σ H1 ⟨rfl, il, y2, rfl⟩
        omega
/-! is_valid_history -/
abbrev sVh : Stmt := top 51
abbrev pVh : List Str := ["network", "faulty", "events"]
theorem scVh : FnScope pVh pVh (defScope sVh) := ⟨rfl, rfl, rfl, by decide +kernel, rfl, by decide +kernel, by decide +kernel⟩
def spVh (K : PySem.W.Frag) (C : Addr) : Sp := fun vs H Q _ => ∃ (net Dn e b g : Addr) (c : Rq) (xs : List Str) (rs : Rws) (Fs : List Str) (o : PyData) (v : V), vs = [.ref net, .ref e, v] ∧ NetAt C H net Dn c xs rs ∧ NodesAt K H e Fs ∧ (∀ x ∈ Fs, x ∈ xs) ∧ Dv b g H o v ∧ SeqAt.shaped o = true ∧ EvsNo (rs.map (·.1)) Fs o ∧ ∀ H', Same H H' → Q (.bl false) H'
theorem ok_vh {f f1 f2 C : Addr} {fd fd1 fd2 : FuncData} {k : Nat} (F : Fun K "is_valid_history" "is_valid_history" sVh f fd) (X : Txt K mg C)
    (M1 : Meth K C "check_nodes" f1) (b1 : Binds K fd1 ["self", "names"] []) (G1 : FnOk P w K mg base CX0 k f1 fd1 ["self", "names"] (spCn K C))
    (F2 : Fun K "members_after" "members_after" sMa f2 fd2) (b2 : Binds K fd2 pMa []) (g2 : mg "members_after" = some (.ref f2)) (G2 : FnOk P w K mg base CX0 k f2 fd2 pMa (spMa K C)) : FnOk P w K mg base CX0 (k + 1) f fd pVh (spVh K C) := by
  refine F.ok scVh (fun vs H Q E h => ?_) (fun cdv A outer s H vs Q E hr h => ?_)
  · obtain ⟨net, Dn, e, b, g, c, xs, rs, Fs, o, v, rfl, _⟩ := h
    rfl
  · obtain ⟨net, Dn, e, b, g, c, xs, rs, Fs, o, v, rfl, N, he, hin, hd, sh, no, q⟩ := h
    refine ⟨_, pss_cons (ps_expr (pe_meth (pv 0) X.cl M1 G1 hr b1 .nil pass0 (pa_cons (pv 1) pa_nil)))
      (pss_one (ps_ret (pe_cmpR op_notN (pe_call G2 hr (by rfl) g2 F2.kp b2 .nil pass0 (pa_cons (pv 0) (pa_cons (pv 1) (pa_cons (pv 2) pa_nil)))) pe_non (nomark _)))), ?_⟩
    obtain ⟨dx, hn⟩ := N.ob
    refine ⟨.ref net, rfl, net, dx, _, rfl, hn, fld_no Dn (by decide +kernel), .ref e, rfl, net, Dn, e, c, xs, rs, Fs, rfl, N, he, hin, ?_⟩
    exact ⟨.ref net, rfl, .ref e, rfl, v, rfl, net, Dn, e, b, g, c, xs, rs, Fs, o, v, rfl, N, he, hd, sh, no, fun H1 s1 => ⟨rfl, by
      show Q (V.bl !decide (V.non = V.non)) H1
      rw [decide_eq_true (show V.non = V.non from rfl)]
      exact q H1 s1⟩⟩
/-- a name unknown, whatever the events -/
def spHiX (K : PySem.W.Frag) (C CU : Addr) : Sp := fun vs H _ E => ∃ (net D a : Addr) (c : Rq) (xs : List Str) (rs : Rws) (S R : List Str) (u : Str) (v : V), vs = [.ref net, .ref a, v] ∧ NetAt C H net D c xs rs ∧ NodesAt K H a (S ++ u :: R) ∧ (∀ x ∈ S, x ∈ xs) ∧ u ∉ xs ∧ ExE CU u H E
theorem ok_vhX {f f1 C CU : Addr} {fd fd1 : FuncData} {k : Nat} (F : Fun K "is_valid_history" "is_valid_history" sVh f fd) (X : Txt K mg C) (M1 : Meth K C "check_nodes" f1) (b1 : Binds K fd1 ["self", "names"] []) (G1 : FnOk P w K mg base (L2.CX P w) k f1 fd1 ["self", "names"] (spCnX K C CU)) : FnOk P w K mg base (L2.CX P w) (k + 1) f fd pVh (spHiX K C CU) := by
  refine F.okX scVh (fun vs H Q E h => ?_) (fun cdv A outer s H vs Q E hr h => ?_)
  · obtain ⟨net, D, a, c, xs, rs, S, R, u, v, rfl, _⟩ := h
    rfl
  · obtain ⟨net, D, a, c, xs, rs, S, R, u, v, rfl, N, r⟩ := h
    obtain ⟨dx, hn⟩ := N.ob
    refine ⟨_, pss_cons (ps_expr (pe_meth (E := E) (pv 0) X.cl M1 G1 hr b1 .nil (passes_call (takes_of rfl rfl rfl rfl) fun _ _ _ _ h => h) (pa_cons (pv 1) pa_nil))) pss_any, ?_⟩
    exact ⟨.ref net, rfl, net, dx, _, rfl, hn, fld_no D (by decide +kernel), .ref a, rfl, net, D, a, c, xs, rs, S, R, u, rfl, N, r⟩

/-! is_complete_history -/
abbrev sYh : Stmt := top 53
abbrev nYh : List Str := ["network", "faulty", "events", "members"]
theorem scYh : FnScope nYh pVh (defScope sYh) := ⟨rfl, rfl, rfl, by decide +kernel, rfl, by decide +kernel, by decide +kernel⟩
theorem ok_yh {f f1 f2 C : Addr} {fd fd1 fd2 : FuncData} {k : Nat} (F : Fun K "is_complete_history" "is_complete_history" sYh f fd) (X : Txt K mg C)
    (M1 : Meth K C "check_nodes" f1) (b1 : Binds K fd1 ["self", "names"] []) (G1 : FnOk P w K mg base CX0 k f1 fd1 ["self", "names"] (spCn K C))
    (F2 : Fun K "members_after" "members_after" sMa f2 fd2) (b2 : Binds K fd2 pMa []) (g2 : mg "members_after" = some (.ref f2)) (G2 : FnOk P w K mg base CX0 k f2 fd2 pMa (spMa K C)) : FnOk P w K mg base CX0 (k + 1) f fd pVh (spVh K C) := by
  refine F.ok scYh (fun vs H Q E h => ?_) (fun cdv A outer s H vs Q E hr h => ?_)
  · obtain ⟨net, Dn, e, b, g, c, xs, rs, Fs, o, v, rfl, _⟩ := h
    rfl
  · obtain ⟨net, Dn, e, b, g, c, xs, rs, Fs, o, v, rfl, N, he, hin, hd, sh, no, q⟩ := h
    refine ⟨_, pss_cons (ps_expr (pe_meth (pv 0) X.cl M1 G1 hr b1 .nil pass0 (pa_cons (pv 1) pa_nil)))
      (pss_cons (ps_set (i := 3) scYh.nd rfl (Or.inr rfl) (pe_call G2 hr (by rfl) g2 F2.kp b2 .nil pass0 (pa_cons (pv 0) (pa_cons (pv 1) (pa_cons (pv 2) pa_nil)))))
      (pss_cons (ps_if (pt_cmpR op_isN (pv 3) pe_non (nomark _)) (pss_one (ps_ret pe_bl)) pss_nil) pss_any)), ?_⟩
    obtain ⟨dx, hn⟩ := N.ob
    refine ⟨.ref net, rfl, net, dx, _, rfl, hn, fld_no Dn (by decide +kernel), .ref e, rfl, net, Dn, e, c, xs, rs, Fs, rfl, N, he, hin, ?_⟩
    exact ⟨.ref net, rfl, .ref e, rfl, v, rfl, net, Dn, e, b, g, c, xs, rs, Fs, o, v, rfl, N, he, hd, sh, no, fun H1 s1 => ⟨_, rfl, rfl, _, rfl, iteT (q H1 s1)⟩⟩
theorem ok_yhX {f f1 C CU : Addr} {fd fd1 : FuncData} {k : Nat} (F : Fun K "is_complete_history" "is_complete_history" sYh f fd) (X : Txt K mg C) (M1 : Meth K C "check_nodes" f1) (b1 : Binds K fd1 ["self", "names"] []) (G1 : FnOk P w K mg base (L2.CX P w) k f1 fd1 ["self", "names"] (spCnX K C CU)) : FnOk P w K mg base (L2.CX P w) (k + 1) f fd pVh (spHiX K C CU) := by
  refine F.okX scYh (fun vs H Q E h => ?_) (fun cdv A outer s H vs Q E hr h => ?_)
  · obtain ⟨net, D, a, c, xs, rs, S, R, u, v, rfl, _⟩ := h
    rfl
  · obtain ⟨net, D, a, c, xs, rs, S, R, u, v, rfl, N, r⟩ := h
    obtain ⟨dx, hn⟩ := N.ob
    refine ⟨_, pss_cons (ps_expr (pe_meth (E := E) (pv 0) X.cl M1 G1 hr b1 .nil (passes_call (takes_of rfl rfl rfl rfl) fun _ _ _ _ h => h) (pa_cons (pv 1) pa_nil))) pss_any, ?_⟩
    exact ⟨.ref net, rfl, net, dx, _, rfl, hn, fld_no D (by decide +kernel), .ref a, rfl, net, D, a, c, xs, rs, S, R, u, rfl, N, r⟩
end
end Moot
/-! sorted(rows): pairs of a name and a tuple, no name twice, by their names. -/
namespace Moot
open PySem PySem.Spec PySem.W PyProof.Rows
/-- such a pair in the heap -/
def RowIs (h : Heap) (t : Addr) (x : Str) : Prop := ∃ (o : Obj) (tk : Tok) (r : Addr) (n : Nat), h.get? t = some o ∧ o.cls = .type "tuple" ∧ o.data = .seq #[.str x tk, .ref r] n
/-- by the names of these -/
def rowKind (L : List Addr) (nm : Addr → Str) : KeyKind where
  toKeyOrd := strKind.toKeyOrd
  keyOf v := match v with
    | .ref a => if a ∈ L then some (nm a).cps.toList else none
    | _ => none
  dflt := ([] : List Nat)
theorem rowKind_in {L : List Addr} {nm : Addr → Str} {t : Addr} (h : t ∈ L) : (rowKind L nm).keyOf (.ref t) = some (nm t).cps.toList := if_pos h
theorem rowKind_of {L : List Addr} {nm : Addr → Str} {v : Value} {a : List Nat} (h : (rowKind L nm).keyOf v = some a) : ∃ t, v = .ref t ∧ t ∈ L ∧ a = (nm t).cps.toList := by
  cases v with
  | ref t =>
    have h : (if t ∈ L then some (nm t).cps.toList else none) = some a := h
    by_cases m : t ∈ L
    · rw [if_pos m] at h
      exact ⟨t, rfl, m, (Option.some.inj h).symm⟩
    · rw [if_neg m] at h
      cases h
  | _ => cases h
section
variable {prog : Program} {w : World} {A : Around} {s : Shared} {L : List Addr} {nm : Addr → Str}
theorem rows_firsts {h : Heap} {nm : Addr → Str} : ∀ {L : List Addr}, (∀ t ∈ L, RowIs h t (nm t)) → ∃ fs, KatTups h (L.map Value.ref) fs ∧ fs.length = L.length ∧ ∀ f ∈ fs, ∃ x tk, f = Value.str x tk
  | [], _ => ⟨[], KatTups.nil, rfl, fun f m => by cases m⟩
  | t :: L, a => by
    obtain ⟨fs, h1, h2, h3⟩ := rows_firsts (L := L) fun u m => a u (List.mem_cons_of_mem _ m)
    obtain ⟨o, tk, r, n, ho, hc, hd⟩ := a t List.mem_cons_self
    refine ⟨.str (nm t) tk :: fs, KatTups.cons ho hc hd rfl h1, by rw [List.length_cons, List.length_cons, h2], fun f m => ?_⟩
    rcases List.mem_cons.mp m with e | m
    · exact ⟨_, _, e⟩
    · exact h3 f m
theorem rows_sorts (rows : ∀ t ∈ L, RowIs s.heap t (nm t)) (one : ∀ t ∈ L, ∀ u ∈ L, nm t = nm u → t = u) (hu : A.units < cLine) : SortsAt prog w A s (rowKind L nm) (L.map Value.ref) := by
  refine ⟨fun v hv => ?_, tuples' (Value.type "str" != Value.type "tuple"), ?_, fun h2 E Q hq => ?_⟩
  · obtain ⟨t, m, rfl⟩ := List.mem_map.mp hv
    exact ⟨_, rowKind_in m⟩
  · intro E x y a b Q ha hb hq
    obtain ⟨t, rfl, mt, rfl⟩ := rowKind_of ha
    obtain ⟨u, rfl, mu, rfl⟩ := rowKind_of hb
    obtain ⟨o, tk, r, n, ho, hc, hd⟩ := rows t mt
    obtain ⟨o', tk', r', n', ho', hc', hd'⟩ := rows u mu
    have hq : Q (decide ((nm t).cps.toList < (nm u).cps.toList)) s := hq
    refine kat_lt ho hd ho' hd' ?_
    show KatLex prog w A _ (decide (2 < 2)) Q [(.str (nm t) tk, .str (nm u) tk'), (.ref r, .ref r')] 0 s
    refine kat_cons (eqAt_alike (.str (nm t)) (.str (nm u)) A s _ _ _ _ (.str _ _) (.str _ _) rfl (by show A.units + min 0 0 < cLine; omega) prog w _ _ ?_)
    by_cases e : t = u
    · subst e
      have eo : o = o' := by
        rw [ho] at ho'
        exact Option.some.inj ho'
      subst eo
      rw [hd] at hd'
      have er : r = r' := by
        injection hd' with e1 e2
        have := congrArg (fun z : Array Value => z[1]?) e1
        have := Option.some.inj this
        exact Value.ref.inj this
      subst er
      rw [show PyData.eqv (.str (nm t)) (.str (nm t)) = true from beq_self_eq_true (nm t)]
      refine kat_yes (kat_cons (SeqAt.EqAt.same (A := A) (s := s) (.ref r) prog w _ _ (kat_yes (kat_nil ?_))))
      rw [decide_eq_false (List.lt_irrefl _)] at hq
      exact hq
    · have ne : nm t ≠ nm u := fun z => e (one t mt u mu z)
      rw [show PyData.eqv (.str (nm t)) (.str (nm u)) = false from beq_false_of_ne ne]
      exact kat_no (oneLt_str hq)
  · obtain ⟨fs, t1, t2, t3⟩ := rows_firsts rows
    rw [List.length_map] at h2
    refine kat_kind (T := .type "str") t1 (by omega) (fun f hf => ?_) (beq_self_eq_true _) hq
    obtain ⟨x, tk, rfl⟩ := t3 f hf
    exact Looks.of_pure rfl
end
open L2
theorem each_refs : ∀ {vs : List Value} {us : List Addr}, EachIs (fun v t => v = Value.ref t) vs us → Vals (us.map V.ref) vs
  | _, _, .nil => .nil
  | _, _, .cons h t => .cons (by rw [h]; exact rfl) (each_refs t)
theorem refs_each : ∀ {ts : List Addr} {vs : List Value}, Vals (ts.map V.ref) vs → vs = ts.map Value.ref
  | [], _, r => by cases r; rfl
  | t :: ts, _, r => by
    cases r with
    | cons a b =>
      rw [refs_each b]
      have a : _ = Value.ref t := a
      rw [a]
      rfl
theorem each_self {R : Value → Addr → Prop} : ∀ {ts : List Addr}, (∀ t ∈ ts, R (.ref t) t) → EachIs R (ts.map Value.ref) ts
  | [], _ => .nil
  | t :: ts, h => .cons (h t List.mem_cons_self) (each_self fun u m => h u (List.mem_cons_of_mem _ m))
/-- sorted(rows), no name twice -/
def rSortedR (K : PySem.W.Frag) : List V → Hp → VK → Prop := fun vs H Q => ∃ (a : Addr) (ts : List Addr) (nm : Addr → Str), vs = [V.ref a] ∧ SqL K H a (ts.map V.ref) ∧ (∀ t ∈ ts, ∃ r, Rd H t (.tup [.str (nm t), .ref r])) ∧ (∀ t ∈ ts, ∀ u ∈ ts, nm t = nm u → t = u) ∧
  ∀ (us : List Addr) (p : Addr), us.Perm ts → (us.map nm).Pairwise (fun x y => ltCps y.cps.toList x.cps.toList = false) → H p = none → Q (.ref p) (upd H p (.lst (us.map V.ref)))
theorem cr_sortedR {X : Cx} (hu : X.A.units + 64 < cLine) : CallR X (.builtin "sorted") (rSortedR X.K) := by
  rintro pins s σ H xs us Q I r ⟨a, ts, nm, rfl, hs, rows, one, q⟩
  obtain ⟨its, rv, hl, hz⟩ := I.list hs
  rw [Vals.ref1 r]
  have ei := refs_each rv
  have lz : its.length ≤ sizeLine := by rw [← rv.length]; exact hz
  have rows1 : ∀ t ∈ ts, RowIs s.heap t (nm t) := fun t mt => by
    obtain ⟨r, rd⟩ := rows t mt
    obtain ⟨_, its2, r2, o, ho, hc, n, hd⟩ := rd.ok I.hok
    obtain ⟨u1, u2, rfl, ri, rj⟩ := vals2 r2
    obtain ⟨t1, rfl⟩ := ri
    cases rj
    exact ⟨o, t1, r, n, ho, hc, hd⟩
  have S : SortsAt X.prog X.w X.A.in1.in1 { s with heap := sortingHeap (copyHeap s.heap its) (s.heap.objs.size + 1) its } (rowKind ts nm) its := by
    have rows2 : ∀ t ∈ ts, RowIs (sortingHeap (copyHeap s.heap its) (s.heap.objs.size + 1) its) t (nm t) := fun t mt => by
      obtain ⟨o, tk, r, n, ho, h⟩ := rows1 t mt
      exact ⟨o, tk, r, n, sorting_copy_old ho, h⟩
    have := rows_sorts (prog := X.prog) (w := X.w) (A := X.A.in1.in1) (s := { s with heap := sortingHeap (copyHeap s.heap its) (s.heap.objs.size + 1) its }) rows2 one (by show X.A.units + 1 + 1 < cLine; omega)
    rw [ei]
    rw [ei] at this
    exact this
  refine sorted_vals hl.isList S lz ?_
  have tot := sortLe_total strKind.toKeyOrd false (fun t : Addr => (nm t).cps.toList)
  have each : EachIs (fun v t => v = Value.ref t) (sortVals (rowKind ts nm) false its its) (ts.mergeSort (sortLe strKind.toKeyOrd false fun t => (nm t).cps.toList)) := by
    rw [ei]
    exact sortVals_each (κ := rowKind ts nm) (fun t => (nm t).cps.toList) (each_self fun t _ => rfl) (each_self fun t m => rowKind_in m)
  have pm := List.mergeSort_perm ts (sortLe strKind.toKeyOrd false fun t => (nm t).cps.toList)
  have pw := List.pairwise_mergeSort (le := sortLe strKind.toKeyOrd false fun t => (nm t).cps.toList) tot.trans (fun a b => by
    rcases tot.total a b with h | h <;> simp [h]) ts
  generalize ts.mergeSort (sortLe strKind.toKeyOrd false fun t => (nm t).cps.toList) = zs at each pm pw
  obtain ⟨ep, he'⟩ := PyProof.Rows.sortedAll_at s.heap its (sortVals (rowKind ts nm) false its its).toArray
  have hlen : (zs.map V.ref).length ≤ sizeLine := by
    rw [List.length_map, pm.length_eq, ← List.length_map (f := V.ref)]
    exact hz
  refine ⟨.ref _, upd H (s.heap.objs.size + 1) (.lst (zs.map V.ref)), I.laid (t' := s.toks) (fun _ _ => PyProof.Rows.sortedAll_old) (Nat.le_succ _) ⟨hlen, _, ep, each_refs each, he'⟩, rfl, q zs _ pm ?_ (I.hok.fresh (Nat.le_succ _))⟩
  refine List.pairwise_map.mpr (pw.imp fun {x y} h => ?_)
  have h : (!decide ((nm y).cps.toList < (nm x).cps.toList)) = true := h
  rw [ltCps_eq]
  exact (Bool.not_eq_true' _).mp h
end Moot
/-! A set of nested tuples made of a list; it sorted, what stands in it being alike. -/
namespace Moot
open PySem PySem.Spec PyProof.Rows PySem.W L2
section
variable {P : Program} {w : World} {A : Around} {E : Value → Shared → Prop} {s : Shared}
/-- set.__init__ of the new set, over a list of such -/
theorem init_listN {l : Addr} {vs : List Value} {ks : List Mb} (calm : A.handled = none) (hl : s.heap.IsList l vs.toArray) (ek : ks.map (·.2) = vs) (few : vs.length < 63) (hk : ∀ p ∈ ks, KIs s.heap p.1 p.2) (hu : A.units + 10 < cLine) {Q : Shared → Prop}
    (q : ∀ s' h' tk L es ep t, s' = { s with heap := h', toks := tk } → SetN w h' s.heap.objs.size L es ep t → GotN ks ks.length L → (∀ b o, s.heap.get? b = some o → h'.get? b = some o) → Q s') :
    codeAny (model P w) A (.call (.builtin "set.__init__") ⟨[.ref s.heap.objs.size, .ref l], []⟩) (wants (fun r s' => r = .none ∧ Q s') E) { s with heap := s.heap.push (setNew w) } := by
  have at0 : (s.heap.push (setNew w)).get? s.heap.objs.size = some (setNew w) := Heap.get?_push_size _ rfl
  have ty : Shared.TypeIs { s with heap := s.heap.push (setNew w) } (.ref s.heap.objs.size) "set" := ⟨_, at0, rfl⟩
  refine codeAny_call_builtin PySem.F.called_set.init.plain PySem.F.entry_set_init (check_set_init_1 ty ?_)
  have hl1 : (s.heap.push (setNew w)).IsList l vs.toArray := hl.push _
  have hlo := hl1
  obtain ⟨⟨oc, od, oda, osl⟩, ol, hc, nl, hda⟩ := hlo
  dsimp only at hc hda
  subst hc hda
  have n1 := PySem.F.sub_list_set
  have n2 := PySem.F.sub_list_frozenset
  have n3 : (Value.type "list" == Value.type "dict") = false := by decide
  unfold Builtin.«set.__init__» noKeywords Builtin.Frozenset.updateFrom
  generalize it : pyIter = iter
  wp_walk
  subst it
  apply wpAny_pyIter_list hl1
  apply wpAny_bind
  apply wpAny_runValue
  have size1 : (s.heap.push (setNew w)).objs.size = s.heap.objs.size + 1 := size_push' _ _
  have low : l < s.heap.objs.size := by
    obtain ⟨o, ho, _⟩ := hl
    exact Heap.lt_size ho
  have calm2 : A.in1.in1.handled = none := calm
  have ne : l ≠ (s.heap.push (setNew w)).objs.size := by
    rw [size1]
    exact Nat.ne_of_lt (Nat.lt_succ_of_lt low)
  have out : s.heap.objs.size ∉ [(s.heap.push (setNew w)).objs.size, l] := by
    rw [size1]
    intro m
    rcases List.mem_cons.mp m with c | c
    · exact Nat.ne_of_lt (Nat.lt_succ_self _) c
    · exact Nat.ne_of_gt low (List.mem_singleton.mp c)
  have walk := (Walks.list (prog := P) (w := w) calm2 _ l ne vs.toArray).toS
  have lenk : ks.length = vs.length := by rw [← ek, List.length_map]
  refine fill_N walk out ks (by rw [lenk]; simp) (by simpa using few) (fun i v h => ?_) s.heap hk (Heap.get?_none_of_le (Nat.le_refl _)) (fun b hb => ?_) (show A.units + 1 + 1 + 8 < cLine by omega) vs.toArray.size 0 _ (by simp) ?_ (fun b o e => Heap.get?_push_of_some _ (Heap.get?_push_of_some _ e)) ⟨[], #[], 0, _, (setN_new s.heap).kept (fun o => Heap.get?_push_of_some _) (fun p hp => by cases hp), GotN.zero ks⟩ fun s' L es ep t mv S g => ?_
  · have h : vs[i]? = some v := by simpa using h
    rw [← ek, List.getElem?_map] at h
    obtain ⟨p, hp, rfl⟩ := Option.map_eq_some_iff.mp h
    exact ⟨p, hp, rfl⟩
  · have e : b = (s.heap.push (setNew w)).objs.size := by simpa using hb
    rw [e, size1]
    exact Heap.get?_none_of_le (Nat.le_succ _)
  · exact ⟨⟨_, Heap.get?_push_size _ rfl, rfl, rfl⟩, hl1.push _⟩
  · apply wpAny_pure
    have gk : GotN ks ks.length L := by
      have e : ks.length = vs.toArray.size := by rw [lenk]; simp
      rw [e]
      exact g
    refine wpAny_pure ⟨rfl, q s' s'.heap s'.toks L es ep t ?_ S gk fun b o e => ?_⟩
    · rcases s' with ⟨h', g', d', t', o'⟩
      obtain rfl : g' = s.gens := mv.gens
      obtain rfl : d' = s.drawn := mv.drawn
      obtain rfl : o' = s.os := mv.os
      rfl
    · have lt := Heap.lt_size e
      refine mv.heap b o (fun c => ?_) (Heap.get?_push_of_some _ (Heap.get?_push_of_some _ e))
      rcases List.mem_cons.mp c with c | c
      · exact Nat.ne_of_lt lt c
      · refine Nat.ne_of_lt (Nat.lt_succ_of_lt lt) (Eq.trans (List.mem_singleton.mp c) size1)
/-- set(xs) of a list of such -/
theorem set_listN {l : Addr} {vs : List Value} {ks : List Mb} (calm : A.handled = none) (hl : s.heap.IsList l vs.toArray) (ek : ks.map (·.2) = vs) (few : vs.length < 63) (hk : ∀ p ∈ ks, KIs s.heap p.1 p.2) (hu : A.units + 12 < cLine) {Q : Value → Shared → Prop}
    (q : ∀ s' h' tk L es ep t, s' = { s with heap := h', toks := tk } → SetN w h' s.heap.objs.size L es ep t → GotN ks ks.length L → (∀ b o, s.heap.get? b = some o → h'.get? b = some o) → Q (.ref s.heap.objs.size) s') :
    wpAny (model P w) A (call (.type "set") [.ref l]) Q E s := by
  obtain ⟨c, tl, mro⟩ := PySem.F.called_set.mro
  have made := PySem.F.called_set.made
  have sub := PySem.F.called_set.sub
  have f1 := PySem.F.called_set.notType
  have f2 := PySem.F.called_set.canCreate
  have f3 := PySem.F.typeCall_set_1 (.ref l)
  apply wpAny_call
  apply codeAny_of_tree
  show wpAny _ _ (callAny (.type "set") _) _ _ _
  refine wpAny_pure ⟨Code.quiet_builtin _ (by decide +kernel), ?_⟩
  apply codeAny_builtin PySem.F.entry_type_call
  rw [Around.under_plain (weight_type_call_type "set" [.ref l] []) rfl]
  repeat (any_goals (first | assumption | wp_step))
  refine codeAny_mono (new_of (.ref l) (E := E) (Q := fun x s₁ => x = .ref s.heap.objs.size ∧ s₁ = { s with heap := s.heap.push (setNew w) }) ⟨rfl, rfl⟩) ?_
  rintro (e | f) s₁ h
  · exact h
  · cases f with
    | ret x =>
      obtain ⟨rfl, rfl⟩ := h
      have ty : Shared.TypeIs { s with heap := s.heap.push (setNew w) } (.ref s.heap.objs.size) "set" := ⟨_, Heap.get?_push_size _ rfl, rfl⟩
      have g1 := PySem.F.called_set.init.lookup
      have g2 := PySem.F.called_set.init.bind (.ref s.heap.objs.size)
      repeat (any_goals (first | assumption | wp_step))
      refine codeAny_mono (init_listN (A := A.in1) (E := E) (Q := fun s' => Q (.ref s.heap.objs.size) s') calm hl ek few hk (show A.units + 1 + 10 < cLine by omega) q) ?_
      rintro (e | f) s₂ h
      · exact h
      · cases f with
        | ret r =>
          obtain ⟨rfl, F⟩ := h
          exact wpAny_pure (wpAny_pure F)
        | _ => exact h.elim
    | _ => exact h.elim
/-- a set of these, by what stands in it -/
def SetW (w : World) (h : Heap) (a : Addr) (us : List Addr) : Prop := ∃ (es : Array (Int × Value)) (ep : Nat) (t : SetTable), (∃ o, h.get? a = some o ∧ o.ExactSet ∧ o.data = .set es ep t) ∧ t.fits es.size = true ∧ es.size < 64 ∧ Ris t.place.toList ∧ (w.params.followText "set-order" = true ∨ t.led = true) ∧ ∀ v ∈ es.toList.map (·.2), ∃ b ∈ us, v = .ref b
def SetWO (w : World) (a : Addr) (us : List Addr) : HO := .ext fun h => SetW w h a us
theorem setWO_new {H : Hp} {h : Heap} {a : Addr} {us : List Addr} (R : SetW w h a us) : ObjOk P w H h a (SetWO w a us) := by
  have ⟨es, ep, t, ⟨o, ho, r⟩, q⟩ := R
  refine ⟨R, ⟨o, ho⟩, fun h1 h2 p k => ?_⟩
  have ⟨es', ep', t', ⟨o', ho', r'⟩, q'⟩ : SetW w h1 a us := p
  exact ⟨es', ep', t', ⟨o', k o' ho', r'⟩, q'⟩
theorem SetN.toW {h : Heap} {a : Addr} {L : List Mb} {es : Array (Int × Value)} {ep : Nat} {t : SetTable} {us : List Addr} (R : SetN w h a L es ep t) (sub : ∀ p ∈ L, ∃ b ∈ us, p.2 = .ref b) : SetW w h a us := by
  refine ⟨es, ep, t, R.ob, R.fits, by rw [R.size]; exact R.few, R.tab.ris, R.led, fun v m => ?_⟩
  rw [R.rows] at m
  unfold rowsN at m
  rw [List.map_map] at m
  obtain ⟨p, mp, rfl⟩ := List.mem_map.mp m
  exact sub p mp
/-- sorted(set) -/
theorem sorted_setW {a : Addr} {us : List Addr} {enc : Addr → PyData} {Q : Value → Shared → Prop} (R : SetW w s.heap a us) (hh : A.handled = none) (rd : ∀ b ∈ us, ∃ as, Reads s.heap (.ref b) (enc b) as)
    (al : ∀ b ∈ us, ∀ c ∈ us, alike (enc b) (enc c) = true) (so : ∀ b ∈ us, ∃ x r, enc b = .tuple (x :: r)) (dep : ∀ b ∈ us, (enc b).depth ≤ 8) (hu : A.units + 64 < cLine)
    (hQ : ∀ s' p (ts : List Addr) (c : Nat), (∀ b o, s.heap.get? b = some o → s'.heap.get? b = some o) → s'.gens = s.gens → s'.os = s.os → s.heap.objs.size ≤ p →
      s'.heap.get? p = some (seqObj "list" (ts.map Value.ref).toArray c) → ts.length < 64 → (∀ t ∈ ts, t ∈ us) → Q (.ref p) s') :
    wpAny (model P w) A (call (.builtin "sorted") [.ref a]) Q E s := by
  obtain ⟨es, ep, t, ⟨o, ho, hex, hd⟩, fit, few, ris, led, vals⟩ := R
  refine Calls.call_function_entry kind_sorted plain_sorted entry_sorted (args_sorted1 _) ?_
  unfold Builtin.«sorted»
  refine wpAny_bind (m := checkCount "sorted" 1 1 _) (wpAny_pure ?_)
  refine wpAny_bind (collect_set (A := A.in1) hh ⟨o, ho, hex.1, hd⟩ fit (by unfold scanBound; omega) ris led fun s1 vs k1 hz g1 o1 pm => ?_)
  have ord : ∀ vs : List Value, (∀ v ∈ vs, ∃ b ∈ us, v = Value.ref b) → ∃ ts : List Addr, vs = ts.map Value.ref ∧ ∀ t ∈ ts, t ∈ us := by
    intro vs
    induction vs with
    | nil => intro _; exact ⟨[], rfl, fun q hq => (by cases hq)⟩
    | cons v vs ih =>
      intro hv
      obtain ⟨q, hq, e⟩ := hv v List.mem_cons_self
      obtain ⟨L1, e1, hs⟩ := ih fun u hu => hv u (List.mem_cons_of_mem _ hu)
      refine ⟨q :: L1, by rw [List.map_cons, e, e1], fun r hr => ?_⟩
      rcases List.mem_cons.mp hr with z | z
      · rw [z]; exact hq
      · exact hs r z
  obtain ⟨ts, rfl, sub⟩ := ord vs fun v m => vals v (pm.mem_iff.mp m)
  have tl : ts.length < 64 := by
    have := pm.length_eq
    rw [List.length_map, List.length_map] at this
    have e2 : es.toList.length = es.size := Array.length_toList
    omega
  have hL : (ts.map Value.ref).length ≤ sizeLine := by rw [List.length_map, sizeLine_eq]; omega
  refine wpAny_bind (wpAny_newList ?_ hL)
  have hoL : (s1.heap.push (seqObj "list" (ts.map Value.ref).toArray 0)).get? s1.heap.objs.size = some (seqObj "list" (ts.map Value.ref).toArray 0) := Heap.get?_push_size _ rfl
  have old : ∀ b o, s.heap.get? b = some o → (sortingHeap (s1.heap.push (seqObj "list" (ts.map Value.ref).toArray 0)) s1.heap.objs.size (ts.map Value.ref)).get? b = some o := fun b o e =>
    sortingHeap_old (Nat.ne_of_lt (Heap.lt_size (k1 b o e))) (Heap.get?_push_of_some _ (k1 b o e))
  let sS : Shared := { s1 with heap := sortingHeap (s1.heap.push (seqObj "list" (ts.map Value.ref).toArray 0)) s1.heap.objs.size (ts.map Value.ref) }
  have er : ∀ us' : List Addr, (∀ t ∈ us', t ∈ us) → EachIs (fun v d => ∃ as, Reads sS.heap v d as) (us'.map Value.ref) (us'.map enc) := by
    intro us'
    induction us' with
    | nil => intro _; exact .nil
    | cons t us' ih =>
      intro h
      obtain ⟨as, r⟩ := rd t (h t List.mem_cons_self)
      exact .cons ⟨as, Reads.keeps old r⟩ (ih fun u m => h u (List.mem_cons_of_mem _ m))
  have hal : AllAlike (ts.map enc) := fun d md d' md' => by
    obtain ⟨b, mb, rfl⟩ := List.mem_map.mp md
    obtain ⟨c, mc, rfl⟩ := List.mem_map.mp md'
    exact al b (sub b mb) c (sub c mc)
  have hk : Sortable (ts.map enc) := .inl fun d md => by
    obtain ⟨b, mb, rfl⟩ := List.mem_map.mp md
    exact so b (sub b mb)
  have S : SortsAt P w A.in1.in1 sS (dataKind sS.heap (ts.map enc)) (ts.map Value.ref) := SortsAt.data (s := sS) (er ts sub) hal hk fun d md => by
    obtain ⟨b, mb, rfl⟩ := List.mem_map.mp md
    have := dep b (sub b mb)
    show A.units + 1 + 1 + _ < cLine
    omega
  have each : EachIs (fun v t => v = Value.ref t) (sortVals (dataKind sS.heap (ts.map enc)) false (ts.map Value.ref) (ts.map Value.ref)) (ts.mergeSort (sortLe (dataKind sS.heap (ts.map enc)).toKeyOrd false fun t => keyToks (enc t))) :=
    sortVals_each (κ := dataKind sS.heap (ts.map enc)) (fun t => keyToks (enc t)) (each_self fun t _ => rfl) (each_self fun t m => by
      obtain ⟨as, r⟩ := rd t (sub t m)
      exact dataKind_some hal (List.mem_map.mpr ⟨t, m, rfl⟩) (Reads.keeps old r))
  have pz := List.mergeSort_perm ts (sortLe (dataKind sS.heap (ts.map enc)).toKeyOrd false fun t => keyToks (enc t))
  generalize ts.mergeSort (sortLe (dataKind sS.heap (ts.map enc)).toKeyOrd false fun t => keyToks (enc t)) = zs at each pz
  have ez : sortVals (dataKind sS.heap (ts.map enc)) false (ts.map Value.ref) (ts.map Value.ref) = zs.map Value.ref := refs_each (each_refs each)
  refine wpAny_bind (wpAny_holding (wpAny_call_entry slot_list_sort ⟨_, hoL, rfl⟩ entry_list_sort (list_sort_vals (s := { s1 with heap := s1.heap.push (seqObj "list" (ts.map Value.ref).toArray 0) }) hoL S hL ⟨_, rfl, ?_⟩) (args_list_sort _)))
  obtain ⟨c, hc⟩ := sortedHeap_at (vs := ts.map Value.ref) (out := (zs.map Value.ref).toArray) hoL
  rw [ez]
  refine wpAny_pure ⟨_, rfl, hQ _ s1.heap.objs.size zs c (fun b u e => ?_) g1 o1 hz hc (by rw [pz.length_eq]; exact tl) fun t m => sub t (pz.mem_iff.mp m)⟩
  have q := k1 b u e
  have hlt := Heap.lt_size q
  show (sortedHeap (s1.heap.push (seqObj "list" (ts.map Value.ref).toArray 0)) s1.heap.objs.size (ts.map Value.ref) (zs.map Value.ref).toArray).get? b = some u
  rw [sortedHeap_old (Nat.ne_of_lt hlt) (by rw [size_push']; exact Nat.lt_succ_of_lt hlt)]
  exact Heap.get?_push_of_some _ q
end
section
variable {X : Cx}
/-- set(xs), xs a list of nested tuples -/
def rSetL (K : PySem.W.Frag) (w : World) : List V → Hp → VK → Prop := fun vs H Q => ∃ (l : Addr) (us : List Addr), vs = [V.ref l] ∧ SqL K H l (us.map V.ref) ∧ (∀ b ∈ us, ∃ d k, Dp K H (.ref b) d ∧ nkD d = some k ∧ k.depth ≤ 7) ∧ us.length < 63 ∧ ∀ a, H a = none → Q (.ref a) (upd H a (SetWO w a us))
theorem cr_setL (calm : X.calm = true) (hu : X.A.units + 64 < cLine) : CallR X (.type "set") (rSetL X.K X.w) := by
  rintro pins s σ H xs u Q I r ⟨l, us, rfl, hl, hd, few, q⟩
  rw [Vals.ref1 r]
  obtain ⟨its, rv, pl, hz⟩ := I.list hl
  have ei := refs_each rv
  have key : ∀ b ∈ us, ∃ k, KIs s.heap k (.ref b) := fun b mb => by
    obtain ⟨d, k, dp, e, le⟩ := hd b mb
    obtain ⟨as, rr⟩ := Dp.reads I d _ _ dp (show RelV (.ref b) (.ref b) from rfl)
    exact ⟨k, nk_is d _ _ k rr e, le, .inr ⟨b, rfl⟩⟩
  have mk : ∀ us : List Addr, (∀ b ∈ us, ∃ k, KIs s.heap k (.ref b)) → ∃ ks : List Mb, ks.map (·.2) = us.map Value.ref ∧ ∀ p ∈ ks, KIs s.heap p.1 p.2 := by
    intro us
    induction us with
    | nil => intro _; exact ⟨[], rfl, fun p m => (by cases m)⟩
    | cons b us ih =>
      intro h
      obtain ⟨k, hk⟩ := h b List.mem_cons_self
      obtain ⟨ks, e, hs⟩ := ih fun c m => h c (List.mem_cons_of_mem _ m)
      exact ⟨(k, .ref b) :: ks, by rw [List.map_cons, e, List.map_cons], fun p m => (List.mem_cons.mp m).elim (fun e => by rw [e]; exact hk) (hs p)⟩
  obtain ⟨ks, e2, e3⟩ := mk us key
  have hn : H s.heap.objs.size = none := I.hok.fresh (Nat.le_refl _)
  refine set_listN (ks := ks) (vs := its) (I.ok.hd calm) pl.isList (by rw [e2, ei]) (by rw [ei, List.length_map]; exact few) e3 (by omega) fun s' h' tk L es ep t es' S g kept => ?_
  subst es'
  refine ⟨.ref s.heap.objs.size, upd H s.heap.objs.size (SetWO X.w s.heap.objs.size us), I.laid (t' := tk) kept (Nat.le_refl _) (setWO_new (S.toW fun p mp => ?_)), rfl, q _ hn⟩
  have m1 : p.2 ∈ ks.map (·.2) := List.mem_map.mpr ⟨p, List.mem_of_mem_take (g.sub p mp), rfl⟩
  rw [e2] at m1
  obtain ⟨b, mb, e⟩ := List.mem_map.mp m1
  exact ⟨b, mb, e.symm⟩
/-- sorted(set) -/
def rSortW (K : PySem.W.Frag) (w : World) : List V → Hp → VK → Prop := fun vs H Q => ∃ (a : Addr) (us : List Addr) (enc : Addr → PyData), vs = [V.ref a] ∧ H a = some (SetWO w a us) ∧ (∀ b ∈ us, Dp K H (.ref b) (enc b)) ∧ (∀ b ∈ us, ∀ c ∈ us, alike (enc b) (enc c) = true) ∧ (∀ b ∈ us, ∃ x r, enc b = .tuple (x :: r)) ∧ (∀ b ∈ us, (enc b).depth ≤ 8) ∧
  ∀ (ts : List Addr) (p : Addr), (∀ t ∈ ts, t ∈ us) → ts.length < 64 → H p = none → Q (.ref p) (upd H p (.lst (ts.map V.ref)))
theorem cr_sortW (hc : X.calm = true) (hu : X.A.units + 64 < cLine) : CallR X (.builtin "sorted") (rSortW X.K X.w) := by
  rintro pins s σ H xs u Q I r ⟨a, us, enc, rfl, ha, rd, al, so, dep, q⟩
  have R : SetW X.w s.heap a us := (I.hok a _ ha).1
  rw [Vals.ref1 r]
  refine sorted_setW R (I.ok.hd hc) (fun b mb => Dp.reads I _ _ _ (rd b mb) (show RelV (.ref b) (.ref b) from rfl)) al so dep hu fun s' p ts c k g o hp hg few sub => ?_
  have hlen : (ts.map V.ref).length ≤ sizeLine := by rw [List.length_map, sizeLine_eq]; omega
  have hn : H p = none := I.hok.fresh hp
  have hv : Vals (ts.map V.ref) (ts.map Value.ref) := each_refs (each_self fun t _ => rfl)
  have J : Inv X pins σ (upd H p (.lst (ts.map V.ref))) { s with heap := s'.heap, gens := s'.gens, drawn := s'.drawn, toks := s'.toks } :=
    I.call (ch := []) (Un.laid k hp hn) (I.hok.laid k hp ⟨hlen, ts.map Value.ref, c, hv, hg⟩) (by rw [g]; exact I.bare) (fun _ z => nomatch z)
  have e : s' = { s with heap := s'.heap, gens := s'.gens, drawn := s'.drawn, toks := s'.toks } := by
    cases s'
    cases s
    cases o
    rfl
  rw [e]
  exact ⟨.ref p, _, J, rfl, q ts p sub few hn⟩
end
end Moot
/-! Data that the law draws; its statements. -/
namespace Moot
open PySem PySem.Spec PyProof.Rows L2
structure Lay (n : Nat) (d : PyData) : Prop where
  lay : d.canLay0 = true
  dep : d.depth ≤ n
theorem Lay.more {n m : Nat} {d : PyData} (h : Lay n d) (le : n ≤ m) : Lay m d := ⟨h.lay, Nat.le_trans h.dep le⟩
theorem Lay.shaped {n : Nat} {d : PyData} (h : Lay n d) (le : n ≤ 64) : SeqAt.shaped d = true := by
  unfold SeqAt.shaped
  rw [h.lay]
  exact decide_eq_true (Nat.le_trans h.dep le)
theorem Lay.str {x : Str} (h : PyData.strOk x = true) : Lay 0 (.str x) := ⟨h, Nat.le_refl 0⟩
theorem Lay.int (i : Int) : Lay 0 (.int i) := ⟨rfl, Nat.le_refl 0⟩
theorem lay_all : ∀ {n : Nat} {ds : List PyData}, (∀ d ∈ ds, Lay n d) → PyData.canLayAll0 ds = true ∧ PyData.depthAll ds ≤ n
  | n, [], _ => ⟨rfl, Nat.zero_le n⟩
  | n, d :: ds, h => by
    obtain ⟨a, b⟩ := lay_all (ds := ds) fun e m => h e (List.mem_cons_of_mem _ m)
    have c := h d List.mem_cons_self
    refine ⟨?_, ?_⟩
    · show (d.canLay0 && PyData.canLayAll0 ds) = true
      rw [c.lay, a]
      rfl
    · exact Nat.max_le.mpr ⟨c.dep, b⟩
theorem Lay.tup {n : Nat} {ds : List PyData} (h : ∀ d ∈ ds, Lay n d) : Lay (n + 1) (.tuple ds) := by
  obtain ⟨a, b⟩ := lay_all h
  exact ⟨a, Nat.succ_le_succ b⟩
theorem Lay.lst {n : Nat} {ds : List PyData} (h : ∀ d ∈ ds, Lay n d) : Lay (n + 1) (.list ds) := by
  obtain ⟨a, b⟩ := lay_all h
  exact ⟨a, Nat.succ_le_succ b⟩
theorem Lay.of {n : Nat} {d : PyData} (h : (d.canLay0 && decide (d.depth ≤ n)) = true) : Lay n d := by
  rw [Bool.and_eq_true, decide_eq_true_eq] at h
  exact ⟨h.1, h.2⟩
theorem Box.off {H : Hp} {b g m a : Addr} {n : Nat} {xs : List V} (B : Box H b g m n) (h : Rd H a (.tup xs)) : a ≠ b ∧ a ≠ g := by
  obtain ⟨x, c, gs, ms, hb, hg, _⟩ := B.ex
  refine ⟨fun e => ?_, fun e => ?_⟩
  · rw [e] at h
    rcases h with h | ⟨o, h⟩ <;> (rw [hb] at h; cases h)
  · rw [e] at h
    rcases h with h | ⟨o, h⟩ <;> (rw [hg] at h; cases h)
theorem Dv.mkT {b g p : Addr} {H : Hp} {ds : List PyData} {us : List V} (h : Rd H p (.tup us)) (pb : p ≠ b) (pg : p ≠ g) (all : DvAll b g H ds us) : Dv b g H (.tuple ds) (.ref p) := ⟨p, us, rfl, pb, pg, h, all⟩
theorem Dv.mkL {b g p : Addr} {H : Hp} {ds : List PyData} {us : List V} (h : H p = some (.lst us)) (pb : p ≠ b) (pg : p ≠ g) (all : DvAll b g H ds us) : Dv b g H (.list ds) (.ref p) := ⟨p, us, rfl, pb, pg, h, all⟩
theorem DvAll.cons {b g : Addr} {H : Hp} {d : PyData} {ds : List PyData} {v : V} {us : List V} (h : Dv b g H d v) (t : DvAll b g H ds us) : DvAll b g H (d :: ds) (v :: us) := ⟨v, us, rfl, h, t⟩
theorem DvAll.nil {b g : Addr} {H : Hp} : DvAll b g H [] [] := rfl
/-- a requirement as data -/
def prD : Part → PyData
  | .inl x => .str x
  | .inr (c, ns) => .tuple [.int c, .tuple (ns.map .str)]
def reqD (c : Int) (ps : List Part) : PyData := .tuple [.int c, .tuple (ps.map prD)]
theorem dv_parts {H : Hp} {b g m : Addr} {n : Nat} (B : Box H b g m n) : ∀ {vs : List V} {ps : List Part}, Parts H vs ps → DvAll b g H (ps.map prD) vs := by
  intro vs ps h
  induction h with
  | nil => exact rfl
  | @cons v vs p ps a _ ih =>
    refine DvAll.cons ?_ ih
    cases p with
    | inl x => exact a
    | inr y =>
      obtain ⟨c, ns⟩ := y
      obtain ⟨q, p, rfl, h1, h2⟩ := a
      obtain ⟨qb, qg⟩ := B.off (.inl h1)
      obtain ⟨pb, pg⟩ := B.off (.inl h2)
      exact Dv.mkT (.inl h1) qb qg (.cons rfl (.cons (Dv.mkT (.inl h2) pb pg (DvAll.strs ns)) .nil))
theorem dv_req {H : Hp} {b g m r : Addr} {n : Nat} {c : Int} {ps : List Part} (B : Box H b g m n) (R : ReqAt H r c ps) : Dv b g H (reqD c ps) (.ref r) := by
  obtain ⟨p, vs, h1, h2, h3⟩ := R
  have hp : Rd H p (.tup vs) := by
    rcases h2 with ⟨o, _, e⟩ | ⟨e, _⟩
    · exact .inr ⟨o, e⟩
    · exact .inl e
  obtain ⟨rb, rg⟩ := B.off (.inl h1)
  obtain ⟨pb, pg⟩ := B.off hp
  exact Dv.mkT (.inl h1) rb rg (.cons rfl (.cons (Dv.mkT hp pb pg (dv_parts B h3)) .nil))
theorem layT_strs {ns : List Str} (h : ∀ x ∈ ns, PyData.strOk x = true) : Lay 1 (.tuple (ns.map .str)) := Lay.tup fun d m => by
  obtain ⟨x, mx, rfl⟩ := List.mem_map.mp m
  exact Lay.str (h x mx)
theorem lay_req {xs : List Str} {c : Int} {ps : List Part} (h : Valid xs c ps) : Lay 4 (reqD c ps) := by
  refine Lay.tup fun d m => ?_
  rcases List.mem_cons.mp m with rfl | m
  · exact (Lay.int c).more (by decide)
  · rw [List.mem_singleton.mp m]
    refine Lay.tup fun d m => ?_
    obtain ⟨p, mp, rfl⟩ := List.mem_map.mp m
    cases p with
    | inl x => exact (Lay.str (h.nm x (h.sub x (mem_names mp List.mem_cons_self))).ok).more (by decide)
    | inr y =>
      obtain ⟨d, ns⟩ := y
      refine Lay.tup fun e m => ?_
      rcases List.mem_cons.mp m with rfl | m
      · exact (Lay.int d).more (by decide)
      · rw [List.mem_singleton.mp m]
        exact layT_strs fun x mx => ((h.inn d ns mp).2.2.2.2 x mx).ok
theorem hu64 {A : Around} {k : Nat} (hr : Room k A) : A.units + 64 < cLine := by
  have := hu65 hr
  omega
/-- a new object away from the box -/
theorem new_ho {H : Hp} {b g m p : Addr} {n : Nat} (B : Box H b g m n) (np : H p = none) (u : HO) : ∃ H', H' = upd H p u ∧ Same H H' ∧ H' p = some u ∧ p ≠ b ∧ p ≠ g ∧ Box H' b g m n := by
  obtain ⟨a, c, _⟩ := B.ne np
  have s := same_new (o := u) np
  exact ⟨_, rfl, s, upd_same, a, c, B.same s⟩
theorem DvAll.refs {b g : Addr} {H : Hp} {enc : Addr → PyData} : ∀ {ts : List Addr}, (∀ t ∈ ts, Dv b g H (enc t) (.ref t)) → DvAll b g H (ts.map enc) (ts.map V.ref)
  | [], _ => rfl
  | t :: ts, h => .cons (h t List.mem_cons_self) (DvAll.refs fun u m => h u (List.mem_cons_of_mem _ m))
/-- the statement on (1, "x") -/
def stD (z : Str) : PyData := .tuple [.tuple [.int 1, .str "x"], .str z]
section
variable {P : Program} {w : World} {K : PySem.W.Frag} {mg : Str → Option Value} {base : Heap}
/-! _law_statements -/
abbrev sLst : Stmt := top 69
abbrev pLst : List Str := ["_law_box_here", "_law_ballots", "_law_many"]
abbrev nLst : List Str := ["_law_box_here", "_law_ballots", "_law_many", "_law_found", "_law_k", "_law_answer"]
theorem scLst : FnScope nLst pLst (defScope sLst) := ⟨rfl, rfl, rfl, by decide +kernel, rfl, by decide +kernel, by decide +kernel⟩
def spLst : Sp := fun vs H Q _ => ∃ (b g m l t : Addr) (n k : Nat), vs = [.ref b, .ref l, .int k] ∧ Box H b g m n ∧ n ≤ 700000 ∧ H l = some (.lst [.ref t]) ∧ l ≠ b ∧ l ≠ g ∧ H t = some (.tup [.int 1, .str "x"]) ∧ k ≤ 4 ∧
  ∀ (p : Addr) (d : PyData) (H' : Hp), Dv b g H' d (.ref p) → Lay 3 d → Box H' b g m (n + 20) → Keep b g H H' → Q (.ref p) H'
theorem ok_lst {f f1 : Addr} {fd fd1 : FuncData} {k : Nat} (F : Fun K "_law_statements" "_law_statements" sLst f fd) (T : Blt mg)
    (FT : Fun K "_law_take" "_law_take" sTake f1 fd1) (bT : Binds K fd1 ["_law_box_here", "_law_size"] []) (gT : mg "_law_take" = some (.ref f1)) (GT : FnOk P w K mg base CX0 k f1 fd1 ["_law_box_here", "_law_size"] spTake) : FnOk P w K mg base CX0 (k + 1) f fd pLst spLst := by
  refine F.ok scLst (fun vs H Q E h => ?_) (fun cdv A outer s H vs Q E hr h => ?_)
  · obtain ⟨b, g, m, l, t, n, k, rfl, _⟩ := h
    rfl
  · obtain ⟨b, g, m, l, t, n, kk, rfl, B, hn, hl, lb, lg, ht, k4, q⟩ := h
    refine ⟨_, pss_cons (ps_set (i := 3) scLst.nd rfl (Or.inl rfl) (pe_lst pa_nil))
      (pss_cons (ps_for PassesOwn.never rfl (pi_range1 rfl T.rng (pa_cons (pe_call GT hr (by rfl) gT FT.kp bT .nil pass0 (pa_cons (pv 0) (pa_cons (pe_op op_add (pv 2) pe_int) pa_nil))) pa_nil)) (pg_name (i := 4) scLst.nd rfl (Or.inl rfl))
        (pss_cons (ps_set (i := 5) scLst.nd rfl (Or.inl rfl) (pe_ix ix_list (pe_lst (pa_cons pe_str (pa_cons pe_str (pa_cons pe_str pa_nil)))) (pe_call GT hr (by rfl) gT FT.kp bT .nil pass0 (pa_cons (pv 0) (pa_cons pe_int pa_nil))) (fun _ _ => rfl)))
        (pss_one (ps_expr (pe_bm PySem.F.plainAttrs_list PySem.F.slot_list_append PySem.F.type_list_append mt_append (pv 3) (pa_cons (pe_tup (pa_cons (pe_ix ix_list (pv 1) (pe_call GT hr (by rfl) gT FT.kp bT .nil pass0 (pa_cons (pv 0) (pa_cons (pe_callB call_len_seq (by rfl) T.len PySem.boot_len (pa_cons (pv 1) pa_nil)) pa_nil))) (fun _ _ => rfl)) (pa_cons (pv 5) pa_nil))) pa_nil))))))
      (pss_one (ps_ret (pe_callTy call_tuple_of (by rfl) T.tup (by decide +kernel) (pa_cons (pe_callB (cr_sortW rfl (hu64 hr)) (by rfl) T.srt (by decide +kernel) (pa_cons (pe_callTy (cr_setL rfl (hu64 hr)) (by rfl) T.set (by decide +kernel) (pa_cons (pv 3) pa_nil)) pa_nil)) pa_nil))))), ?_⟩
    refine ⟨Nat.zero_le _, fun fl nfl => ?_⟩
    obtain ⟨H1, e1, s1, h1, flb, flg, B1⟩ := new_ho B nfl (.lst [])
    rw [← e1]
    refine ⟨.ref b, rfl, .int kk, rfl, _, _, rfl, rfl, b, g, m, n, (kk : Int) + 1, rfl, B1, by omega, by omega, by omega, fun v H2 v0 v1 B2 K2 => ?_⟩
    obtain ⟨j, rfl⟩ := Int.eq_ofNat_of_zero_le v0
    have K02 : Keep b g H H2 := (Same.keep s1).trans K2
    refine ⟨(j : Int), rfl, by omega, by omega, for_range (lo := 0) (n := ((j : Int)).toNat) (fun i σ H3 => ∃ (ts : List Addr) (y4 y5 : Option V), σ = [some (.ref b), some (.ref l), some (.int kk), some (.ref fl), y4, y5] ∧
      Box H3 b g m (n + 1 + 2 * i) ∧ Keep b g H H3 ∧ H3 fl = some (.lst (ts.map V.ref)) ∧ ts.length = i ∧ ∀ u ∈ ts, ∃ z : Str, (z = "commit" ∨ z = "abort") ∧ H3 u = some (.tup [.ref t, .str z]) ∧ u ≠ b ∧ u ≠ g) ?_ ?_ ?_⟩
    · exact ⟨[], none, none, rfl, B2, K02, K2 _ _ h1 flb flg, rfl, fun u m => (by cases m)⟩
    · rintro i σ H3 hi ⟨ts, y4, y5, rfl, B3, K3, hf, tl, all⟩
      have ji : j ≤ 4 := by omega
      have hi : i < j := by omega
      refine ⟨by show 3 ≤ sizeLine; decide, fun l5 n5 => ?_⟩
      obtain ⟨H4, e4, s4, h4, l5b, l5g, B4⟩ := new_ho B3 n5 (.lst [.str "commit", .str "commit", .str "abort"])
      rw [← e4]
      refine ⟨.ref b, rfl, b, g, m, _, 3, rfl, B4, by omega, by decide, by decide, fun c H5 c0 c1 B5 K5 => ?_⟩
      have K35 : Keep b g H3 H5 := (Same.keep s4).trans K5
      have K05 := K3.trans K35
      obtain ⟨z, atz, hz⟩ : ∃ z : Str, atI [V.str "commit", .str "commit", .str "abort"] c = some (.str z) ∧ (z = "commit" ∨ z = "abort") := by
        have cw : c = 0 ∨ c = 1 ∨ c = 2 := by omega
        rcases cw with rfl | rfl | rfl
        · exact ⟨"commit", rfl, .inl rfl⟩
        · exact ⟨"commit", rfl, .inl rfl⟩
        · exact ⟨"abort", rfl, .inr rfl⟩
      refine ⟨l5, _, c, .str z, rfl, rfl, SqL.of (K5 _ _ h4 l5b l5g), atz, ?_⟩
      have hf5 := K35 _ _ hf flb flg
      have hl5 := K05 _ _ hl lb lg
      refine ⟨.ref fl, rfl, .inl ⟨rfl, _, SqL.of hf5⟩, .ref l, rfl, .ref b, rfl, .ref l, rfl, l, _, rfl, .inl (SqL.of hl5), b, g, m, _, 1, rfl, B5, by omega, by decide, by decide, fun d H6 d0 d1 B6 K6 => ?_⟩
      obtain rfl : d = 0 := by omega
      refine ⟨l, _, 0, .ref t, rfl, rfl, SqL.of (K6 _ _ hl5 lb lg), atI_nat (j := 0) rfl, .str z, rfl, by show 2 ≤ sizeLine; decide, fun u nu => ?_⟩
      obtain ⟨H7, e7, s7, h7, ub, ug, B7⟩ := new_ho B6 nu (.tup [.ref t, .str z])
      rw [← e7]
      have hf7 := s7 _ _ (K6 _ _ hf5 flb flg)
      have K37 := (K35.trans K6).trans (Same.keep s7)
      have n3 : H3 fl ≠ none := fun e => by rw [hf] at e; cases e
      have off : ∀ a o, H7 a = some o → a ≠ fl → upd H7 fl (.lst (ts.map V.ref ++ [.ref u])) a = some o := fun a o e ne => by
        rw [upd_ne ne]
        exact e
      have fm : fl ≠ m := by
        obtain ⟨_, _, fm⟩ := B.ne nfl
        exact fm
      refine ⟨fl, _, _, rfl, rfl, hf7, ?_, ts ++ [u], _, _, rfl, (B7.store flb flg fm).more (by omega), fun a o e n1 n2 => ?_, ?_, by rw [List.length_append, tl]; rfl, fun u' mu => ?_⟩
      · rw [List.length_map]
        exact small1000 (by omega)
      · exact off _ _ ((K3.trans K37) _ _ e n1 n2) (ne_of_none e nfl)
      · rw [upd_same, List.map_append]
        rfl
      · rcases List.mem_append.mp mu with mu | mu
        · obtain ⟨z', hz', h', n1, n2⟩ := all u' mu
          exact ⟨z', hz', off _ _ (K37 _ _ h' n1 n2) (fun e => by rw [e, hf] at h'; cases h'), n1, n2⟩
        · rw [List.mem_singleton.mp mu]
          exact ⟨z, hz, off _ _ h7 (fun e => by rw [e, hf7] at h7; cases h7), ub, ug⟩
    · rintro σ H3 ⟨ts, y4, y5, rfl, B3, K3, hf, tl, all⟩
      have ht3 := K3 _ _ ht (B.off (.inl ht)).1 (B.off (.inl ht)).2
      obtain ⟨enc, he⟩ : ∃ enc : Addr → PyData, ∀ u ∈ ts, ∃ z : Str, (z = "commit" ∨ z = "abort") ∧ H3 u = some (.tup [.ref t, .str z]) ∧ u ≠ b ∧ u ≠ g ∧ enc u = stD z := by
        refine ⟨fun u => match H3 u with | some (.tup [_, .str z]) => stD z | _ => .none, fun u mu => ?_⟩
        obtain ⟨z, hz, h, n1, n2⟩ := all u mu
        refine ⟨z, hz, h, n1, n2, ?_⟩
        show (match H3 u with | some (.tup [_, .str z]) => stD z | _ => PyData.none) = stD z
        rw [h]
      have dp : ∀ {H' : Hp}, Same H3 H' → ∀ u ∈ ts, Dp K H' (.ref u) (enc u) := fun s u mu => by
        obtain ⟨z, hz, h, n1, n2, e⟩ := he u mu
        rw [e]
        exact .tup (SqT.of (s _ _ h)) (.cons (.tup (SqT.of (s _ _ ht3)) (.cons (.int 1) (.cons (.str "x") .nil))) (.cons (.str z) .nil))
      refine ⟨.ref fl, rfl, fl, ts, rfl, SqL.of hf, fun u mu => ?_, by omega, fun a na => ?_⟩
      · obtain ⟨z, hz, h, n1, n2, e⟩ := he u mu
        refine ⟨enc u, .tup [.tup [.num 1, .text "x"], .text z], dp (Same.refl _) u mu, by rw [e]; rfl, ?_⟩
        show max (max 0 (max 0 0) + 1) (max 0 0) + 1 ≤ 7
        decide
      obtain ⟨H4, e4, s4, h4, ab, ag, B4⟩ := new_ho B3 na (SetWO w a ts)
      subst e4
      refine ⟨a, ts, enc, rfl, h4, dp s4, fun u mu u' mu' => ?_, fun u mu => ?_, fun u mu => ?_, fun ws p sub wl np => ?_⟩
      · obtain ⟨z, hz, h, n1, n2, e⟩ := he u mu
        obtain ⟨z', hz', h', n1', n2', e'⟩ := he u' mu'
        rw [e, e']
        rfl
      · obtain ⟨z, hz, h, n1, n2, e⟩ := he u mu
        exact ⟨_, _, e⟩
      · obtain ⟨z, hz, h, n1, n2, e⟩ := he u mu
        rw [e]
        show max (max 0 (max 0 0) + 1) (max 0 0) + 1 ≤ 8
        decide
      obtain ⟨H5, e5, s5, h5, pb, pg, B5⟩ := new_ho B4 np (.lst (ws.map V.ref))
      subst e5
      refine ⟨p, _, rfl, .inl ⟨SqL.of h5, fun p2 np2 => ?_⟩⟩
      obtain ⟨H6, e6, s6, h6, p2b, p2g, B6⟩ := new_ho B5 np2 (.tup (ws.map V.ref))
      subst e6
      have s36 := (s4.trans s5).trans s6
      obtain ⟨tb, tg⟩ := B.off (.inl ht)
      refine q p2 (.tuple (ws.map enc)) _ (Dv.mkT (.inl h6) p2b p2g (DvAll.refs fun u mu => ?_)) (Lay.tup fun d md => ?_) (B6.more (by omega)) (K3.trans (Same.keep s36))
      · obtain ⟨z, hz, h, n1, n2, e⟩ := he u (sub u mu)
        rw [e]
        exact Dv.mkT (.inl (s36 _ _ h)) n1 n2 (.cons (Dv.mkT (.inl (s36 _ _ ht3)) tb tg (.cons rfl (.cons rfl .nil))) (.cons rfl .nil))
      · obtain ⟨u, mu, rfl⟩ := List.mem_map.mp md
        obtain ⟨z, hz, h, n1, n2, e⟩ := he u (sub u mu)
        rw [e]
        rcases hz with rfl | rfl
        · exact Lay.of (by decide +kernel)
        · exact Lay.of (by decide +kernel)
end
end Moot
/-! _law_false_message -/
namespace Moot
open PySem PySem.Spec PyProof.Rows L2
theorem DvAll.two {b g : Addr} {H : Hp} {d e : PyData} {v u : V} (h1 : Dv b g H d v) (h2 : Dv b g H e u) : DvAll b g H [d, e] [v, u] := .cons h1 (.cons h2 .nil)
section
variable {P : Program} {w : World} {K : PySem.W.Frag} {mg : Str → Option Value} {base : Heap}
abbrev sFm : Stmt := top 70
abbrev pFm : List Str := ["_law_box_here", "_law_rows_here", "_law_sender", "_law_ballots"]
abbrev nFm : List Str := ["_law_box_here", "_law_rows_here", "_law_sender", "_law_ballots", "_law_some_here", "_law_requirement_here"]
theorem scFm : FnScope nFm pFm (defScope sFm) := ⟨rfl, rfl, rfl, by decide +kernel, rfl, by decide +kernel, by decide +kernel⟩
def spFm : Sp := fun vs H Q _ => ∃ (b g m W l t : Addr) (n : Nat) (c : Rq) (xs : List Str) (rs : Rws) (x : Str), vs = [.ref b, .ref W, .str x, .ref l] ∧ Box H b g m n ∧ n ≤ 500000 ∧ GDk H W (kvs rs) ∧ Fit H c xs rs ∧ x ∈ xs ∧ H l = some (.lst [.ref t]) ∧ l ≠ b ∧ l ≠ g ∧ H t = some (.tup [.int 1, .str "x"]) ∧
  ∀ (p : Addr) (d : PyData) (H' : Hp), Dv b g H' d (.ref p) → Lay 5 d → Box H' b g m (n + 200) → Keep b g H H' → Q (.ref p) H'
theorem ok_fm {f f1 f2 f3 : Addr} {fd fd1 fd2 fd3 : FuncData} {k : Nat} (F : Fun K "_law_false_message" "_law_false_message" sFm f fd) (T : Blt mg)
    (FT : Fun K "_law_take" "_law_take" sTake f1 fd1) (bT : Binds K fd1 ["_law_box_here", "_law_size"] []) (gT : mg "_law_take" = some (.ref f1)) (GT : FnOk P w K mg base CX0 k f1 fd1 ["_law_box_here", "_law_size"] spTake)
    (FR : Fun K "_law_requirement" "_law_requirement" sReq f2 fd2) (bR : Binds K fd2 ["_law_box_here", "_law_names_here"] []) (gR : mg "_law_requirement" = some (.ref f2)) (GR : FnOk P w K mg base CX0 k f2 fd2 ["_law_box_here", "_law_names_here"] spReq)
    (FL : Fun K "_law_statements" "_law_statements" sLst f3 fd3) (bL : Binds K fd3 pLst []) (gL : mg "_law_statements" = some (.ref f3)) (GL : FnOk P w K mg base CX0 k f3 fd3 pLst spLst) : FnOk P w K mg base CX0 (k + 1) f fd pFm spFm := by
  refine F.ok scFm (fun vs H Q E h => ?_) (fun cdv A outer s H vs Q E hr h => ?_)
  · obtain ⟨b, g, m, W, l, t, n, c, xs, rs, x, rfl, _⟩ := h
    rfl
  · obtain ⟨b, g, m, W, l, t, n, c, xs, rs, x, rfl, B, hn, ⟨oW, gW, eW⟩, fit, mx, hl, lb, lg, ht, q⟩ := h
    have hu := hu_of hr
    refine ⟨_, pss_cons (ps_set (i := 4) scFm.nd rfl (Or.inl rfl) (pe_lst (pa_cons (pe_tup (pa_cons pe_int (pa_cons (pe_tup (pa_cons (pv 2) pa_nil)) pa_nil))) (pa_cons (pe_dget hu (pv 1) (pv 2) (fun _ _ => rfl))
          (pa_cons (pe_call GR hr (by rfl) gR FR.kp bR .nil pass0 (pa_cons (pv 0) (pa_cons (pe_callB cr_sortedG (by rfl) T.srt (by decide +kernel) (pa_cons (pe_callTy (call_listDG rfl) (by rfl) T.lst (by decide +kernel) (pa_cons (pv 1) pa_nil)) pa_nil)) pa_nil))) pa_nil)))))
      (pss_cons (ps_set (i := 5) scFm.nd rfl (Or.inl rfl) (pe_ix ix_list (pv 4) (pe_ix ix_list (pe_lst (pa_cons pe_int (pa_cons pe_int (pa_cons pe_int (pa_cons pe_int pa_nil))))) (pe_call GT hr (by rfl) gT FT.kp bT .nil pass0 (pa_cons (pv 0) (pa_cons pe_int pa_nil))) (fun _ _ => rfl)) (fun _ _ => rfl)))
      (pss_one (ps_ret (pe_tup (pa_cons (pv 2) (pa_cons (pv 5) (pa_cons (pe_call GL hr (by rfl) gL FL.kp bL .nil pass0 (pa_cons (pv 0) (pa_cons (pv 3) (pa_cons pe_int pa_nil)))) (pa_cons (pe_call GL hr (by rfl) gL FL.kp bL .nil pass0 (pa_cons (pv 0) (pa_cons (pv 3) (pa_cons pe_int pa_nil)))) pa_nil)))))))), ?_⟩
    obtain ⟨tb, tg⟩ := B.off (.inl ht)
    have few := fit.few
    have flen := fit.len
    have nx := fit.nm x mx
    obtain ⟨r0, mr, hv⟩ := val_in (fit.keys.mem_iff.mpr mx)
    refine ⟨.str x, rfl, by show 1 ≤ sizeLine; decide, fun t1 nt1 => ?_⟩
    obtain ⟨H1, e1, s1, h1, t1b, t1g, B1⟩ := new_ho B nt1 (.tup [.str x])
    rw [← e1]
    refine ⟨by show 2 ≤ sizeLine; decide, fun t2 nt2 => ?_⟩
    obtain ⟨H2, e2, s2, h2, t2b, t2g, B2⟩ := new_ho B1 nt2 (.tup [.int 1, .ref t1])
    rw [← e2]
    have s02 := s1.trans s2
    refine ⟨.ref W, rfl, .str x, rfl, W, _, rfl, .inl ⟨_, Sum.inr x, .inr ⟨oW, s02 _ _ eW⟩, rfl, hv.symm⟩, ?_⟩
    refine ⟨.ref b, rfl, .ref W, rfl, W, kvs rs, rfl, ⟨oW, gW, s02 _ _ eW⟩, fun l1 o1 nl1 gl1 => ?_⟩
    rw [keys_strs] at gl1 ⊢
    obtain ⟨H3, e3, s3, h3, l1b, l1g, B3⟩ := new_ho B2 nl1 (.frz o1 (.lst ((rs.map (·.1)).map V.str)))
    rw [← e3]
    refine ⟨l1, rs.map (·.1), rfl, ⟨o1, gl1, h3⟩, by rw [List.length_map]; omega, fun ys np o2 pm srtz nnp gl2 => ?_⟩
    obtain ⟨H4, e4, s4, h4, npb, npg, B4⟩ := new_ho B3 nnp (.frz o2 (.lst (ys.map V.str)))
    rw [← e4]
    have s24 := s3.trans s4
    have yp : ys.Perm xs := pm.trans fit.keys
    have yl := yp.length_eq
    have ynd : ys.Nodup := yp.nodup_iff.mpr fit.nd
    have ynm : ∀ x ∈ ys, Nm x := fun x mx => fit.nm x (yp.mem_iff.mp mx)
    have y8 : ys.length ≤ 8 := by omega
    have x1 : 1 ≤ xs.length := List.length_pos_of_mem mx
    refine ⟨b, g, m, np, _, ys, rfl, B4, by omega, ⟨o2, gl2, h4⟩, by omega, y8, ynm, fun r dd ps H5 nr RG fine d1 d2 B5 K5 => ?_⟩
    have vld := fine_valid y8 ynd ynm fine d1 d2
    have K05 : Keep b g H H5 := ((Same.keep s02).trans (Same.keep s24)).trans K5
    have K25 : Keep b g H2 H5 := (Same.keep s24).trans K5
    -- the three as data
    obtain ⟨_, mem⟩ : ∃ _ : True, ∀ i : Int, 0 ≤ i → i < 3 → ∃ (v : V) (d : PyData), atI [V.ref t2, V.ref r0, V.ref r] i = some v ∧ Dv b g H5 d v ∧ Lay 4 d := by
      refine ⟨trivial, fun i i0 i3 => ?_⟩
      have cw : i = 0 ∨ i = 1 ∨ i = 2 := by omega
      rcases cw with rfl | rfl | rfl
      · refine ⟨_, .tuple [.int 1, .tuple [.str x]], rfl, Dv.mkT (.inl (K25 _ _ h2 t2b t2g)) t2b t2g (.two rfl (Dv.mkT (.inl (K25 _ _ (s2 _ _ h1) t1b t1g)) t1b t1g (.cons rfl .nil))), Lay.tup fun e me => ?_⟩
        rcases List.mem_cons.mp me with rfl | me
        · exact (Lay.int 1).more (by decide)
        · rw [List.mem_singleton.mp me]
          exact (Lay.tup fun e me => by rw [List.mem_singleton.mp me]; exact Lay.str nx.ok : Lay 1 _).more (by decide)
      · exact ⟨_, _, rfl, dv_req B5 (((fit.each _ mr).tups (Same.tups s02)).tups (K25.tups B2)), lay_req (fit.ok x mx)⟩
      · exact ⟨_, _, rfl, dv_req B5 RG.at, lay_req vld⟩
    refine ⟨by show 3 ≤ sizeLine; decide, fun l6 nl6 => ?_⟩
    obtain ⟨H6, e6, s6, h6, l6b, l6g, B6⟩ := new_ho B5 nl6 (.lst [.ref t2, .ref r0, .ref r])
    rw [← e6]
    refine ⟨.ref l6, rfl, by show 4 ≤ sizeLine; decide, fun l7 nl7 => ?_⟩
    obtain ⟨H7, e7, s7, h7, l7b, l7g, B7⟩ := new_ho B6 nl7 (.lst [.int 0, .int 0, .int 1, .int 2])
    rw [← e7]
    refine ⟨.ref b, rfl, b, g, m, _, 4, rfl, B7, by omega, by decide, by decide, fun u H8 u0 u1 B8 K8 => ?_⟩
    obtain ⟨i, ati, i0, i3⟩ : ∃ i : Int, atI [V.int 0, .int 0, .int 1, .int 2] u = some (.int i) ∧ 0 ≤ i ∧ i < 3 := by
      have cw : u = 0 ∨ u = 1 ∨ u = 2 ∨ u = 3 := by omega
      rcases cw with rfl | rfl | rfl | rfl
      · exact ⟨0, rfl, by decide, by decide⟩
      · exact ⟨0, rfl, by decide, by decide⟩
      · exact ⟨1, rfl, by decide, by decide⟩
      · exact ⟨2, rfl, by decide, by decide⟩
    refine ⟨l7, _, u, .int i, rfl, rfl, SqL.of (K8 _ _ h7 l7b l7g), ati, ?_⟩
    obtain ⟨v, d, atv, dv, ld⟩ := mem i i0 i3
    have K58 : Keep b g H5 H8 := (Same.keep (s6.trans s7)).trans K8
    have K08 := K05.trans K58
    refine ⟨l6, _, i, v, rfl, rfl, SqL.of (K8 _ _ (s7 _ _ h6) l6b l6g), atv, ?_⟩
    have dv8 := Dv.keep K58 d v dv
    refine ⟨.str x, rfl, v, rfl, .ref b, rfl, .ref l, rfl, b, g, m, l, t, _, 4, rfl, B8, by omega, K08 _ _ hl lb lg, lb, lg, K08 _ _ ht tb tg, by decide, fun p1 d3 H9 dv9 ld9 B9 K9 => ?_⟩
    have K09 := K08.trans K9
    refine ⟨.ref b, rfl, .ref l, rfl, b, g, m, l, t, _, 3, rfl, B9, by omega, K09 _ _ hl lb lg, lb, lg, K09 _ _ ht tb tg, by decide, fun p2 d4 H10 dv10 ld10 B10 K10 => ?_⟩
    refine ⟨by show 4 ≤ sizeLine; decide, fun p np => ?_⟩
    obtain ⟨H11, e11, s11, h11, pb, pg, B11⟩ := new_ho B10 np (.tup [.str x, v, .ref p1, .ref p2])
    rw [← e11]
    refine q p (.tuple [.str x, d, d3, d4]) H11 (Dv.mkT (.inl h11) pb pg (.cons rfl (.cons (Dv.keep (K9.trans (K10.trans (Same.keep s11))) d v dv8) (.two (Dv.keep (K10.trans (Same.keep s11)) d3 _ dv9) (Dv.same dv10 s11))))) (Lay.tup fun e me => ?_) (B11.more (by omega)) (K09.trans (K10.trans (Same.keep s11)))
    rcases List.mem_cons.mp me with rfl | me
    · exact (Lay.str nx.ok).more (by decide)
    rcases List.mem_cons.mp me with rfl | me
    · exact ld
    rcases List.mem_cons.mp me with rfl | me
    · exact ld9.more (by decide)
    · rw [List.mem_singleton.mp me]
      exact ld10.more (by decide)
end
end Moot
/-! Values of any kind. -/
namespace Moot
open PySem PySem.Spec PyProof.Rows L2
def smallB : PyData → Bool
  | .tuple ds => decide (ds.length < 3)
  | _ => true
def headB (d : PyData) : Bool := match seqD d with
  | some (e :: _) => smallB e
  | _ => true
/-- what such a value is -/
def anyB (d : PyData) : Bool := d.canLay0 && decide (d.depth ≤ 2) && smallB d && headB d
theorem anyB.lay {d : PyData} (h : anyB d = true) : Lay 2 d ∧ smallB d = true ∧ headB d = true := by
  unfold anyB at h
  rw [Bool.and_eq_true, Bool.and_eq_true, Bool.and_eq_true, decide_eq_true_eq] at h
  exact ⟨⟨h.1.1.1, h.1.1.2⟩, h.1.2, h.2⟩
theorem smallB.ev {xs : List Str} {d : PyData} (h : smallB d = true) : EvR xs d false := by
  cases d with
  | tuple ds => exact .sh (of_decide_eq_true h)
  | _ => exact .nt rfl
theorem headB.ev {xs : List Str} {d e : PyData} {rest : List PyData} (h : headB d = true) (hs : seqD d = some (e :: rest)) : Bad xs e := by
  unfold headB at h
  rw [hs] at h
  exact .inl (smallB.ev h)
def Drawn (b g : Addr) (H : Hp) (v : V) : Prop := ∃ d, Dv b g H d v ∧ anyB d = true
section
variable {P : Program} {w : World} {K : PySem.W.Frag} {mg : Str → Option Value} {base : Heap}
/-! _law_any -/
abbrev sAny : Stmt := top 71
abbrev nAny : List Str := ["_law_box_here", "_law_some_here"]
theorem scAny : FnScope nAny ["_law_box_here"] (defScope sAny) := ⟨rfl, rfl, rfl, by decide +kernel, rfl, by decide +kernel, by decide +kernel⟩
def spAny : Sp := fun vs H Q _ => ∃ (b g m : Addr) (n : Nat), vs = [.ref b] ∧ Box H b g m n ∧ n ≤ 900000 ∧
  ∀ (v : V) (H' : Hp), Drawn b g H' v → Box H' b g m (n + 1) → Keep b g H H' → Q v H'
theorem ok_any {f fT : Addr} {fd fdT : FuncData} {k : Nat} (F : Fun K "_law_any" "_law_any" sAny f fd) (T : Blt mg) (FT : Fun K "_law_take" "_law_take" sTake fT fdT) (bT : Binds K fdT ["_law_box_here", "_law_size"] []) (gT : mg "_law_take" = some (.ref fT))
    (GT : FnOk P w K mg base CX0 k fT fdT ["_law_box_here", "_law_size"] spTake) : FnOk P w K mg base CX0 (k + 1) f fd ["_law_box_here"] spAny := by
  refine F.ok scAny (fun vs H Q E h => ?_) (fun cdv A outer s H vs Q E hr h => ?_)
  · obtain ⟨b, g, m, n, rfl, _⟩ := h
    rfl
  · obtain ⟨b, g, m, n, rfl, B, hn, q⟩ := h
    refine ⟨_, pss_cons (ps_set (i := 1) scAny.nd rfl (Or.inl rfl) (pe_lst (pa_cons pe_non (pa_cons pe_bl (pa_cons pe_bl (pa_cons pe_int (pa_cons pe_int (pa_cons pe_int (pa_cons pe_int (pa_cons (pe_un un_neg pe_int) (pa_cons (pe_op op_pow pe_int pe_int) (pa_cons pe_str (pa_cons pe_str (pa_cons pe_str (pa_cons pe_str (pa_cons pe_str (pa_cons (pe_tup pa_nil) (pa_cons (pe_lst pa_nil) pa_nil))))))))))))))))))
      (pss_cons (ps_set (i := 1) scAny.nd rfl (Or.inl rfl) (pe_op op_cat (pv 1) (pe_lst (pa_cons (pe_tup (pa_cons pe_int pa_nil)) (pa_cons (pe_lst (pa_cons pe_int (pa_cons pe_str pa_nil))) (pa_cons (pe_tup (pa_cons pe_int (pa_cons pe_str pa_nil))) (pa_cons (pe_tup (pa_cons (pe_tup (pa_cons pe_int (pa_cons pe_str pa_nil))) (pa_cons pe_str pa_nil))) (pa_cons (pe_lst (pa_cons (pe_lst pa_nil) pa_nil)) (pa_cons (pe_tup (pa_cons pe_non (pa_cons (pe_tup pa_nil) pa_nil))) (pa_cons pe_str (pa_cons pe_str (pa_cons pe_str pa_nil))))))))))))
      (pss_one (ps_ret (pe_ix ix_list (pv 1) (pe_call GT hr (by rfl) gT FT.kp bT .nil pass0 (pa_cons (pv 0) (pa_cons (pe_callB call_len_seq (by rfl) T.len PySem.boot_len (pa_cons (pv 1) pa_nil)) pa_nil))) (fun _ _ => rfl))))), ?_⟩
    refine ⟨_, rfl, _, _, rfl, rfl, ⟨by decide, by decide, by decide⟩, Nat.zero_le _, fun p1 n1 => ?_⟩
    have s1 := same_new (o := .tup []) n1
    have h1 : (upd H p1 (.tup [])) p1 = some (.tup []) := upd_same
    generalize upd H p1 (.tup []) = H1 at s1 h1 ⊢
    refine ⟨Nat.zero_le _, fun p2 n2 => ?_⟩
    have s2 := same_new (o := .lst []) n2
    have h2 : (upd H1 p2 (.lst [])) p2 = some (.lst []) := upd_same
    generalize upd H1 p2 (.lst []) = H2 at s2 h2 ⊢
    refine ⟨by show 16 ≤ sizeLine; decide, fun p3 n3 => ?_⟩
    have s3 := same_new (o := .lst [V.non, V.bl true, V.bl false, V.int 0, V.int 1, V.int 6, V.int 7, V.int (-1), V.int (10 ^ (29 : Int).toNat), V.str "", V.str "a", V.str "commit", V.str "abort", V.str "Commit", V.ref p1, V.ref p2]) n3
    have h3 : (upd H2 p3 (.lst [V.non, V.bl true, V.bl false, V.int 0, V.int 1, V.int 6, V.int 7, V.int (-1), V.int (10 ^ (29 : Int).toNat), V.str "", V.str "a", V.str "commit", V.str "abort", V.str "Commit", V.ref p1, V.ref p2])) p3 = some (.lst [V.non, V.bl true, V.bl false, V.int 0, V.int 1, V.int 6, V.int 7, V.int (-1), V.int (10 ^ (29 : Int).toNat), V.str "", V.str "a", V.str "commit", V.str "abort", V.str "Commit", V.ref p1, V.ref p2]) := upd_same
    generalize upd H2 p3 (.lst [V.non, V.bl true, V.bl false, V.int 0, V.int 1, V.int 6, V.int 7, V.int (-1), V.int (10 ^ (29 : Int).toNat), V.str "", V.str "a", V.str "commit", V.str "abort", V.str "Commit", V.ref p1, V.ref p2]) = H3 at s3 h3 ⊢
    refine ⟨_, rfl, by show 1 ≤ sizeLine; decide, fun p4 n4 => ?_⟩
    have s4 := same_new (o := .tup [V.int 1]) n4
    have h4 : (upd H3 p4 (.tup [V.int 1])) p4 = some (.tup [V.int 1]) := upd_same
    generalize upd H3 p4 (.tup [V.int 1]) = H4 at s4 h4 ⊢
    refine ⟨by show 2 ≤ sizeLine; decide, fun p5 n5 => ?_⟩
    have s5 := same_new (o := .lst [V.int 1, V.str "a"]) n5
    have h5 : (upd H4 p5 (.lst [V.int 1, V.str "a"])) p5 = some (.lst [V.int 1, V.str "a"]) := upd_same
    generalize upd H4 p5 (.lst [V.int 1, V.str "a"]) = H5 at s5 h5 ⊢
    refine ⟨by show 2 ≤ sizeLine; decide, fun p6 n6 => ?_⟩
    have s6 := same_new (o := .tup [V.int 1, V.str "a"]) n6
    have h6 : (upd H5 p6 (.tup [V.int 1, V.str "a"])) p6 = some (.tup [V.int 1, V.str "a"]) := upd_same
    generalize upd H5 p6 (.tup [V.int 1, V.str "a"]) = H6 at s6 h6 ⊢
    refine ⟨by show 2 ≤ sizeLine; decide, fun p7 n7 => ?_⟩
    have s7 := same_new (o := .tup [V.int 1, V.str "a"]) n7
    have h7 : (upd H6 p7 (.tup [V.int 1, V.str "a"])) p7 = some (.tup [V.int 1, V.str "a"]) := upd_same
    generalize upd H6 p7 (.tup [V.int 1, V.str "a"]) = H7 at s7 h7 ⊢
    refine ⟨by show 2 ≤ sizeLine; decide, fun p8 n8 => ?_⟩
    have s8 := same_new (o := .tup [V.ref p7, V.str "commit"]) n8
    have h8 : (upd H7 p8 (.tup [V.ref p7, V.str "commit"])) p8 = some (.tup [V.ref p7, V.str "commit"]) := upd_same
    generalize upd H7 p8 (.tup [V.ref p7, V.str "commit"]) = H8 at s8 h8 ⊢
    refine ⟨Nat.zero_le _, fun p9 n9 => ?_⟩
    have s9 := same_new (o := .lst []) n9
    have h9 : (upd H8 p9 (.lst [])) p9 = some (.lst []) := upd_same
    generalize upd H8 p9 (.lst []) = H9 at s9 h9 ⊢
    refine ⟨by show 1 ≤ sizeLine; decide, fun p10 n10 => ?_⟩
    have s10 := same_new (o := .lst [V.ref p9]) n10
    have h10 : (upd H9 p10 (.lst [V.ref p9])) p10 = some (.lst [V.ref p9]) := upd_same
    generalize upd H9 p10 (.lst [V.ref p9]) = H10 at s10 h10 ⊢
    refine ⟨Nat.zero_le _, fun p11 n11 => ?_⟩
    have s11 := same_new (o := .tup []) n11
    have h11 : (upd H10 p11 (.tup [])) p11 = some (.tup []) := upd_same
    generalize upd H10 p11 (.tup []) = H11 at s11 h11 ⊢
    refine ⟨by show 2 ≤ sizeLine; decide, fun p12 n12 => ?_⟩
    have s12 := same_new (o := .tup [V.non, V.ref p11]) n12
    have h12 : (upd H11 p12 (.tup [V.non, V.ref p11])) p12 = some (.tup [V.non, V.ref p11]) := upd_same
    generalize upd H11 p12 (.tup [V.non, V.ref p11]) = H12 at s12 h12 ⊢
    refine ⟨by show 9 ≤ sizeLine; decide, fun p13 n13 => ?_⟩
    have s13 := same_new (o := .lst [V.ref p4, V.ref p5, V.ref p6, V.ref p8, V.ref p10, V.ref p12, V.str "abcdefghi", V.str "a1", V.str "A"]) n13
    have h13 : (upd H12 p13 (.lst [V.ref p4, V.ref p5, V.ref p6, V.ref p8, V.ref p10, V.ref p12, V.str "abcdefghi", V.str "a1", V.str "A"])) p13 = some (.lst [V.ref p4, V.ref p5, V.ref p6, V.ref p8, V.ref p10, V.ref p12, V.str "abcdefghi", V.str "a1", V.str "A"]) := upd_same
    generalize upd H12 p13 (.lst [V.ref p4, V.ref p5, V.ref p6, V.ref p8, V.ref p10, V.ref p12, V.str "abcdefghi", V.str "a1", V.str "A"]) = H13 at s13 h13 ⊢
    have s3_13 : Same H3 H13 := ((((((((s4.trans s5).trans s6).trans s7).trans s8).trans s9).trans s10).trans s11).trans s12).trans s13
    have s13_ : Same H H13 := ((s1.trans s2).trans s3).trans s3_13
    refine ⟨p3, p13, _, _, rfl, rfl, s3_13 _ _ h3, h13, by show 25 ≤ sizeLine; decide, fun p14 n14 => ?_⟩
    have s14 := same_new (o := .lst ([V.non, V.bl true, V.bl false, V.int 0, V.int 1, V.int 6, V.int 7, V.int (-1), V.int (10 ^ (29 : Int).toNat), V.str "", V.str "a", V.str "commit", V.str "abort", V.str "Commit", V.ref p1, V.ref p2] ++ [V.ref p4, V.ref p5, V.ref p6, V.ref p8, V.ref p10, V.ref p12, V.str "abcdefghi", V.str "a1", V.str "A"])) n14
    have h14 : (upd H13 p14 (.lst ([V.non, V.bl true, V.bl false, V.int 0, V.int 1, V.int 6, V.int 7, V.int (-1), V.int (10 ^ (29 : Int).toNat), V.str "", V.str "a", V.str "commit", V.str "abort", V.str "Commit", V.ref p1, V.ref p2] ++ [V.ref p4, V.ref p5, V.ref p6, V.ref p8, V.ref p10, V.ref p12, V.str "abcdefghi", V.str "a1", V.str "A"]))) p14 = some (.lst ([V.non, V.bl true, V.bl false, V.int 0, V.int 1, V.int 6, V.int 7, V.int (-1), V.int (10 ^ (29 : Int).toNat), V.str "", V.str "a", V.str "commit", V.str "abort", V.str "Commit", V.ref p1, V.ref p2] ++ [V.ref p4, V.ref p5, V.ref p6, V.ref p8, V.ref p10, V.ref p12, V.str "abcdefghi", V.str "a1", V.str "A"])) := upd_same
    generalize upd H13 p14 (.lst ([V.non, V.bl true, V.bl false, V.int 0, V.int 1, V.int 6, V.int 7, V.int (-1), V.int (10 ^ (29 : Int).toNat), V.str "", V.str "a", V.str "commit", V.str "abort", V.str "Commit", V.ref p1, V.ref p2] ++ [V.ref p4, V.ref p5, V.ref p6, V.ref p8, V.ref p10, V.ref p12, V.str "abcdefghi", V.str "a1", V.str "A"])) = H14 at s14 h14 ⊢
    have sA : Same H H14 := s13_.trans s14
    have B14 := B.same sA
    refine ⟨.ref p14, rfl, .ref b, rfl, .ref p14, rfl, p14, _, rfl, .inl (SqL.of h14), b, g, m, n, 25, rfl, B14, by omega, by decide, by decide, fun v H15 v0 v25 B15 K15 => ?_⟩
    have K0 : Keep b g H H15 := (Same.keep sA).trans K15
    have nb : ∀ {p : Addr} {H0 : Hp}, Same H H0 → H0 p = none → p ≠ b ∧ p ≠ g := fun {p H0} s0 h0 => ⟨((B.same s0).ne h0).1, ((B.same s0).ne h0).2.1⟩
    have a1 := nb (Same.refl H) n1
    have a2 := nb (s1) n2
    have a3 := nb ((s1).trans s2) n3
    have a4 := nb (((s1).trans s2).trans s3) n4
    have a5 := nb ((((s1).trans s2).trans s3).trans s4) n5
    have a6 := nb (((((s1).trans s2).trans s3).trans s4).trans s5) n6
    have a7 := nb ((((((s1).trans s2).trans s3).trans s4).trans s5).trans s6) n7
    have a8 := nb (((((((s1).trans s2).trans s3).trans s4).trans s5).trans s6).trans s7) n8
    have a9 := nb ((((((((s1).trans s2).trans s3).trans s4).trans s5).trans s6).trans s7).trans s8) n9
    have a10 := nb (((((((((s1).trans s2).trans s3).trans s4).trans s5).trans s6).trans s7).trans s8).trans s9) n10
    have a11 := nb ((((((((((s1).trans s2).trans s3).trans s4).trans s5).trans s6).trans s7).trans s8).trans s9).trans s10) n11
    have a12 := nb (((((((((((s1).trans s2).trans s3).trans s4).trans s5).trans s6).trans s7).trans s8).trans s9).trans s10).trans s11) n12
    have a13 := nb ((((((((((((s1).trans s2).trans s3).trans s4).trans s5).trans s6).trans s7).trans s8).trans s9).trans s10).trans s11).trans s12) n13
    have a14 := nb (((((((((((((s1).trans s2).trans s3).trans s4).trans s5).trans s6).trans s7).trans s8).trans s9).trans s10).trans s11).trans s12).trans s13) n14
    have s14_14 : Same H14 H14 := Same.refl H14
    have s13_14 : Same H13 H14 := s14.trans s14_14
    have s12_14 : Same H12 H14 := s13.trans s13_14
    have s11_14 : Same H11 H14 := s12.trans s12_14
    have s10_14 : Same H10 H14 := s11.trans s11_14
    have s9_14 : Same H9 H14 := s10.trans s10_14
    have s8_14 : Same H8 H14 := s9.trans s9_14
    have s7_14 : Same H7 H14 := s8.trans s8_14
    have s6_14 : Same H6 H14 := s7.trans s7_14
    have s5_14 : Same H5 H14 := s6.trans s6_14
    have s4_14 : Same H4 H14 := s5.trans s5_14
    have s3_14 : Same H3 H14 := s4.trans s4_14
    have s2_14 : Same H2 H14 := s3.trans s3_14
    have s1_14 : Same H1 H14 := s2.trans s2_14
    have f1 : H15 p1 = some (.tup []) := K15 _ _ (s1_14 _ _ h1) a1.1 a1.2
    have f2 : H15 p2 = some (.lst []) := K15 _ _ (s2_14 _ _ h2) a2.1 a2.2
    have f4 : H15 p4 = some (.tup [V.int 1]) := K15 _ _ (s4_14 _ _ h4) a4.1 a4.2
    have f5 : H15 p5 = some (.lst [V.int 1, V.str "a"]) := K15 _ _ (s5_14 _ _ h5) a5.1 a5.2
    have f6 : H15 p6 = some (.tup [V.int 1, V.str "a"]) := K15 _ _ (s6_14 _ _ h6) a6.1 a6.2
    have f7 : H15 p7 = some (.tup [V.int 1, V.str "a"]) := K15 _ _ (s7_14 _ _ h7) a7.1 a7.2
    have f8 : H15 p8 = some (.tup [V.ref p7, V.str "commit"]) := K15 _ _ (s8_14 _ _ h8) a8.1 a8.2
    have f9 : H15 p9 = some (.lst []) := K15 _ _ (s9_14 _ _ h9) a9.1 a9.2
    have f10 : H15 p10 = some (.lst [V.ref p9]) := K15 _ _ (s10_14 _ _ h10) a10.1 a10.2
    have f11 : H15 p11 = some (.tup []) := K15 _ _ (s11_14 _ _ h11) a11.1 a11.2
    have f12 : H15 p12 = some (.tup [V.non, V.ref p11]) := K15 _ _ (s12_14 _ _ h12) a12.1 a12.2
    have hL : H15 p14 = some (.lst ([V.non, V.bl true, V.bl false, V.int 0, V.int 1, V.int 6, V.int 7, V.int (-1), V.int (10 ^ (29 : Int).toNat), V.str "", V.str "a", V.str "commit", V.str "abort", V.str "Commit", V.ref p1, V.ref p2] ++ [V.ref p4, V.ref p5, V.ref p6, V.ref p8, V.ref p10, V.ref p12, V.str "abcdefghi", V.str "a1", V.str "A"])) := K15 _ _ h14 a14.1 a14.2
    have A1 : ∀ {d : PyData} {v : V}, Dv b g H15 d v → anyB d = true → Drawn b g H15 v := fun h e => ⟨_, h, e⟩
    have dI : Dv b g H15 (.int 1) (.int 1) := rfl
    have dA : Dv b g H15 (.str "a") (.str "a") := rfl
    have pair : ∀ p, p ≠ b ∧ p ≠ g → H15 p = some (.tup [V.int 1, V.str "a"]) → Dv b g H15 (.tuple [.int 1, .str "a"]) (.ref p) := fun p hp h => Dv.mkT (.inl h) hp.1 hp.2 (.two dI dA)
    have d1 : Drawn b g H15 (.ref p1) := A1 (Dv.mkT (.inl f1) a1.1 a1.2 .nil) (by decide +kernel)
    have d2 : Drawn b g H15 (.ref p2) := A1 (Dv.mkL f2 a2.1 a2.2 .nil) (by decide +kernel)
    have d4 : Drawn b g H15 (.ref p4) := A1 (Dv.mkT (.inl f4) a4.1 a4.2 (.cons dI .nil)) (by decide +kernel)
    have d5 : Drawn b g H15 (.ref p5) := A1 (Dv.mkL f5 a5.1 a5.2 (.two dI dA)) (by decide +kernel)
    have d6 : Drawn b g H15 (.ref p6) := A1 (pair p6 a6 f6) (by decide +kernel)
    have d8 : Drawn b g H15 (.ref p8) := A1 (Dv.mkT (.inl f8) a8.1 a8.2 (.two (pair p7 a7 f7) (show Dv b g H15 (.str "commit") (.str "commit") from rfl))) (by decide +kernel)
    have d10 : Drawn b g H15 (.ref p10) := A1 (Dv.mkL f10 a10.1 a10.2 (.cons (Dv.mkL f9 a9.1 a9.2 .nil) .nil)) (by decide +kernel)
    have d12 : Drawn b g H15 (.ref p12) := A1 (Dv.mkT (.inl f12) a12.1 a12.2 (.two (show Dv b g H15 .none .non from rfl) (Dv.mkT (.inl f11) a11.1 a11.2 .nil))) (by decide +kernel)
    have dS : ∀ x : Str, anyB (.str x) = true → Drawn b g H15 (.str x) := fun x h => A1 (d := .str x) rfl h
    have dN : ∀ i : Int, Drawn b g H15 (.int i) := fun i => A1 (d := .int i) rfl rfl
    have each : ∀ x ∈ ([V.non, V.bl true, V.bl false, V.int 0, V.int 1, V.int 6, V.int 7, V.int (-1), V.int (10 ^ (29 : Int).toNat), V.str "", V.str "a", V.str "commit", V.str "abort", V.str "Commit", V.ref p1, V.ref p2] ++ [V.ref p4, V.ref p5, V.ref p6, V.ref p8, V.ref p10, V.ref p12, V.str "abcdefghi", V.str "a1", V.str "A"]), Drawn b g H15 x := by
      intro x mx
      simp only [List.cons_append, List.nil_append, List.mem_cons, List.not_mem_nil, or_false] at mx
      rcases mx with rfl | rfl | rfl | rfl | rfl | rfl | rfl | rfl | rfl | rfl | rfl | rfl | rfl | rfl | rfl | rfl | rfl | rfl | rfl | rfl | rfl | rfl | rfl | rfl | rfl
      · exact A1 (d := .none) rfl rfl
      · exact A1 (d := .bool _) rfl rfl
      · exact A1 (d := .bool _) rfl rfl
      · exact dN _
      · exact dN _
      · exact dN _
      · exact dN _
      · exact dN _
      · exact dN _
      · exact dS _ (by decide +kernel)
      · exact dS _ (by decide +kernel)
      · exact dS _ (by decide +kernel)
      · exact dS _ (by decide +kernel)
      · exact dS _ (by decide +kernel)
      · exact d1
      · exact d2
      · exact d4
      · exact d5
      · exact d6
      · exact d8
      · exact d10
      · exact d12
      · exact dS _ (by decide +kernel)
      · exact dS _ (by decide +kernel)
      · exact dS _ (by decide +kernel)
    obtain ⟨j, rfl⟩ := Int.eq_ofNat_of_zero_le v0
    have lt : j < ([V.non, V.bl true, V.bl false, V.int 0, V.int 1, V.int 6, V.int 7, V.int (-1), V.int (10 ^ (29 : Int).toNat), V.str "", V.str "a", V.str "commit", V.str "abort", V.str "Commit", V.ref p1, V.ref p2] ++ [V.ref p4, V.ref p5, V.ref p6, V.ref p8, V.ref p10, V.ref p12, V.str "abcdefghi", V.str "a1", V.str "A"]).length := by show j < 25; omega
    refine ⟨p14, _, j, _, rfl, rfl, SqL.of hL, atI_nat (List.getElem?_eq_getElem lt), ?_⟩
    exact q _ H15 (each _ (List.getElem_mem lt)) B15 K0
end
end Moot
namespace Moot
open PySem PySem.Spec PyProof.Rows L2
section
variable {X : Cx} {pins : List (Addr × Obj)} {σ : List (Option V)} {H : Hp} {s : Shared} {l : Addr}
/-- of a known dict nothing more is said than what it holds -/
theorem inv_meltD {o : Obj} {kv : List (L2.Key × V)} (I : Inv X pins σ H s) (h : H l = some (.frz o (.dK kv))) (nf : Nf X l) : Inv X pins σ (upd H l (.dK kv)) s := by
  have off : ∀ {b : Addr} {u : HO}, H b = some u → (∀ o v, u ≠ .frz o v) → b ≠ l := fun {b u} e n z => by
    rw [z, h] at e
    cases e
    exact n _ _ rfl
  have nn : ∀ b, H b = none → b ≠ l := fun b e z => by
    rw [z, h] at e
    cases e
  have new : ObjOk X.prog X.w (upd H l (.dK kv)) s.heap l (.dK kv) := by
    obtain ⟨_, z, lo, vs, r, d⟩ := I.hok l _ h
    exact ⟨z, lo, vs, r, d⟩
  have hok : HOk X.prog X.w (upd H l (.dK kv)) s.heap := fun b u q => by
    by_cases e : b = l
    · subst e
      rw [upd_same] at q
      cases q
      exact new
    · rw [upd_ne e] at q
      exact (I.hok b u q).stay (fun _ _ _ r => r) (fun c r => by rw [upd_ne (off r fun _ _ z => by cases z)]; exact r) fun c zs r => by rw [upd_ne (off r fun _ _ z => by cases z)]; exact r
  have base : Un X.fs X.ex X.H_0 (upd H l (.dK kv)) X.s_0.heap s.heap := ⟨I.base.keep, I.base.slot, fun b o e n hx => by
      have z := I.base.free b o e n hx
      rw [upd_ne (nn b z)]
      exact z, I.base.there, fun b zs e => by
      have z := I.base.tups b zs e
      rw [upd_ne (off z fun _ _ y => by cases y)]
      exact z, fun b o u e => by
      by_cases q : b = l
      · subst q
        exact absurd e (nf o u)
      · rw [upd_ne q]
        exact I.base.frzs b o u e, fun b ps e => by
      obtain ⟨more, z⟩ := I.base.tbls b ps e
      exact ⟨more, by rw [upd_ne (off z fun _ _ y => by cases y)]; exact z⟩⟩
  exact ⟨I.ok, I.os, I.bare, base, I.loc, I.cell, by rw [upd_ne (nn _ I.free)]; exact I.free, fun x c e => by rw [upd_ne (nn _ (I.freeC x c e))]; exact I.freeC x c e,
    fun p hp => let ⟨a, b, c⟩ := I.pin p hp; ⟨a, by rw [upd_ne (nn _ b)]; exact b, c⟩, hok, I.len⟩
/-- from here on the dict is as any -/
theorem pss_meltD {rest : List Stmt} {u : TS} (h : PSs X rest u) : PSs X rest (fun D σ H => ∃ d o kv, H d = some (.frz o (.dK kv)) ∧ Nf X d ∧ u D σ (upd H d (.dK kv))) := by
  refine ⟨fun pins s σ H D I q => ?_⟩
  obtain ⟨d, o, kv, hd, nf, q⟩ := q
  exact h.run pins s σ _ D (inv_meltD I hd nf) q
end
end Moot
namespace Moot
open PySem PySem.Spec PyProof.Rows L2
/-- {}, to be a known dict -/
theorem pe_dnewG {X : Cx} {pos : Pos} : PE X (.Dict [] [] pos) (fun _ H Q => ∀ p o, H p = none → GdD o → Q (.ref p) (upd H p (.frz o (.dK [])))) := ⟨fun pins s σ H Q I h =>
  wpAny_Dict_empty ⟨.ref s.heap.objs.size, _, I.laid (a := s.heap.objs.size) (o := .frz { cls := .type "dict", data := .dict #[] } (.dK [])) (t' := s.toks) (fun _ _ q => Heap.get?_push_of_some _ q) (Nat.le_refl _) ⟨Heap.get?_push_size _ rfl, dk_empty s.heap I.big⟩, rfl, h _ _ (I.hok.fresh (Nat.le_refl _)) ⟨#[], 0, rfl, by simp⟩⟩⟩
end Moot
namespace Moot
open PySem PySem.Spec PyProof.Rows L2
section
variable {X : Cx}
/-- one of two rules -/
theorem call_or {f : Value} {r1 r2 : List V → Hp → VK → Prop} (h1 : CallR X f r1) (h2 : CallR X f r2) : CallR X f (fun xs H Q => r1 xs H Q ∨ r2 xs H Q) := by
  intro pins s σ H xs us Q I r q
  rcases q with q | q
  · exact h1 pins s σ H xs us Q I r q
  · exact h2 pins s σ H xs us Q I r q
/-- len of a dict, known or not -/
theorem call_lenR : CallR X (.builtin "len") (fun xs H Q => ∃ (a : Addr) (kvs : List (L2.Key × V)), xs = [.ref a] ∧ Rd H a (.dK kvs) ∧ Q (.int kvs.length) H) := by
  intro pins s σ H xs us Q I r q
  obtain ⟨a, kvs, rfl, e, q⟩ := q
  obtain ⟨u, rfl, rx⟩ := vals1 r
  cases rx
  exact d_len I e fun t s' I' => ⟨.int kvs.length, H, I', ⟨t, rfl⟩, q⟩
/-- the dict is as any from here on, if it is a known one -/
theorem pss_meltO {rest : List Stmt} {u : TS} (h : PSs X rest u) : PSs X rest (fun D σ H => (∃ d o kv, H d = some (.frz o (.dK kv)) ∧ Nf X d ∧ u D σ (upd H d (.dK kv))) ∨ u D σ H) := by
  refine ⟨fun pins s σ H D I q => ?_⟩
  rcases q with q | q
  · exact (pss_meltD h).run pins s σ H D I q
  · exact h.run pins s σ H D I q
end
end Moot
/-! _law_garbage -/
namespace Moot
open PySem PySem.Spec PyProof.Rows L2
/-- what is put in the place of an entry -/
structure Oth (d : PyData) : Prop where
  lay : Lay 3 d
  st : ∀ z, d ≠ .str z
  sh : isTup d = false ∨ d = .tuple [] ∨ d = .tuple [.tuple []]
theorem Oth.no {d : PyData} (h : Oth d) (z : Str) : strD z d = false := by
  cases d with
  | str y => exact absurd rfl (h.st y)
  | _ => rfl
theorem Oth.mem {d : PyData} (h : Oth d) (xs : List Str) : memD xs d = false := by
  cases d with
  | str y => exact absurd rfl (h.st y)
  | _ => rfl
theorem Oth.len {d : PyData} (h : Oth d) {n : Nat} (h2 : 2 ≤ n) : NoT n d := fun ds e => by
  rcases h.sh with z | z | z
  · rw [e] at z
    cases z
  · rw [e] at z
    injection z with z
    rw [z]
    show 0 ≠ n
    omega
  · rw [e] at z
    injection z with z
    rw [z]
    show 1 ≠ n
    omega
theorem Oth.small {d : PyData} (h : Oth d) : smallB d = true := by
  rcases h.sh with z | z | z
  · cases d with
    | tuple _ => cases z
    | _ => rfl
  · rw [z]
    rfl
  · rw [z]
    rfl
/-- the five events -/
def evD (x : Str) (m : PyData) : Nat → List PyData
  | 0 => [.str "voted", .str x, .tuple [.int 1, .str "x"], .str "commit"]
  | 1 => [.str "received", .str x, m]
  | 2 => [.str "voted", .str x, .tuple [.int 2, .str "y"], .str "abort"]
  | 3 => [.str "accepted", .str x, .tuple [.int 1, .str "x"], .str "commit", .tuple [.str "support", .tuple [.str x]]]
  | _ => [.str "confirmed", .str x, .tuple [.int 1, .str "x"], .str "commit", .tuple [.str x]]
theorem nm_x : Nm "x" := ⟨by decide, by decide, by decide +kernel⟩
theorem nm_y : Nm "y" := ⟨by decide, by decide, by decide +kernel⟩
theorem nm_z : Nm "z" := ⟨by decide, by decide, by decide +kernel⟩
theorem good_x : GoodB (.tuple [.int 1, .str "x"]) := ⟨1, "x", rfl, by decide, by decide, nm_x⟩
theorem good_y : GoodB (.tuple [.int 2, .str "y"]) := ⟨2, "y", rfl, by decide, by decide, nm_y⟩
theorem good_z : GoodB (.tuple [.int 0, .str "z"]) := ⟨0, "z", rfl, by decide, by decide, nm_z⟩
theorem an_c : memD anS (.str "commit") = true := by decide +kernel
theorem an_a : memD anS (.str "abort") = true := by decide +kernel
theorem garb {x : Str} {xs : List Str} {o m : PyData} (mx : x ∈ xs) (O : Oth o) : ∀ {i j : Nat}, i < 5 → j < (evD x m i).length → Bad xs (.tuple ((evD x m i).take j ++ [o] ++ (evD x m i).drop (j + 1))) ∧ headB (.tuple ((evD x m i).take j ++ [o] ++ (evD x m i).drop (j + 1))) = true := by
  have nv : ∀ {y z : Str}, y ≠ z → strD z (.str y) = false := fun h => decide_eq_false h
  have wh : ∀ {w e : PyData} {rest : List PyData}, 1 ≤ rest.length → memD xs e = false → Bad xs (.tuple (w :: e :: rest)) := fun h1 h2 => .inl (.who h1 h2)
  have v4 : ∀ (y : Str) (bd : PyData) (a : Str) (j : Nat), GoodB bd → memD anS (.str a) = true → j < 4 → y = "voted" → Bad xs (.tuple ([.str y, .str x, bd, .str a].take j ++ [o] ++ [.str y, .str x, bd, .str a].drop (j + 1))) := by
    intro y bd a j gb ma hj ey
    subst ey
    match j, hj with
    | 0, _ =>
      have := EvR.four (xs := xs) (w := o) mx (O.no "received") gb ma
      rw [O.no] at this
      exact .inl this
    | 1, _ => exact wh (by show 1 ≤ 2; decide) (O.mem xs)
    | 2, _ => exact .inl (.bal mx (by decide +kernel) (O.len (by decide)))
    | 3, _ => exact .inl (.ans mx (by decide +kernel) gb (O.mem anS))
  have hd : ∀ {e : PyData} {rest : List PyData}, smallB e = true → headB (.tuple (e :: rest)) = true := fun h => h
  intro i j hi hj
  refine ⟨?_, ?_⟩
  · match i, hi with
    | 0, _ => exact v4 _ _ _ j good_x an_c hj rfl
    | 1, _ =>
      match j, hj with
      | 0, _ => exact .inl (.w3 mx (O.no "received"))
      | 1, _ => exact wh (by show 1 ≤ 1; decide) (O.mem xs)
      | 2, _ => exact .inl (.re mx (O.len (by decide)))
    | 2, _ => exact v4 _ _ _ j good_y an_a hj rfl
    | 3, _ =>
      match j, hj with
      | 0, _ =>
        have := EvR.set (xs := xs) (r := .tuple [.str "support", .tuple [.str x]]) (t := false) mx (O.no "received") (O.no "voted") (O.no "accepted") good_x an_c (fun h => by rw [O.no] at h; cases h)
        rw [O.no] at this
        exact .inl this
      | 1, _ => exact wh (by show 1 ≤ 3; decide) (O.mem xs)
      | 2, _ => exact .inl (.bal mx (by decide +kernel) (O.len (by decide)))
      | 3, _ => exact .inl (.ans mx (by decide +kernel) good_x (O.mem anS))
      | 4, _ => exact .inl (.rea mx good_x an_c (O.len (by decide)))
    | 4, _ =>
      match j, hj with
      | 0, _ =>
        have := EvR.set (xs := xs) (r := .tuple [.str x]) (t := false) mx (O.no "received") (O.no "voted") (O.no "accepted") good_x an_c (fun h => by rw [O.no] at h; cases h)
        rw [O.no] at this
        exact .inl this
      | 1, _ => exact wh (by show 1 ≤ 3; decide) (O.mem xs)
      | 2, _ => exact .inl (.bal mx (by decide +kernel) (O.len (by decide)))
      | 3, _ => exact .inl (.ans mx (by decide +kernel) good_x (O.mem anS))
      | 4, _ =>
        have mk : ∀ t, SetR xs o t → EvR xs (.tuple [.str "confirmed", .str x, .tuple [.int 1, .str "x"], .str "commit", o]) t := fun t h => by
          have := EvR.set (xs := xs) (w := .str "confirmed") (r := o) (t := t) mx (by decide +kernel) (by decide +kernel) (by decide +kernel) good_x an_c (fun _ => h)
          rw [strD_self, Bool.true_and] at this
          exact this
        rcases O.sh with z | z | z
        · exact .inl (mk false (.inl ⟨z, rfl⟩))
        · subst z
          exact .inr ⟨x, "commit", _, rfl, good_x, mk true (.inr (.inl ⟨rfl, rfl⟩))⟩
        · exact .inl (mk false (.inr (.inr ⟨_, z, rfl, by decide, rfl⟩)))
  · match i, hi with
    | 0, _ => match j, hj with
      | 0, _ => exact hd O.small
      | 1, _ => rfl
      | 2, _ => rfl
      | 3, _ => rfl
    | 1, _ => match j, hj with
      | 0, _ => exact hd O.small
      | 1, _ => rfl
      | 2, _ => rfl
    | 2, _ => match j, hj with
      | 0, _ => exact hd O.small
      | 1, _ => rfl
      | 2, _ => rfl
      | 3, _ => rfl
    | 3, _ => match j, hj with
      | 0, _ => exact hd O.small
      | 1, _ => rfl
      | 2, _ => rfl
      | 3, _ => rfl
      | 4, _ => rfl
    | 4, _ => match j, hj with
      | 0, _ => exact hd O.small
      | 1, _ => rfl
      | 2, _ => rfl
      | 3, _ => rfl
      | 4, _ => rfl
theorem lay_ev {x : Str} {m : PyData} (hx : PyData.strOk x = true) (hm : Lay 5 m) : ∀ {i : Nat}, i < 5 → ∀ d ∈ evD x m i, Lay 5 d := by
  have lx : Lay 0 (.str x) := Lay.str hx
  have one : Lay 1 (.tuple [.str x]) := Lay.tup fun d md => by rw [List.mem_singleton.mp md]; exact lx
  have two : Lay 2 (.tuple [.str "support", .tuple [.str x]]) := Lay.tup fun d md => by
    rcases List.mem_cons.mp md with rfl | md
    · exact Lay.of (by decide +kernel)
    · rw [List.mem_singleton.mp md]; exact one
  intro i hi d md
  match i, hi with
  | 0, _ =>
    rcases List.mem_cons.mp md with rfl | md
    · exact Lay.of (by decide +kernel)
    rcases List.mem_cons.mp md with rfl | md
    · exact lx.more (by decide)
    rcases List.mem_cons.mp md with rfl | md
    · exact Lay.of (by decide +kernel)
    · rw [List.mem_singleton.mp md]; exact Lay.of (by decide +kernel)
  | 1, _ =>
    rcases List.mem_cons.mp md with rfl | md
    · exact Lay.of (by decide +kernel)
    rcases List.mem_cons.mp md with rfl | md
    · exact lx.more (by decide)
    · rw [List.mem_singleton.mp md]; exact hm
  | 2, _ =>
    rcases List.mem_cons.mp md with rfl | md
    · exact Lay.of (by decide +kernel)
    rcases List.mem_cons.mp md with rfl | md
    · exact lx.more (by decide)
    rcases List.mem_cons.mp md with rfl | md
    · exact Lay.of (by decide +kernel)
    · rw [List.mem_singleton.mp md]; exact Lay.of (by decide +kernel)
  | 3, _ =>
    rcases List.mem_cons.mp md with rfl | md
    · exact Lay.of (by decide +kernel)
    rcases List.mem_cons.mp md with rfl | md
    · exact lx.more (by decide)
    rcases List.mem_cons.mp md with rfl | md
    · exact Lay.of (by decide +kernel)
    rcases List.mem_cons.mp md with rfl | md
    · exact Lay.of (by decide +kernel)
    · rw [List.mem_singleton.mp md]; exact two.more (by decide)
  | 4, _ =>
    rcases List.mem_cons.mp md with rfl | md
    · exact Lay.of (by decide +kernel)
    rcases List.mem_cons.mp md with rfl | md
    · exact lx.more (by decide)
    rcases List.mem_cons.mp md with rfl | md
    · exact Lay.of (by decide +kernel)
    rcases List.mem_cons.mp md with rfl | md
    · exact Lay.of (by decide +kernel)
    · rw [List.mem_singleton.mp md]; exact one.more (by decide)
theorem catA_ok {K : PySem.W.Frag} {Q : VK} {H : Hp} {a c : Addr} {xs ys : List V} (ha : H a = some (.tup xs)) (hb : H c = some (.tup ys)) (len : xs.length + ys.length ≤ 1000) (q : ∀ p H', Same H H' → H' p = some (.tup (xs ++ ys)) → Q (.ref p) H') : rCatA K (.ref a) (.ref c) H Q :=
  ⟨a, c, xs, ys, rfl, rfl, SqT.of ha, SqT.of hb, Nat.le_of_lt (small1000 len), fun e => q c H (Same.refl _) (by rw [e]; exact hb), fun _ e => q a H (Same.refl _) (by rw [e, List.append_nil]; exact ha), fun _ _ p np => q p _ (same_new np) upd_same⟩
theorem take_ok {K : PySem.W.Frag} {Q : VK} {H : Hp} {a : Addr} {xs : List V} {j : Nat} (ha : H a = some (.tup xs)) (hj : j < xs.length) (q : ∀ p H', Same H H' → H' p = some (.tup (xs.take j)) → Q (.ref p) H') : rSlA K (.ref a) none (some (j : Int)) H Q := by
  refine ⟨a, xs, rfl, SqT.of ha, fun e => ?_, fun _ p np => ?_⟩
  · have e := e.2
    rw [HT.sIx_nat] at e
    omega
  · have e : cutV xs none (some (j : Int)) = xs.take j := by
      unfold cutV
      rw [HT.sIx_none, HT.sIx_nat, List.drop_zero, Nat.sub_zero, List.take_eq_take_iff]
      omega
    rw [e]
    exact q p _ (same_new np) upd_same
theorem drop_ok {K : PySem.W.Frag} {Q : VK} {H : Hp} {a : Addr} {xs : List V} {j : Nat} (ha : H a = some (.tup xs)) (hj : j < xs.length) (q : ∀ p H', Same H H' → H' p = some (.tup (xs.drop (j + 1))) → Q (.ref p) H') : rSlA K (.ref a) (some ((j : Int) + 1)) none H Q := by
  refine ⟨a, xs, rfl, SqT.of ha, fun e => ?_, fun _ p np => ?_⟩
  · have e := e.1
    rw [show ((j : Int) + 1) = ((j + 1 : Nat) : Int) from rfl, HT.sIx_nat] at e
    omega
  · rw [show ((j : Int) + 1) = ((j + 1 : Nat) : Int) from rfl, cutFrom2]
    exact q p _ (same_new np) upd_same
end Moot
/-! _law_garbage, the walk -/
namespace Moot
open PySem PySem.Spec PyProof.Rows L2
theorem DvAll.take' {b g : Addr} {H : Hp} : ∀ (n : Nat) {ds : List PyData} {vs : List V}, DvAll b g H ds vs → DvAll b g H (ds.take n) (vs.take n)
  | 0, _, _, _ => rfl
  | n + 1, [], vs, h => by
    have h : vs = [] := h
    rw [h]
    rfl
  | n + 1, d :: ds, _, h => by
    obtain ⟨v, us, rfl, h1, h2⟩ := h
    exact ⟨v, us.take n, rfl, h1, DvAll.take' n h2⟩
theorem DvAll.drop' {b g : Addr} {H : Hp} : ∀ (n : Nat) {ds : List PyData} {vs : List V}, DvAll b g H ds vs → DvAll b g H (ds.drop n) (vs.drop n)
  | 0, _, _, h => h
  | n + 1, [], vs, h => by
    have h : vs = [] := h
    rw [h]
    rfl
  | n + 1, d :: ds, _, h => by
    obtain ⟨v, us, rfl, h1, h2⟩ := h
    exact DvAll.drop' n h2
theorem off_same {H H' : Hp} {L : Addr} {ys : List V} (s : Same H H') (nL : H L = none) : Same H (upd H' L (.lst ys)) := fun a o e => by
  rw [upd_ne (ne_of_none e nL)]
  exact s a o e
theorem off_tup {H : Hp} {L a : Addr} {us ys xs : List V} (hL : H L = some (.lst us)) (h : H a = some (.tup xs)) : (upd H L (.lst ys)) a = some (.tup xs) := by
  rw [upd_ne (fun e => by rw [e, hL] at h; cases h)]
  exact h
theorem mkT2 {b g p m : Addr} {n : Nat} {H : Hp} {ds : List PyData} {us : List V} (B : Box H b g m n) (h : H p = some (.tup us)) (all : DvAll b g H ds us) : Dv b g H (.tuple ds) (.ref p) := Dv.mkT (.inl h) (B.off (.inl h)).1 (B.off (.inl h)).2 all
section
variable {P : Program} {w : World} {K : PySem.W.Frag} {mg : Str → Option Value} {base : Heap}
abbrev sGa : Stmt := top 73
abbrev pGa : List Str := ["_law_box_here", "_law_rows_here"]
abbrev nGa : List Str := ["_law_box_here", "_law_rows_here", "_law_node", "_law_message", "_law_some_here", "_law_event", "_law_at", "_law_other"]
theorem scGa : FnScope nGa pGa (defScope sGa) := ⟨rfl, rfl, rfl, by decide +kernel, rfl, by decide +kernel, by decide +kernel⟩
def spGa : Sp := fun vs H Q _ => ∃ (b g m W : Addr) (n : Nat) (c : Rq) (xs zs : List Str) (rs : Rws), vs = [.ref b, .ref W] ∧ Box H b g m n ∧ n ≤ 400000 ∧ GDk H W (kvs rs) ∧ Fit H c xs rs ∧ 1 ≤ xs.length ∧ (∀ x ∈ xs, x ∈ zs) ∧
  ∀ (p : Addr) (d : PyData) (H' : Hp), Dv b g H' d (.ref p) → Lay 6 d → Bad zs d → headB d = true → Box H' b g m (n + 300) → Keep b g H H' → Q (.ref p) H'
theorem ok_ga {f f1 f2 : Addr} {fd fd1 fd2 : FuncData} {k : Nat} (F : Fun K "_law_garbage" "_law_garbage" sGa f fd) (T : Blt mg)
    (FT : Fun K "_law_take" "_law_take" sTake f1 fd1) (bT : Binds K fd1 ["_law_box_here", "_law_size"] []) (gT : mg "_law_take" = some (.ref f1)) (GT : FnOk P w K mg base CX0 k f1 fd1 ["_law_box_here", "_law_size"] spTake)
    (FM : Fun K "_law_false_message" "_law_false_message" sFm f2 fd2) (bM : Binds K fd2 pFm []) (gM : mg "_law_false_message" = some (.ref f2)) (GM : FnOk P w K mg base CX0 k f2 fd2 pFm spFm) : FnOk P w K mg base CX0 (k + 1) f fd pGa spGa := by
  refine F.ok scGa (fun vs H Q E h => ?_) (fun cdv A outer s H vs Q E hr h => ?_)
  · obtain ⟨b, g, m, W, n, c, xs, zs, rs, rfl, _⟩ := h
    rfl
  · obtain ⟨b, g, m, W, n, c, xs, zs, rs, rfl, B, hn, ⟨oW, gW, eW⟩, fit, x1, sub, q⟩ := h
    refine ⟨_, pss_cons (ps_set (i := 2) scGa.nd rfl (Or.inl rfl) (pe_ix ix_list (pe_callB cr_sortedS (by rfl) T.srt (by decide +kernel) (pa_cons (pe_callTy (call_listD rfl) (by rfl) T.lst (by decide +kernel) (pa_cons (pv 1) pa_nil)) pa_nil)) (pe_call GT hr (by rfl) gT FT.kp bT .nil pass0 (pa_cons (pv 0) (pa_cons (pe_callB call_lenR (by rfl) T.len PySem.boot_len (pa_cons (pv 1) pa_nil)) pa_nil))) (fun _ _ => rfl)))
      (pss_cons (ps_set (i := 3) scGa.nd rfl (Or.inl rfl) (pe_call GM hr (by rfl) gM FM.kp bM .nil pass0 (pa_cons (pv 0) (pa_cons (pv 1) (pa_cons (pv 2) (pa_cons (pe_lst (pa_cons (pe_tup (pa_cons pe_int (pa_cons pe_str pa_nil))) pa_nil)) pa_nil))))))
      (pss_cons (ps_set (i := 4) scGa.nd rfl (Or.inl rfl) (pe_lst (pa_cons (pe_tup (pa_cons pe_str (pa_cons (pv 2) (pa_cons (pe_tup (pa_cons pe_int (pa_cons pe_str pa_nil))) (pa_cons pe_str pa_nil))))) (pa_cons (pe_tup (pa_cons pe_str (pa_cons (pv 2) (pa_cons (pv 3) pa_nil)))) pa_nil))))
      (pss_cons (ps_expr (pe_bm PySem.F.plainAttrs_list PySem.F.slot_list_append PySem.F.type_list_append mt_append (pv 4) (pa_cons (pe_tup (pa_cons pe_str (pa_cons (pv 2) (pa_cons (pe_tup (pa_cons pe_int (pa_cons pe_str pa_nil))) (pa_cons pe_str pa_nil))))) pa_nil)))
      (pss_cons (ps_expr (pe_bm PySem.F.plainAttrs_list PySem.F.slot_list_append PySem.F.type_list_append mt_append (pv 4) (pa_cons (pe_tup (pa_cons pe_str (pa_cons (pv 2) (pa_cons (pe_tup (pa_cons pe_int (pa_cons pe_str pa_nil))) (pa_cons pe_str (pa_cons (pe_tup (pa_cons pe_str (pa_cons (pe_tup (pa_cons (pv 2) pa_nil)) pa_nil))) pa_nil)))))) pa_nil)))
      (pss_cons (ps_expr (pe_bm PySem.F.plainAttrs_list PySem.F.slot_list_append PySem.F.type_list_append mt_append (pv 4) (pa_cons (pe_tup (pa_cons pe_str (pa_cons (pv 2) (pa_cons (pe_tup (pa_cons pe_int (pa_cons pe_str pa_nil))) (pa_cons pe_str (pa_cons (pe_tup (pa_cons (pv 2) pa_nil)) pa_nil)))))) pa_nil)))
      (pss_cons (ps_set (i := 5) scGa.nd rfl (Or.inl rfl) (pe_ix ix_list (pv 4) (pe_call GT hr (by rfl) gT FT.kp bT .nil pass0 (pa_cons (pv 0) (pa_cons pe_int pa_nil))) (fun _ _ => rfl)))
      (pss_cons (ps_set (i := 6) scGa.nd rfl (Or.inl rfl) (pe_call GT hr (by rfl) gT FT.kp bT .nil pass0 (pa_cons (pv 0) (pa_cons (pe_callB call_len_seq (by rfl) T.len PySem.boot_len (pa_cons (pv 5) pa_nil)) pa_nil))))
      (pss_cons (ps_set (i := 7) scGa.nd rfl (Or.inl rfl) (pe_ix ix_list (pe_lst (pa_cons pe_non (pa_cons pe_int (pa_cons (pe_lst pa_nil) (pa_cons (pe_lst (pa_cons pe_str pa_nil)) (pa_cons (pe_tup pa_nil) (pa_cons (pe_tup (pa_cons (pe_tup pa_nil) pa_nil)) (pa_cons pe_bl (pa_cons (pe_lst (pa_cons (pe_lst (pa_cons (pv 2) pa_nil)) pa_nil)) (pa_cons (pe_un un_neg pe_int) pa_nil)))))))))) (pe_call GT hr (by rfl) gT FT.kp bT .nil pass0 (pa_cons (pv 0) (pa_cons pe_int pa_nil))) (fun _ _ => rfl)))
      (pss_one (ps_ret (pe_op op_catA (pe_op op_catA (pe_slice sl_tupA (pv 5) po_none (po_some (pv 6))) (pe_tup (pa_cons (pv 7) pa_nil))) (pe_slice sl_tupA (pv 5) (po_some (pe_op op_add (pv 6) pe_int)) po_none)))))))))))), ?_⟩
    have few := fit.few
    have flen := fit.len
    have kl : (kvs rs).length = rs.length := by unfold kvs; rw [List.length_map]
    refine ⟨.ref W, rfl, W, _, rfl, .inr ⟨oW, eW⟩, fun l1 nl1 => ?_⟩
    rw [keys_strs]
    refine ⟨l1, rs.map (·.1), rfl, SqL.of upd_same, by rw [List.length_map]; omega, fun ys p1 pm srt np1 => ?_⟩
    have s2 := (same_new (o := .lst ((rs.map (·.1)).map V.str)) nl1).trans (same_new (o := .lst (ys.map V.str)) np1)
    have hp1 : upd (upd H l1 (.lst ((rs.map (·.1)).map V.str))) p1 (.lst (ys.map V.str)) p1 = some (.lst (ys.map V.str)) := upd_same
    obtain ⟨p1b, p1g, _⟩ := (B.same (same_new nl1)).ne np1
    have B2 := B.same s2
    generalize upd (upd H l1 (.lst ((rs.map (·.1)).map V.str))) p1 (.lst (ys.map V.str)) = H2 at s2 hp1 B2 ⊢
    have yp : ys.Perm xs := pm.trans fit.keys
    have yl := yp.length_eq
    have eW2 := s2 _ _ eW
    refine ⟨.ref b, rfl, .ref W, rfl, W, _, rfl, .inr ⟨oW, eW2⟩, b, g, m, _, _, rfl, B2, by omega, by rw [kl]; omega, by rw [kl]; omega, fun v H3 v0 v1 B3 K3 => ?_⟩
    rw [kl] at v1
    obtain ⟨j, rfl⟩ := Int.eq_ofNat_of_zero_le v0
    have jl : j < ys.length := by omega
    have hj : ys[j]? = some ys[j] := List.getElem?_eq_getElem jl
    generalize ys[j] = x at hj
    have mx : x ∈ xs := yp.mem_iff.mp (List.mem_of_getElem? hj)
    have mxr : x ∈ zs := sub x mx
    have nx := fit.nm x mx
    have eW3 := K3.nl B2 eW2 fun _ z => by cases z
    have fit3 := (fit.same s2).tups (K3.tups B2)
    have K03 : Keep b g H H3 := (Same.keep s2).trans K3
    refine ⟨p1, _, _, .str x, rfl, rfl, SqL.of (K3 _ _ hp1 p1b p1g), atI_nat (by rw [List.getElem?_map, hj]; rfl), ?_⟩
    -- the message
    refine ⟨.ref b, rfl, .ref W, rfl, .str x, rfl, by show 2 ≤ sizeLine; decide, fun t nt => ?_⟩
    obtain ⟨H4, e4, s4, h4, tb, tg, B4⟩ := new_ho B3 nt (.tup [.int 1, .str "x"])
    rw [← e4]
    refine ⟨by show 1 ≤ sizeLine; decide, fun l nl => ?_⟩
    obtain ⟨H5, e5, s5, h5, lb, lg, B5⟩ := new_ho B4 nl (.lst [.ref t])
    rw [← e5]
    have s35 := s4.trans s5
    refine ⟨b, g, m, W, l, t, _, c, xs, rs, x, rfl, B5, by omega, ⟨oW, gW, s35 _ _ eW3⟩, fit3.same s35, mx, h5, lb, lg, s5 _ _ h4, fun pm' d Hm dm ld Bm Km => ?_⟩
    have K0m : Keep b g H Hm := (K03.trans (Same.keep s35)).trans Km
    clear fit3 eW3 hp1 K3 B2 eW2 s2 K03 Km B4 B5 s35 s4 s5 e4 e5 h4 h5
    -- the list of two
    refine ⟨.str x, rfl, by show 2 ≤ sizeLine; decide, fun a0 na0 => ?_⟩
    obtain ⟨G1, e1, s1, h1, _, _, B1⟩ := new_ho Bm na0 (.tup [.int 1, .str "x"])
    rw [← e1]
    refine ⟨by show 4 ≤ sizeLine; decide, fun t0 nt0 => ?_⟩
    obtain ⟨G2, e2, s2, h2, _, _, B2⟩ := new_ho B1 nt0 (.tup [.str "voted", .str x, .ref a0, .str "commit"])
    rw [← e2]
    refine ⟨.str x, rfl, .ref pm', rfl, by show 3 ≤ sizeLine; decide, fun t1 nt1 => ?_⟩
    obtain ⟨G3, e3, s3, h3, _, _, B3⟩ := new_ho B2 nt1 (.tup [.str "received", .str x, .ref pm'])
    rw [← e3]
    have f1 := s3 _ _ (s2 _ _ h1)
    have f2 := s3 _ _ h2
    have dm3 := ((dm.same s1).same s2).same s3
    have K3 : Keep b g H G3 := K0m.trans (Same.keep ((s1.trans s2).trans s3))
    refine ⟨by show 2 ≤ sizeLine; decide, fun L nL => ?_⟩
    obtain ⟨G4, e4, s4, h4, Lb, Lg, B4⟩ := new_ho B3 nL (.lst [.ref t0, .ref t1])
    obtain ⟨_, _, Lm⟩ := B3.ne nL
    rw [← e4]
    clear e1 e2 e3 e4 B1 B2 s1 s2 s3 h1 h2 dm K0m Bm
    -- the third
    refine ⟨.ref L, rfl, .inl ⟨rfl, _, SqL.of h4⟩, .str x, rfl, by show 2 ≤ sizeLine; decide, fun a2 na2 => ?_⟩
    obtain ⟨G5, e5, s5, h5, _, _, B5⟩ := new_ho B4 na2 (.tup [.int 2, .str "y"])
    rw [← e5]
    refine ⟨by show 4 ≤ sizeLine; decide, fun t2 nt2 => ?_⟩
    obtain ⟨G6, e6, s6, h6, _, _, B6⟩ := new_ho B5 nt2 (.tup [.str "voted", .str x, .ref a2, .str "abort"])
    rw [← e6]
    have hL6 := s6 _ _ (s5 _ _ h4)
    refine ⟨L, _, _, rfl, rfl, hL6, by show 2 < sizeLine; decide, ?_⟩
    have u7 : Same G3 (upd G6 L (.lst ([.ref t0, .ref t1] ++ [.ref t2]))) := off_same ((s4.trans s5).trans s6) nL
    have g5 := off_tup (ys := [.ref t0, .ref t1] ++ [.ref t2]) hL6 (s6 _ _ h5)
    have g6 := off_tup (ys := [.ref t0, .ref t1] ++ [.ref t2]) hL6 h6
    have B7 := B6.store (o := .lst ([.ref t0, .ref t1] ++ [.ref t2])) Lb Lg Lm
    have hL7 : upd G6 L (.lst ([.ref t0, .ref t1] ++ [.ref t2])) L = some (.lst [.ref t0, .ref t1, .ref t2]) := upd_same
    generalize upd G6 L (.lst ([.ref t0, .ref t1] ++ [.ref t2])) = G7 at u7 g5 g6 B7 hL7 ⊢
    clear e5 e6 B5 B6 s5 s6 h5 h6 hL6 s4 h4 B4
    -- the fourth
    refine ⟨.ref L, rfl, .inl ⟨rfl, _, SqL.of hL7⟩, .str x, rfl, by show 2 ≤ sizeLine; decide, fun a3 na3 => ?_⟩
    obtain ⟨G8, e8, s8, h8, _, _, B8⟩ := new_ho B7 na3 (.tup [.int 1, .str "x"])
    rw [← e8]
    refine ⟨.str x, rfl, by show 1 ≤ sizeLine; decide, fun c3 nc3 => ?_⟩
    obtain ⟨G9, e9, s9, h9, _, _, B9⟩ := new_ho B8 nc3 (.tup [.str x])
    rw [← e9]
    refine ⟨by show 2 ≤ sizeLine; decide, fun b3 nb3 => ?_⟩
    obtain ⟨G10, e10, s10, h10, _, _, B10⟩ := new_ho B9 nb3 (.tup [.str "support", .ref c3])
    rw [← e10]
    refine ⟨by show 5 ≤ sizeLine; decide, fun t3 nt3 => ?_⟩
    obtain ⟨G11, e11, s11, h11, _, _, B11⟩ := new_ho B10 nt3 (.tup [.str "accepted", .str x, .ref a3, .str "commit", .ref b3])
    rw [← e11]
    have s711 := ((s8.trans s9).trans s10).trans s11
    have hL11 := s711 _ _ hL7
    refine ⟨L, _, _, rfl, rfl, hL11, by show 3 < sizeLine; decide, ?_⟩
    have u12 : Same G3 (upd G11 L (.lst ([.ref t0, .ref t1, .ref t2] ++ [.ref t3]))) := off_same (u7.trans s711) nL
    have g5' := off_tup (ys := [.ref t0, .ref t1, .ref t2] ++ [.ref t3]) hL11 (s711 _ _ g5)
    have g6' := off_tup (ys := [.ref t0, .ref t1, .ref t2] ++ [.ref t3]) hL11 (s711 _ _ g6)
    have g8 := off_tup (ys := [.ref t0, .ref t1, .ref t2] ++ [.ref t3]) hL11 (s11 _ _ (s10 _ _ (s9 _ _ h8)))
    have g9 := off_tup (ys := [.ref t0, .ref t1, .ref t2] ++ [.ref t3]) hL11 (s11 _ _ (s10 _ _ h9))
    have g10 := off_tup (ys := [.ref t0, .ref t1, .ref t2] ++ [.ref t3]) hL11 (s11 _ _ h10)
    have g11 := off_tup (ys := [.ref t0, .ref t1, .ref t2] ++ [.ref t3]) hL11 h11
    have B12 := B11.store (o := .lst ([.ref t0, .ref t1, .ref t2] ++ [.ref t3])) Lb Lg Lm
    have hL12 : upd G11 L (.lst ([.ref t0, .ref t1, .ref t2] ++ [.ref t3])) L = some (.lst [.ref t0, .ref t1, .ref t2, .ref t3]) := upd_same
    generalize upd G11 L (.lst ([.ref t0, .ref t1, .ref t2] ++ [.ref t3])) = G12 at u12 g5' g6' g8 g9 g10 g11 B12 hL12 ⊢
    clear e8 e9 e10 e11 B7 B8 B9 B10 B11 s8 s9 s10 s11 h8 h9 h10 h11 hL11 s711 hL7 g5 g6 u7
    -- the fifth
    refine ⟨.ref L, rfl, .inl ⟨rfl, _, SqL.of hL12⟩, .str x, rfl, by show 2 ≤ sizeLine; decide, fun a4 na4 => ?_⟩
    obtain ⟨G13, e13, s13, h13, _, _, B13⟩ := new_ho B12 na4 (.tup [.int 1, .str "x"])
    rw [← e13]
    refine ⟨.str x, rfl, by show 1 ≤ sizeLine; decide, fun c4 nc4 => ?_⟩
    obtain ⟨G14, e14, s14, h14, _, _, B14⟩ := new_ho B13 nc4 (.tup [.str x])
    rw [← e14]
    refine ⟨by show 5 ≤ sizeLine; decide, fun t4 nt4 => ?_⟩
    obtain ⟨G15, e15, s15, h15, _, _, B15⟩ := new_ho B14 nt4 (.tup [.str "confirmed", .str x, .ref a4, .str "commit", .ref c4])
    rw [← e15]
    have s1215 := (s13.trans s14).trans s15
    have hL15 := s1215 _ _ hL12
    refine ⟨L, _, _, rfl, rfl, hL15, by show 4 < sizeLine; decide, ?_⟩
    have u16 : Same G3 (upd G15 L (.lst ([.ref t0, .ref t1, .ref t2, .ref t3] ++ [.ref t4]))) := off_same (u12.trans s1215) nL
    have k5 := off_tup (ys := [.ref t0, .ref t1, .ref t2, .ref t3] ++ [.ref t4]) hL15 (s1215 _ _ g5')
    have k6 := off_tup (ys := [.ref t0, .ref t1, .ref t2, .ref t3] ++ [.ref t4]) hL15 (s1215 _ _ g6')
    have k8 := off_tup (ys := [.ref t0, .ref t1, .ref t2, .ref t3] ++ [.ref t4]) hL15 (s1215 _ _ g8)
    have k9 := off_tup (ys := [.ref t0, .ref t1, .ref t2, .ref t3] ++ [.ref t4]) hL15 (s1215 _ _ g9)
    have k10 := off_tup (ys := [.ref t0, .ref t1, .ref t2, .ref t3] ++ [.ref t4]) hL15 (s1215 _ _ g10)
    have k11 := off_tup (ys := [.ref t0, .ref t1, .ref t2, .ref t3] ++ [.ref t4]) hL15 (s1215 _ _ g11)
    have k13 := off_tup (ys := [.ref t0, .ref t1, .ref t2, .ref t3] ++ [.ref t4]) hL15 (s15 _ _ (s14 _ _ h13))
    have k14 := off_tup (ys := [.ref t0, .ref t1, .ref t2, .ref t3] ++ [.ref t4]) hL15 (s15 _ _ h14)
    have k15 := off_tup (ys := [.ref t0, .ref t1, .ref t2, .ref t3] ++ [.ref t4]) hL15 h15
    have B16 := B15.store (o := .lst ([.ref t0, .ref t1, .ref t2, .ref t3] ++ [.ref t4])) Lb Lg Lm
    have hL16 : upd G15 L (.lst ([.ref t0, .ref t1, .ref t2, .ref t3] ++ [.ref t4])) L = some (.lst [.ref t0, .ref t1, .ref t2, .ref t3, .ref t4]) := upd_same
    generalize upd G15 L (.lst ([.ref t0, .ref t1, .ref t2, .ref t3] ++ [.ref t4])) = G16 at u16 k5 k6 k8 k9 k10 k11 k13 k14 k15 B16 hL16 ⊢
    clear e13 e14 e15 B12 B13 B14 B15 s13 s14 s15 h13 h14 h15 hL15 s1215 hL12 g5' g6' g8 g9 g10 g11 u12
    have K16 := K3.trans (Same.keep u16)
    have dx : Dv b g G16 (.str x) (.str x) := rfl
    have ev : ∀ i : Nat, i < 5 → ∃ (e : Addr) (us : List V), [V.ref t0, .ref t1, .ref t2, .ref t3, .ref t4][i]? = some (.ref e) ∧ G16 e = some (.tup us) ∧ DvAll b g G16 (evD x d i) us := by
      intro i hi
      match i, hi with
      | 0, _ => exact ⟨t0, _, rfl, u16 _ _ f2, .cons rfl (.cons dx (.two (mkT2 B16 (u16 _ _ f1) (.two rfl rfl)) rfl))⟩
      | 1, _ => exact ⟨t1, _, rfl, u16 _ _ h3, .cons rfl (.two dx (dm3.same u16))⟩
      | 2, _ => exact ⟨t2, _, rfl, k6, .cons rfl (.cons dx (.two (mkT2 B16 k5 (.two rfl rfl)) rfl))⟩
      | 3, _ => exact ⟨t3, _, rfl, k11, .cons rfl (.cons dx (.cons (mkT2 B16 k8 (.two rfl rfl)) (.two rfl (mkT2 B16 k10 (.two rfl (mkT2 B16 k9 (.cons dx .nil)))))))⟩
      | 4, _ => exact ⟨t4, _, rfl, k15, .cons rfl (.cons dx (.cons (mkT2 B16 k13 (.two rfl rfl)) (.two rfl (mkT2 B16 k14 (.cons dx .nil)))))⟩
    clear k5 k6 k8 k9 k10 k11 k13 k14 k15 f1 f2 h3 dm3 u16 K3 B3
    -- one of them
    refine ⟨.ref L, rfl, .ref b, rfl, b, g, m, _, 5, rfl, B16, by omega, by decide, by decide, fun v G17 v0 v1 B17 K17 => ?_⟩
    obtain ⟨i, rfl⟩ := Int.eq_ofNat_of_zero_le v0
    obtain ⟨e, us, ate, he, dv⟩ := ev i (by omega)
    have i5 : i < 5 := by omega
    obtain ⟨eb, eg⟩ := B16.off (.inl he)
    refine ⟨L, _, _, .ref e, rfl, rfl, SqL.of (K17 _ _ hL16 Lb Lg), atI_nat ate, ?_⟩
    have he7 := K17 _ _ he eb eg
    have dv7 := DvAll.keep K17 _ _ dv
    have ul := dv7.len
    have K017 := K16.trans K17
    clear ev he dv hL16 ate K16 K17 B16
    have l5 : (evD x d i).length ≤ 5 ∧ 3 ≤ (evD x d i).length := by
      match i, i5 with
      | 0, _ => exact ⟨by show 4 ≤ 5; decide, by show 3 ≤ 4; decide⟩
      | 1, _ => exact ⟨by show 3 ≤ 5; decide, by show 3 ≤ 3; decide⟩
      | 2, _ => exact ⟨by show 4 ≤ 5; decide, by show 3 ≤ 4; decide⟩
      | 3, _ => exact ⟨by show 5 ≤ 5; decide, by show 3 ≤ 5; decide⟩
      | 4, _ => exact ⟨by show 5 ≤ 5; decide, by show 3 ≤ 5; decide⟩
    refine ⟨.ref b, rfl, .ref e, rfl, e, _, rfl, .inr (SqT.of he7), b, g, m, _, _, rfl, B17, by omega, by omega, by omega, fun v G18 v0' v1' B18 K18 => ?_⟩
    obtain ⟨j, rfl⟩ := Int.eq_ofNat_of_zero_le v0'
    have ju : j < us.length := by omega
    have he8 := K18 _ _ he7 eb eg
    have dv8 := DvAll.keep K18 _ _ dv7
    have K018 := K017.trans K18
    clear he7 dv7 K017 K18 B17
    -- something else
    refine ⟨Nat.zero_le _, fun l0 nl0 => ?_⟩
    obtain ⟨Q1, e1, s1, h1, l0b, l0g, B1⟩ := new_ho B18 nl0 (.lst [])
    rw [← e1]
    refine ⟨by show 1 ≤ sizeLine; decide, fun l1 nl1 => ?_⟩
    obtain ⟨Q2, e2, s2, h2, l1b, l1g, B2⟩ := new_ho B1 nl1 (.lst [.str "a"])
    rw [← e2]
    refine ⟨Nat.zero_le _, fun q0 nq0 => ?_⟩
    obtain ⟨Q3, e3, s3, h3, _, _, B3⟩ := new_ho B2 nq0 (.tup [])
    rw [← e3]
    refine ⟨Nat.zero_le _, fun q1 nq1 => ?_⟩
    obtain ⟨Q4, e4, s4, h4, _, _, B4⟩ := new_ho B3 nq1 (.tup [])
    rw [← e4]
    refine ⟨by show 1 ≤ sizeLine; decide, fun q2 nq2 => ?_⟩
    obtain ⟨Q5, e5, s5, h5, _, _, B5⟩ := new_ho B4 nq2 (.tup [.ref q1])
    rw [← e5]
    refine ⟨.str x, rfl, by show 1 ≤ sizeLine; decide, fun l2 nl2 => ?_⟩
    obtain ⟨Q6, e6, s6, h6, l2b, l2g, B6⟩ := new_ho B5 nl2 (.lst [.str x])
    rw [← e6]
    refine ⟨by show 1 ≤ sizeLine; decide, fun l3 nl3 => ?_⟩
    obtain ⟨Q7, e7, s7, h7, l3b, l3g, B7⟩ := new_ho B6 nl3 (.lst [.ref l2])
    rw [← e7]
    refine ⟨_, rfl, by show 9 ≤ sizeLine; decide, fun l9 nl9 => ?_⟩
    obtain ⟨Q8, e8, s8, h8, l9b, l9g, B8⟩ := new_ho B7 nl9 (.lst [.non, .int 0, .ref l0, .ref l1, .ref q0, .ref q2, .bl true, .ref l3, .int (-1)])
    rw [← e8]
    have s08 := ((((((s1.trans s2).trans s3).trans s4).trans s5).trans s6).trans s7).trans s8
    have w1 := ((((((s2.trans s3).trans s4).trans s5).trans s6).trans s7).trans s8) _ _ h1
    have w2 := (((((s3.trans s4).trans s5).trans s6).trans s7).trans s8) _ _ h2
    have w3 := ((((s4.trans s5).trans s6).trans s7).trans s8) _ _ h3
    have w4 := (((s5.trans s6).trans s7).trans s8) _ _ h4
    have w5 := ((s6.trans s7).trans s8) _ _ h5
    have w6 := (s7.trans s8) _ _ h6
    have w7 := s8 _ _ h7
    clear e1 e2 e3 e4 e5 e6 e7 e8 B1 B2 B3 B4 B5 B6 B7 s1 s2 s3 s4 s5 s6 s7 s8 h1 h2 h3 h4 h5 h6 h7
    have oth : ∀ k : Nat, k < 9 → ∃ (v : V) (o : PyData), [V.non, .int 0, .ref l0, .ref l1, .ref q0, .ref q2, .bl true, .ref l3, .int (-1)][k]? = some v ∧ Dv b g Q8 o v ∧ Oth o := by
      intro k hk
      match k, hk with
      | 0, _ => exact ⟨_, .none, rfl, rfl, Lay.of (by decide +kernel), fun z e => (by cases e), .inl rfl⟩
      | 1, _ => exact ⟨_, .int 0, rfl, rfl, Lay.of (by decide +kernel), fun z e => (by cases e), .inl rfl⟩
      | 2, _ => exact ⟨_, .list [], rfl, Dv.mkL w1 l0b l0g .nil, Lay.of (by decide +kernel), fun z e => (by cases e), .inl rfl⟩
      | 3, _ => exact ⟨_, .list [.str "a"], rfl, Dv.mkL w2 l1b l1g (.cons rfl .nil), Lay.of (by decide +kernel), fun z e => (by cases e), .inl rfl⟩
      | 4, _ => exact ⟨_, .tuple [], rfl, mkT2 B8 w3 .nil, Lay.of (by decide +kernel), fun z e => (by cases e), .inr (.inl rfl)⟩
      | 5, _ => exact ⟨_, .tuple [.tuple []], rfl, mkT2 B8 w5 (.cons (mkT2 B8 w4 .nil) .nil), Lay.of (by decide +kernel), fun z e => (by cases e), .inr (.inr rfl)⟩
      | 6, _ => exact ⟨_, .bool true, rfl, rfl, Lay.of (by decide +kernel), fun z e => (by cases e), .inl rfl⟩
      | 7, _ => exact ⟨_, .list [.list [.str x]], rfl, Dv.mkL w7 l3b l3g (.cons (Dv.mkL w6 l2b l2g (.cons rfl .nil)) .nil), (Lay.lst fun d md => by
          rw [List.mem_singleton.mp md]
          exact Lay.lst fun d md => by
            rw [List.mem_singleton.mp md]
            exact Lay.str nx.ok : Lay 2 _).more (by decide), fun z e => (by cases e), .inl rfl⟩
      | 8, _ => exact ⟨_, .int (-1), rfl, rfl, Lay.of (by decide +kernel), fun z e => (by cases e), .inl rfl⟩
    refine ⟨.ref b, rfl, b, g, m, _, 9, rfl, B8, by omega, by decide, by decide, fun v G19 o0 o1 B19 K19 => ?_⟩
    obtain ⟨k, rfl⟩ := Int.eq_ofNat_of_zero_le o0
    obtain ⟨v, o, atk, dvo, O⟩ := oth k (by omega)
    refine ⟨l9, _, _, v, rfl, rfl, SqL.of (K19 _ _ h8 l9b l9g), atI_nat atk, ?_⟩
    have K1819 : Keep b g G18 G19 := (Same.keep s08).trans K19
    have he9 := K1819 _ _ he8 eb eg
    have dv9 := DvAll.keep K1819 _ _ dv8
    have do9 := Dv.keep K19 _ _ dvo
    have K019 := K018.trans K1819
    clear oth atk w1 w2 w3 w4 w5 w6 w7 h8 s08 he8 dv8 dvo B8 B18 K018 K1819 K19
    -- the event changed
    refine ⟨.ref e, rfl, .int j, rfl, (j : Int), rfl, take_ok he9 ju fun pa Ga sa ha => ?_⟩
    refine ⟨v, rfl, by show 1 ≤ sizeLine; decide, fun pb npb => ?_⟩
    have sb := same_new (o := .tup [v]) npb
    have hb : (upd Ga pb (.tup [v])) pb = some (.tup [v]) := upd_same
    generalize upd Ga pb (.tup [v]) = Gb at sb hb ⊢
    have lt : (us.take j).length ≤ 5 := by rw [List.length_take]; omega
    have ldr : (us.drop (j + 1)).length ≤ 5 := by rw [List.length_drop]; omega
    refine catA_ok (sb _ _ ha) hb (by show _ + 1 ≤ 1000; omega) fun pc Gc sc hc => ?_
    refine ⟨.ref e, rfl, .int j, rfl, _, _, rfl, rfl, (j : Int) + 1, rfl, ?_⟩
    refine drop_ok (K := K) (Q := fun y H2 => rCatA K (.ref pc) y H2 Q) (sc _ _ (sb _ _ (sa _ _ he9))) ju fun pd Gd sd hd => ?_
    refine catA_ok (sd _ _ hc) hd (by rw [List.length_append]; show _ + 1 + _ ≤ 1000; omega) fun pe Ge se hee => ?_
    have sAll := (((sa.trans sb).trans sc).trans sd).trans se
    have Be := B19.same sAll
    have g := garb (xs := zs) (m := d) mxr O i5 (show j < (evD x d i).length by omega)
    have lv := lay_ev nx.ok ld i5
    refine q pe _ Ge (mkT2 Be hee (DvAll.app ((dv9.same sAll).drop' (j + 1)) (DvAll.snoc (do9.same sAll) ((dv9.same sAll).take' j)))) (Lay.tup fun y my => ?_) g.1 g.2 (Be.more (by omega)) (K019.trans (Same.keep sAll))
    rcases List.mem_append.mp my with my | my
    · rcases List.mem_append.mp my with my | my
      · exact lv y (List.mem_of_mem_take my)
      · rw [List.mem_singleton.mp my]
        exact O.lay.more (by decide)
    · exact lv y (List.mem_of_mem_drop my)
end
end Moot
/-! _law_known -/
namespace Moot
open PySem PySem.Spec PyProof.Rows L2
/-- what is known of the error -/
structure OneU (K : PySem.W.Frag) (mg : Str → Option Value) (CU CM fU : Addr) : Prop where
  U : ExcT K mg "UnknownNode" CU fU
  gM : mg "MootError" = some (.ref CM)
  uN : PySem.W.findIn K (.ref CU) "name" = some none
  eUU : PySem.W.exmOne K (.ref CU) (.ref CU) = some true
section
variable {P : Program} {w : World} {K : PySem.W.Frag} {mg : Str → Option Value} {base : Heap}
abbrev sKn : Stmt := top 74
abbrev pKn : List Str := ["_law_network", "_law_faulty_here", "_law_events", "_law_whole"]
abbrev nKn : List Str := ["_law_network", "_law_faulty_here", "_law_events", "_law_whole", "_law_found", "e"]
theorem scKn : FnScope nKn pKn (defScope sKn) := ⟨rfl, rfl, rfl, by decide +kernel, rfl, by decide +kernel, by decide +kernel⟩
def spKn (K : PySem.W.Frag) (C : Addr) : Sp := fun vs H Q _ => ∃ (net D a : Addr) (c : Rq) (xs : List Str) (rs : Rws) (S R : List Str) (u : Str) (v : V) (wb : Bool), vs = [.ref net, .ref a, v, .bl wb] ∧ NetAt C H net D c xs rs ∧ NodesAt K H a (S ++ u :: R) ∧ (∀ x ∈ S, x ∈ xs) ∧ u ∉ xs ∧ ∀ H', Same H H' → Q (.str u) H'
theorem ok_kn {f f1 f2 C CU CM fU : Addr} {fd fd1 fd2 : FuncData} {k : Nat} (F : Fun K "_law_known" "_law_known" sKn f fd) (W2 : OneU K mg CU CM fU)
    (F1 : Fun K "is_complete_history" "is_complete_history" sYh f1 fd1) (b1 : Binds K fd1 pVh []) (g1 : mg "is_complete_history" = some (.ref f1)) (G1 : FnOk P w K mg base (L2.CX P w) k f1 fd1 pVh (spHiX K C CU))
    (F2 : Fun K "is_valid_history" "is_valid_history" sVh f2 fd2) (b2 : Binds K fd2 pVh []) (g2 : mg "is_valid_history" = some (.ref f2)) (G2 : FnOk P w K mg base (L2.CX P w) k f2 fd2 pVh (spHiX K C CU)) : FnOk P w K mg base CX0 (k + 1) f fd pKn (spKn K C) := by
  refine F.ok scKn (fun vs H Q E h => ?_) (fun cdv A outer s H vs Q E hr h => ?_)
  · obtain ⟨net, D, a, c, xs, rs, S, R, u, v, wb, rfl, _⟩ := h
    rfl
  · obtain ⟨net, D, a, c, xs, rs, S, R, u, v, wb, rfl, N, he, sub, nu, q⟩ := h
    refine ⟨_, pss_cons (ps_set (i := 4) scKn.nd rfl (Or.inl rfl) pe_str)
      (pss_cons (ps_tryCl rfl rfl scKn.nd takes0
        (fun W pn xe tk _ => pss_one (ps_if (pt_val (pv 3)) (pss_one (ps_expr (pe_callS G1 hr (by rfl) g1 F1.kp b1 (fun σ => passAt tk σ) (pa_cons (pv 0) (pa_cons (pv 1) (pa_cons (pv 2) pa_nil))))))
          (pss_one (ps_expr (pe_callS G2 hr (by rfl) g2 F2.kp b2 (fun σ => passAt tk σ) (pa_cons (pv 0) (pa_cons (pv 1) (pa_cons (pv 2) pa_nil))))))))
        (ClOk.cons (i := some 5) ⟨by rfl, by decide, .inl W2.U.gC⟩ (.some rfl rfl) (fun a oe cls d pn hz hf => pss_one (ps_set (i := 4) scKn.nd rfl (Or.inl rfl) (pe_xf W2.U.xf W2.uN hz hf (pv 5))))
        (ClOk.cons (i := none) ⟨by rfl, by decide, .inl W2.gM⟩ .none (fun a oe cls d pn hz hf => pss_one (ps_set (i := 4) scKn.nd rfl (Or.inl rfl) pe_str))
        .nil)))
      (pss_one (ps_ret (pv 4)))), ?_⟩
    cases wb with
    | true =>
      refine ⟨_, rfl, _, rfl, iteT ⟨.ref net, rfl, .ref a, rfl, v, rfl, net, D, a, c, xs, rs, S, R, u, v, rfl, N, he, sub, nu, fun d H1 s1 nd hd => ?_⟩⟩
      refine ⟨true, W2.eUU, fun _ ax na => ?_, fun x => nomatch x⟩
      exact ⟨.ref ax, rfl, rfl, rfl, d, _, _, rfl, hd, rfl, _, rfl, q H1 s1⟩
    | false =>
      refine ⟨_, rfl, _, rfl, iteF ⟨.ref net, rfl, .ref a, rfl, v, rfl, net, D, a, c, xs, rs, S, R, u, v, rfl, N, he, sub, nu, fun d H1 s1 nd hd => ?_⟩⟩
      refine ⟨true, W2.eUU, fun _ ax na => ?_, fun x => nomatch x⟩
      exact ⟨.ref ax, rfl, rfl, rfl, d, _, _, rfl, hd, rfl, _, rfl, q H1 s1⟩
end
end Moot
namespace Moot
open PySem PySem.Spec PyProof.Rows L2
section
variable {X : Cx} {e : Expr} {te : TE} {p apos cpos pos : Pos}
/-- list(e.items()), the dict known or not -/
theorem pe_itemsR (calm : X.calm = true) (he : PE X e te) (hg : Gl X "list") (hm : X.mg "list" = none) (hv : bootBuiltins "list" = some (.type "list")) (hb : attributeBase e "items" X.env (eval e X.env) = eval e X.env := by rfl) (hline : (apos.endLine == cpos.line) = true := by rfl)
    (hs : starEach [.Call (.Attribute e "items" apos) [] [] cpos] X.env = (false, eval (.Call (.Attribute e "items" apos) [] [] cpos) X.env) :: starEach [] X.env := by rfl) :
    PE X (.Call (.Name "list" p) [.Call (.Attribute e "items" apos) [] [] cpos] [] pos) (fun σ H Q => te σ H fun x H1 => ∃ (d : Addr) (kvs : List (L2.Key × V)), x = .ref d ∧ Rd H1 d (.dK kvs) ∧
      ∀ (H' : Hp) (l : Addr) (ts : List Addr), Same H1 H' → H1 l = none → H' l = some (.lst (ts.map V.ref)) → Paired (fun (t : Addr) (q : L2.Key × V) => H' t = some (.tup [kV q.1, q.2])) ts kvs → Q (.ref l) H') := by
  refine ⟨fun pins s σ H Q I q => wpAny_Call_Name_kw (ld_blt I hg hm hv (PyProof.Rows.callWith_type1 ?_ hs rfl))⟩
  rw [hs]
  refine Calls.spliced_cons (wpAny_Call_method (T := "dict") (id := "dict.items") hb rfl hline F.plainAttrs_dict F.slot_dict_items F.type_dict_items (thn (he.run pins s σ H _ I q) fun u s1 h1 => ?_))
  obtain ⟨x, H1, I1, rx, d, kvs, ex, hd, q⟩ := h1
  subst ex
  cases rx
  have ob : ObjOk X.prog X.w H1 s1.heap d (.dK kvs) := hd.ok I1.hok
  obtain ⟨few, lo, vs, kv, dic⟩ := ob
  obtain ⟨ep, dat⟩ := dic.dictAt
  have ln : kvs.length = vs.length := Paired.length kv
  refine ⟨dic.typeIs, dic.mapOf.noDict, ?_⟩
  refine method_meetsIn F.slot_dict_items F.entry_dict_items rfl (PySem.evalArgs_none ⟨rfl, dic.typeIs, F.args_dict_items_1 _, _, meets_dict_items (mixKind X.prog X.w) d lo, ⟨vs, dic⟩, Calls.spliced_nil ?_⟩)
  refine PySem.W.kdx_call (knd := mixKind X.prog X.w) (kvs := vs) (ep := ep) (I1.ok.hd calm) ⟨_, Heap.get?_push_size _ rfl, rfl, rfl⟩ (dat.push _) (by omega) fun h' tk acc c ts hk hS hl hG ha => ?_
  obtain ⟨H', same, nl, nts, _, hl', pr, J⟩ := LiI.items_laid (tk := tk) (I1.kept (t' := s1.toks) fun b ob q => Heap.get?_push_of_some _ q) few kv hk hS hl hG ha
  exact ⟨.ref _, H', J, rfl, q H' _ ts same nl hl' pr⟩
end
end Moot
/-! Walking a known tuple; [x if isinstance(x, str) else f(x) for x in ..]. -/
namespace Moot
open PySem PySem.Spec PyProof.Rows L2
/-- the items of the tuple at a, whose object is o -/
def Itk' (a : Addr) (o : Obj) (xs : List V) : It :=
  ⟨fun i H => H a = some (.frz o (.tup xs)) ∧ i < xs.length, fun i H x H' => H' = H ∧ xs[i]? = some x, fun i H => H a = some (.frz o (.tup xs)) ∧ xs.length ≤ i⟩
theorem turn_known {P : Program} {w : World} {K : PySem.W.Frag} {tg : Expr} (a it : Addr) (o : Obj) (xs : List V) : Turn P w K tg (Itk' a o xs) [it] it (fun i h => h.IsTupleIter it a i) := by
  have T := turn_tuple (P := P) (w := w) (K := K) (tg := tg) a it
  refine ⟨T.mem, T.obj, T.keep, ?_, ?_, T.self⟩
  · intro X hP hw hK hc i pins s σ H E I hf st hg
    obtain ⟨h1, h2⟩ := hg
    refine thn (T.item X hP hw hK hc i pins s σ H E I hf st ⟨xs, xs[i], .inl (.inr ⟨o, h1⟩), List.getElem?_eq_getElem h2⟩) fun r s1 ⟨u, hu, z⟩ => ⟨u, hu, thn z fun _ s2 ⟨x, H', a1, a2, ⟨e, y⟩, a4⟩ => ⟨x, H', a1, a2, ⟨e, y xs (.inl (.inr ⟨o, h1⟩))⟩, a4⟩⟩
  · intro X hP hw hK hc i pins s σ H E I hf st hg
    exact T.done X hP hw hK hc i pins s σ H E I hf st ⟨xs, .inl (.inr ⟨o, hg.1⟩), hg.2⟩
section
variable {X : Cx}
def iKnown (te : TE) : TI := fun σ H R => te σ H fun v H1 => ∃ a o xs, v = .ref a ∧ GdT o xs ∧ H1 a = some (.frz o (.tup xs)) ∧ R (Itk' a o xs) H1
theorem pig_known {nn : Nat} {tg e : Expr} {te : TE} (he : PE X e te) : PIG nn X tg e GdV (iKnown te) := by
  refine ⟨fun pins s σ H R I h => thn (he.run pins s σ H _ I h) fun v s1 ⟨y, H1, I1, r1, a, o, xs, ev, gd, ha, q⟩ => ?_⟩
  subst ev
  cases r1
  obtain ⟨its, n, hc, hd, rv, gi⟩ := gd
  obtain ⟨get, _⟩ := I1.hok a _ ha
  refine wpAny_pyIter_tuple (show s1.heap.IsTuple a its.toArray from ⟨o, get, hc, n, hd⟩) ?_
  refine ⟨s1.heap.objs.size, [s1.heap.objs.size], _, Itk' a o xs, H1, rfl, I1.kept (t' := s1.toks) fun b ob e => Heap.get?_push_of_some _ e, turn_known a _ o xs, ?_, ⟨_, Heap.get?_push_size _ rfl, rfl, rfl⟩, fun b hb => ?_, q⟩
  · intro Y e1 e2 e3 hcY i pins s σ H E k0 I hf st go
    obtain ⟨h1, h2⟩ := go
    obtain ⟨get', _⟩ := I.hok a _ h1
    obtain ⟨u, hu, ru⟩ := rv.get (List.getElem?_eq_getElem h2)
    rw [← e1, ← e2]
    obtain ⟨f0, f1, f2, f3, f4, f5⟩ := hf s1.heap.objs.size (by simp)
    refine wpAny_pyNext_tuple_item st (show s.heap.IsTuple a its.toArray from ⟨o, get', hc, n, hd⟩) (x := u) (by simpa using hu) fun h' st' sb => ?_
    have I2 : Inv Y pins σ H { s with heap := h' } := I.turned (t' := s.toks) (fun b ob hb e => (sb.2 b hb).trans e) f0 f1 f3 f4 f5
    obtain ⟨oi, e, cc, dd⟩ := id st'
    exact ⟨u, rfl, go_of (s := { s with heap := h' }) e cc dd (by decide) ⟨xs[i], H, I2, ru, gi u (List.mem_of_getElem? hu), ⟨rfl, List.getElem?_eq_getElem h2⟩, st', fun b hb => (hf b hb).1⟩⟩
  · have e : b = s1.heap.objs.size := by simpa using hb
    subst e
    exact I1.fpOk (Nat.le_refl _) (I1.hok.fresh (Nat.le_refl _))
end
section
variable {Y : Cx} {pins : List (Addr × Obj)} {σ : L2.St} {H : Hp} {s : Shared}
/-- isinstance(y, str), y a local text: nothing but a token or two changes -/
theorem raw_isi {y z : Str} {t : Tok} {p1 p2 p3 p4 : Pos} {m : Str → Option Value} {Q : Bool → Shared → Prop} {E : Value → Shared → Prop} (I : Inv Y pins σ H s) (hk : Y.env.scope.names.lookup y = some .local) (hn : s.heap.Ns Y.env.locals m) (hm : m y = some (.str z t))
    (gi : Gl Y "isinstance") (mi : Y.mg "isinstance" = none) (gs : Gl Y "str") (ms : Y.mg "str" = none) (h : ∀ tk, Q true { s with toks := tk })
    (he : starEach [.Name y p2, .Name "str" p3] Y.env = (false, eval (.Name y p2) Y.env) :: starEach [.Name "str" p3] Y.env := by rfl) (he2 : starEach [.Name "str" p3] Y.env = (false, eval (.Name "str" p3) Y.env) :: starEach [] Y.env := by rfl)
    (hpl : (backTo p4 (starEach [.Name "str" p3] Y.env)).any (·.1) = false := by rfl)
    (hw : ∀ whole, isTrue (.Call (.Name "isinstance" p1) [.Name y p2, .Name "str" p3] [] p4) Y.env whole = (do let v ← whole; standAt (Expr.Call (.Name "isinstance" p1) [.Name y p2, .Name "str" p3] [] p4).pos; holding [v] (truthy v)) := by intro _; rfl)
    (hdy : (y == ("__debug__" : Str)) = false := by decide) :
    wpAny (model Y.prog Y.w) Y.A (isTrue (.Call (.Name "isinstance" p1) [.Name y p2, .Name "str" p3] [] p4) Y.env (eval (.Call (.Name "isinstance" p1) [.Name y p2, .Name "str" p3] [] p4) Y.env)) Q E s := by
  refine isTrue_plain (wpAny_Call_Name_kw (ld_blt I gi mi (u := .builtin "isinstance") (by decide +kernel) ?_)) (hw _)
  refine callWith_builtin1 ?_ he hpl
  rw [he, he2]
  show wpAny _ _ (spliced ((false, eval (.Name y p2) Y.env) :: (false, eval (.Name "str" p3) Y.env) :: [])) _ _ _
  refine Calls.spliced_cons (raw_local I.ok hk hn hm (Calls.spliced_cons (ld_blt I gs ms (u := .type "str") (by decide +kernel) (Calls.spliced_nil ?_))) hdy)
  obtain ⟨P0, Z, pz, hx⟩ := kit_of (x := .str z) (u := .str z t) I ⟨t, rfl⟩ (.base (.str z))
  exact PySem.W.kia_one Z I.kIn pz (kit_ty (r := true) (by decide +kernel)) hx fun tk => wpAny_truthy_bool (h tk)
/-- one turn of [y if isinstance(y, str) else e2 for y in ..] -/
def tvIfStr (K : PySem.W.Frag) (i : Nat) (t2 : TE) : V → L2.St → Hp → Addr → (Hp → Prop) → Prop := fun x σ H D Nx =>
  (∃ (z : Str) (acc : List V), x = .str z ∧ GLs H D acc ∧ acc.length < sizeLine ∧ ∀ o', GdL o' (acc ++ [.str z]) → Nx (upd H D (.frz o' (.lst (acc ++ [.str z]))))) ∨
  ∃ a, x = .ref a ∧ TyX K H (.ref a) (.type "tuple") ∧ t2 (σ.set i (some x)) H fun v H2 => ∃ (b : Addr) (acc : List V), v = .ref b ∧ GLs H2 D acc ∧ acc.length < sizeLine ∧ ∀ o', GdL o' (acc ++ [.ref b]) → Nx (upd H2 D (.frz o' (.lst (acc ++ [.ref b]))))
theorem turn_ifStr {nn i : Nat} {y : Str} {e2 : Expr} {t2 : TE} {q0 p1 p2 p3 p4 p5 p6 : Pos} (xe : Y.xe = fun _ _ => False) (hN : Y.N.Nodup) (hi : Y.N[i]? = some y) (hk : Y.env.scope.names.lookup y = some .local) (h2 : PE Y e2 t2)
    (gi : Gl Y "isinstance") (mi : Y.mg "isinstance" = none) (gs : Gl Y "str") (ms : Y.mg "str" = none)
    (he : starEach [.Name y p2, .Name "str" p3] Y.env = (false, eval (.Name y p2) Y.env) :: starEach [.Name "str" p3] Y.env := by rfl) (he2 : starEach [.Name "str" p3] Y.env = (false, eval (.Name "str" p3) Y.env) :: starEach [] Y.env := by rfl)
    (hpl : (backTo p4 (starEach [.Name "str" p3] Y.env)).any (·.1) = false := by rfl)
    (hw : ∀ whole, isTrue (.Call (.Name "isinstance" p1) [.Name y p2, .Name "str" p3] [] p4) Y.env whole = (do let v ← whole; standAt (Expr.Call (.Name "isinstance" p1) [.Name y p2, .Name "str" p3] [] p4).pos; holding [v] (truthy v)) := by intro _; rfl)
    (hdy : (y == ("__debug__" : Str)) = false := by decide) (hcy : (y == ("__classdict__" : Str)) = false := by decide) :
    TurnOk nn Y (.Name y q0) [] (.IfExp (.Call (.Name "isinstance" p1) [.Name y p2, .Name "str" p3] [] p4) (.Name y p5) e2 p6) GdV [i] (tvIfStr Y.K i t2) := by
  intro pins s σ H x u D Nx _ I r g h
  have ws : ∀ v, wipe (σ.set i v) [i] = wipe σ [i] := fun v => by
    show (σ.set i v).set i none = σ.set i none
    rw [List.set_set]
  rcases h with ⟨z, acc, rfl, a1, a2, a3⟩ | ⟨a, rfl, ty, q⟩
  · obtain ⟨t, rfl⟩ := r
    refine wpAny_assign_Name (thn (store_both I hN hi hk (v := .str z) ⟨t, rfl⟩) fun _ s2 ⟨I2, m, hn, hm⟩ => wpAny_tests_nil ?_)
    rw [if_pos rfl]
    refine wpAny_IfExp (raw_isi I2 hk hn hm gi mi gs ms (fun tk => ?_) he he2 hpl hw hdy)
    rw [if_pos rfl]
    have I3 := I2.tok tk
    exact raw_local (s := { s2 with toks := tk }) I3.ok hk hn hm ⟨_, .str z, H, acc, I3, ws _, ⟨t, rfl⟩, g, a1, a2, a3⟩ hdy
  · have st := store_ok (M := model Y.prog Y.w) (A := Y.A) (E := fun _ _ => False) (Q := fun _ s' => Inv Y pins (σ.set i (some (.ref a))) H s') I hN hi (.inl hk) r (fun _ I' => I') (.inr hk)
    refine wpAny_assign_Name (thn st fun _ s2 I2 => wpAny_tests_nil ?_)
    rw [if_pos rfl]
    have test : PT Y (.Call (.Name "isinstance" p1) [.Name y p2, .Name "str" p3] [] p4) _ := pt_val (pe_callB call_isi gi mi (by decide +kernel) (pa_cons (pe_var (i := i) hi (.inl hk) hdy hcy) (pa_cons (pe_bltn (v := .ty "str") gs ms (u := .type "str") (by decide +kernel) rfl) pa_nil (hs := he2)) (hs := he)) (he := he) (hpl := hpl)) hw
    have iσ : (σ.set i (some (.ref a)))[i]? = some (some (.ref a)) := by
      rw [List.getElem?_set_self]
      rw [I.len]
      exact (List.getElem?_eq_some_iff.mp hi).1
    have t1 := test.run pins s2 (σ.set i (some (.ref a))) H (fun b H' => b = false ∧ H' = H) I2 ⟨.ref a, iσ, .ref a, .ty "str", .type "tuple", .type "str", false, rfl, .ty _, ty, kit_ty (r := false) (by decide +kernel), false, rfl, rfl, rfl⟩
    rw [xe] at t1
    refine wpAny_IfExp (thn t1 fun b s3 ⟨H3, I3, e1, e2⟩ => ?_)
    subst e1 e2
    rw [if_neg (by decide)]
    have r2 := h2.run pins s3 (σ.set i (some (.ref a))) H3 _ I3 q
    rw [xe] at r2
    refine thn r2 fun v s4 ⟨yv, H4, I4, r4, b, acc, ev, a1, a2, a3⟩ => ?_
    subst ev
    cases r4
    exact ⟨_, .ref b, H4, acc, I4, ws _, rfl, trivial, a1, a2, a3⟩
end
end Moot
namespace Moot
open PySem PySem.Spec PyProof.Rows L2
section
variable {X : Cx}
/-- name = [..] on one line, the list known -/
theorem ps_setLcG {i : Nat} {y : Str} {py : Pos} {elt tg iter : Expr} {ifs : List Expr} {scope : Scope} {own : List (Str × Nat)} {pos spos : Pos} {wi : TI} {GU : Value → Prop} {tv : V → L2.St → Hp → Addr → (Hp → Prop) → Prop} (hc : X.calm = true) (hN : X.N.Nodup) (hy : X.N[i]? = some y) (hyl : X.env.scope.names.lookup y = some .local)
    (hsw : swapsWith (.ListComp elt [⟨tg, iter, ifs, 0⟩] scope pos) (some (.Name y py)) spos.line X.env = pure true) (hi : PIG 0 X tg iter GU wi) (ok : BlkOk X.N X.env.scope scope own)
    (ht : ∀ (s : Shared) (H : Hp) (C : Addr) (cl : List (Str × Addr)) (fp : List Addr), TurnOk 0 (X.blk s H scope (compEnvC scope cl C X.env) fp) tg ifs elt GU (own.map (·.2)) tv) (hs : ∀ x, foldedSetIterable iter X.env x = pure x := by intro _; rfl) :
    PS X (.Assign [.Name y py] (.ListComp elt [⟨tg, iter, ifs, 0⟩] scope pos) spos) (tAsg (tLcG wi tv (own.map (·.2))) (gName i)) := by
  refine ⟨fun pins s σ H D I h => ?_⟩
  rw [exec_Assign_Name_used _ _ _ _ hsw]
  refine wpAny_bind (wpAny_standAt (wpAny_bind ?_))
  show wpAny _ X.A (do let _ ← comprehension (.ListComp elt [⟨tg, iter, ifs, 0⟩] scope pos) scope X.env (firstIterPos [⟨tg, iter, ifs, 0⟩] pos) (newList []) false (eval iter X.env) (some (assign (.Name y py) X.env))) _ _ s
  have h' : tLcG wi tv (own.map (·.2)) σ H (fun x H1 => gName i x σ H1 D.nx) := h
  refine wpAny_bind (thn (lcG_core (nn := 0) (Qf := fun _ s' => SP X pins D .next s') hc hN (Nat.zero_le _) I hi ok ht hs h' fun L C s' m H' _ I' q hn f => ?_) fun _ s' hq => wpAny_pure (wpAny_pure hq))
  show wpAny _ _ (assign (.Name y py) X.env (.ref L)) _ _ _
  refine wpAny_assign_Name (store_ok2 (v := V.ref L) I' hN hy (.inl hyl) rfl (fun s2 I2 ⟨a, sb, ha⟩ => ?_) (.inr hyl))
  obtain ⟨f0, f1, f2, f3, f4, f5⟩ := f
  have ne : C ≠ a := by
    rcases ha with z | z
    · rw [z]
      exact f1
    · exact fun e => f4 y a z e.symm
  exact ⟨m, hn.sameBut sb ne, fun h3 sb3 => ⟨_, H', I2.turned (t' := s2.toks) (fun b o hb e => (sb3.2 b hb).trans e) f0 f1 f3 f4 f5, q⟩⟩
end
section
variable {tv : V → L2.St → Hp → Addr → (Hp → Prop) → Prop} {vs : List Nat} {σ : L2.St} {H1 : Hp} {D : Addr} {Qd : Hp → Prop} {o0 : Obj}
theorem lcG_known {a : Addr} {o : Obj} {xs : List V} (Pv : Nat → Hp → Prop) (h0 : Pv 0 (upd H1 D (.frz o0 (.lst [])))) (hl : ∀ i H, Pv i H → H a = some (.frz o (.tup xs))) (hs : ∀ i x H, xs[i]? = some x → Pv i H → tv x (wipe σ vs) H D (Pv (i + 1))) (hd : ∀ H, Pv xs.length H → Qd H) :
    ∃ W : Nat → Nat → Hp → Prop, (∃ m, W 0 m (upd H1 D (.frz o0 (.lst [])))) ∧ ∀ i m H, W i m H → ((Itk' a o xs).stop i H ∧ Qd H) ∨ ((Itk' a o xs).go i H ∧ ∃ Nx : Hp → Prop, (∀ H', Nx H' → ∃ m', m' < m ∧ W (i + 1) m' H') ∧ ∀ x H', (Itk' a o xs).yld i H x H' → tv x (wipe σ vs) H' D Nx) :=
  lcG_by Pv h0 (fun i H lt p => ⟨hl i H p, lt⟩) (fun H p => ⟨hl _ H p, Nat.le_refl _⟩) (fun i x H H' lt p y => by
    obtain ⟨e, y⟩ := y
    subst e
    exact hs i x _ y p) hd
end
end Moot
/-! Walking a known list; [(y, e2) for y in ..], the pairs known. -/
namespace Moot
open PySem PySem.Spec PyProof.Rows L2
/-- the items of the list at a, whose object is o -/
def Itl' (a : Addr) (o : Obj) (xs : List V) : It :=
  ⟨fun i H => H a = some (.frz o (.lst xs)) ∧ i < xs.length, fun i H x H' => H' = H ∧ xs[i]? = some x, fun i H => H a = some (.frz o (.lst xs)) ∧ xs.length ≤ i⟩
theorem turn_knownL {P : Program} {w : World} {K : PySem.W.Frag} {tg : Expr} (a it : Addr) (o : Obj) (xs : List V) : Turn P w K tg (Itl' a o xs) [it] it (fun i h => h.IsListIter it a i) := by
  have T := turn_list (P := P) (w := w) (K := K) (tg := tg) a it
  refine ⟨T.mem, T.obj, T.keep, ?_, ?_, T.self⟩
  · intro X hP hw hK hc i pins s σ H E I hf st hg
    obtain ⟨h1, h2⟩ := hg
    refine thn (T.item X hP hw hK hc i pins s σ H E I hf st ⟨xs, xs[i], .inl (.inr ⟨o, h1⟩), List.getElem?_eq_getElem h2⟩) fun r s1 ⟨u, hu, z⟩ => ⟨u, hu, thn z fun _ s2 ⟨x, H', a1, a2, ⟨e, y⟩, a4⟩ => ⟨x, H', a1, a2, ⟨e, y xs (.inl (.inr ⟨o, h1⟩))⟩, a4⟩⟩
  · intro X hP hw hK hc i pins s σ H E I hf st hg
    exact T.done X hP hw hK hc i pins s σ H E I hf st ⟨xs, .inl (.inr ⟨o, hg.1⟩), hg.2⟩
section
variable {X : Cx}
def iKnownL (te : TE) : TI := fun σ H R => te σ H fun v H1 => ∃ a o xs, v = .ref a ∧ GdL o xs ∧ H1 a = some (.frz o (.lst xs)) ∧ R (Itl' a o xs) H1
theorem pig_knownL {nn : Nat} {tg e : Expr} {te : TE} (he : PE X e te) : PIG nn X tg e GdV (iKnownL te) := by
  refine ⟨fun pins s σ H R I h => thn (he.run pins s σ H _ I h) fun v s1 ⟨y, H1, I1, r1, a, o, xs, ev, gd, ha, q⟩ => ?_⟩
  subst ev
  cases r1
  obtain ⟨its, n, rfl, rv, gi⟩ := gd
  obtain ⟨get, _⟩ := I1.hok a _ ha
  refine wpAny_pyIter_list (show s1.heap.IsList a its.toArray from ⟨_, get, rfl, n, rfl⟩) ?_
  refine ⟨s1.heap.objs.size, [s1.heap.objs.size], _, Itl' a _ xs, H1, rfl, I1.kept (t' := s1.toks) fun b ob e => Heap.get?_push_of_some _ e, turn_knownL a _ _ xs, ?_, ⟨_, Heap.get?_push_size _ rfl, rfl, rfl⟩, fun b hb => ?_, q⟩
  · intro Y e1 e2 e3 hcY i pins s σ H E k0 I hf st go
    obtain ⟨h1, h2⟩ := go
    obtain ⟨get', _⟩ := I.hok a _ h1
    obtain ⟨u, hu, ru⟩ := rv.get (List.getElem?_eq_getElem h2)
    rw [← e1, ← e2]
    obtain ⟨f0, f1, f2, f3, f4, f5⟩ := hf s1.heap.objs.size (by simp)
    refine wpAny_pyNext_list_item st (show s.heap.IsList a its.toArray from ⟨_, get', rfl, n, rfl⟩) (x := u) (by simpa using hu) fun h' st' sb => ?_
    have I2 : Inv Y pins σ H { s with heap := h' } := I.turned (t' := s.toks) (fun b ob hb e => (sb.2 b hb).trans e) f0 f1 f3 f4 f5
    obtain ⟨oi, e, cc, dd⟩ := id st'
    exact ⟨u, rfl, go_of (s := { s with heap := h' }) e cc dd (by decide) ⟨xs[i], H, I2, ru, gi u (List.mem_of_getElem? hu), ⟨rfl, List.getElem?_eq_getElem h2⟩, st', fun b hb => (hf b hb).1⟩⟩
  · have e : b = s1.heap.objs.size := by simpa using hb
    subst e
    exact I1.fpOk (Nat.le_refl _) (I1.hok.fresh (Nat.le_refl _))
/-- the list is as any from here on -/
theorem pss_meltL {rest : List Stmt} {u : TS} (h : PSs X rest u) : PSs X rest (fun D σ H => ∃ d o xs, H d = some (.frz o (.lst xs)) ∧ Nf X d ∧ u D σ (upd H d (.lst xs))) := by
  refine ⟨fun pins s σ H D I q => ?_⟩
  obtain ⟨d, o, xs, hd, nf, q⟩ := q
  exact h.run pins s σ _ D (inv_melt I hd nf) q
end
section
variable {tv : V → L2.St → Hp → Addr → (Hp → Prop) → Prop} {vs : List Nat} {σ : L2.St} {H1 : Hp} {D : Addr} {Qd : Hp → Prop} {o0 : Obj}
theorem lcG_knownL {a : Addr} {o : Obj} {xs : List V} (Pv : Nat → Hp → Prop) (h0 : Pv 0 (upd H1 D (.frz o0 (.lst [])))) (hl : ∀ i H, Pv i H → H a = some (.frz o (.lst xs))) (hs : ∀ i x H, xs[i]? = some x → Pv i H → tv x (wipe σ vs) H D (Pv (i + 1))) (hd : ∀ H, Pv xs.length H → Qd H) :
    ∃ W : Nat → Nat → Hp → Prop, (∃ m, W 0 m (upd H1 D (.frz o0 (.lst [])))) ∧ ∀ i m H, W i m H → ((Itl' a o xs).stop i H ∧ Qd H) ∨ ((Itl' a o xs).go i H ∧ ∃ Nx : Hp → Prop, (∀ H', Nx H' → ∃ m', m' < m ∧ W (i + 1) m' H') ∧ ∀ x H', (Itl' a o xs).yld i H x H' → tv x (wipe σ vs) H' D Nx) :=
  lcG_by Pv h0 (fun i H lt p => ⟨hl i H p, lt⟩) (fun H p => ⟨hl _ H p, Nat.le_refl _⟩) (fun i x H H' lt p y => by
    obtain ⟨e, y⟩ := y
    subst e
    exact hs i x _ y p) hd
end
section
variable {Y : Cx}
/-- one turn of [(y, e2) for y in ..] -/
def tvPair (i : Nat) (t2 : TE) : V → L2.St → Hp → Addr → (Hp → Prop) → Prop := fun x σ H D Nx => ∃ z : Str, x = .str z ∧ t2 (σ.set i (some x)) H fun v H2 => ∃ a, v = .ref a ∧ ∀ p o, H2 p = none → GdT o [x, v] →
  ∃ acc, GLs (upd H2 p (.frz o (.tup [x, v]))) D acc ∧ acc.length < sizeLine ∧ ∀ o', GdL o' (acc ++ [.ref p]) → Nx (upd (upd H2 p (.frz o (.tup [x, v]))) D (.frz o' (.lst (acc ++ [.ref p]))))
theorem turn_pair {nn i : Nat} {y : Str} {e2 : Expr} {t2 : TE} {x1} {q0 p1 pos : Pos} (xe : Y.xe = fun _ _ => False) (hN : Y.N.Nodup) (hi : Y.N[i]? = some y) (hk : Y.env.scope.names.lookup y = some .local) (h2 : PE Y e2 t2)
    (hs : starEach [.Name y p1, e2] Y.env = (false, eval (.Name y p1) Y.env) :: starEach [e2] Y.env := by rfl) (hs2 : starEach [e2] Y.env = (false, eval e2 Y.env) :: starEach [] Y.env := by rfl) (hdy : (y == ("__debug__" : Str)) = false := by decide) :
    TurnOk nn Y (.Name y q0) [] (.Tuple [.Name y p1, e2] x1 pos) GdV [i] (tvPair i t2) := by
  intro pins s σ H x u D Nx _ I r g h
  obtain ⟨z, rfl, q⟩ := h
  obtain ⟨t, rfl⟩ := r
  have ws : wipe (σ.set i (some (.str z))) [i] = wipe σ [i] := by
    show (σ.set i (some (.str z))).set i none = σ.set i none
    rw [List.set_set]
  refine wpAny_assign_Name (thn (store_both I hN hi hk (v := .str z) ⟨t, rfl⟩) fun _ s2 ⟨I2, m, hn, hm⟩ => wpAny_tests_nil ?_)
  rw [if_pos rfl]
  refine wpAny_Tuple_spliced ?_
  rw [hs]
  show wpAny _ _ (spliced ((false, eval (.Name y p1) Y.env) :: backTo pos (starEach [e2] Y.env))) _ _ s2
  refine Calls.spliced_cons (raw_local I2.ok hk hn hm ?_ hdy)
  have A2 := pa_cons h2 (pa_nil (X := Y)) hs2
  have A3 := A2.run pos pins s2 (σ.set i (some (.str z))) H (fun xs H2 => match xs with
    | [v] => ∃ a, v = .ref a ∧ ∀ p o, H2 p = none → GdT o [.str z, v] →
      ∃ acc, GLs (upd H2 p (.frz o (.tup [.str z, v]))) D acc ∧ acc.length < sizeLine ∧ ∀ o', GdL o' (acc ++ [.ref p]) → Nx (upd (upd H2 p (.frz o (.tup [.str z, v]))) D (.frz o' (.lst (acc ++ [.ref p]))))
    | _ => False) I2 q
  rw [xe] at A3
  refine thn A3 fun us s3 ⟨xs, H2, I3, r2, q2⟩ => ?_
  match xs, r2, q2 with
  | [v], r2, ⟨a, ev, q⟩ =>
    subst ev
    obtain ⟨w, rfl, rv⟩ := vals1 r2
    cases rv
    refine ⟨by show 2 ≤ sizeLine; decide, ?_⟩
    have fr : H2 s3.heap.objs.size = none := I3.hok.fresh (Nat.le_refl _)
    have vv : Vals [.str z, .ref a] [Value.str z t, .ref a] := .cons ⟨t, rfl⟩ (.cons rfl .nil)
    have gg : GdS [Value.str z t, .ref a] := fun v m => by
      rcases List.mem_cons.mp m with e | m
      · rw [e]; exact g
      · rw [List.mem_singleton.mp m]; trivial
    obtain ⟨acc, a1, a2, a3⟩ := q s3.heap.objs.size { cls := .type "tuple", data := .seq [Value.str z t, Value.ref a].toArray } fr ⟨[Value.str z t, .ref a], 0, rfl, rfl, vv, gg⟩
    exact ⟨_, .ref s3.heap.objs.size, _, acc, I3.laid (t' := s3.toks) (fun b o e => Heap.get?_push_of_some _ e) (Nat.le_refl _) (show ObjOk Y.prog Y.w _ _ _ (.frz { cls := .type "tuple", data := .seq [Value.str z t, Value.ref a].toArray } (.tup [.str z, .ref a])) from ⟨Heap.get?_push_size _ rfl, by show 2 ≤ sizeLine; decide, [Value.str z t, .ref a], vv, IsTup.new _ _⟩), ws, rfl, trivial, a1, a2, a3⟩
end
end Moot
/-! [y for y, z in ..] over known pairs; e[::-1]. -/
namespace Moot
open PySem PySem.Spec PyProof.Rows L2
section
variable {Y : Cx} {pins : List (Addr × Obj)} {σ : L2.St} {H : Hp} {s : Shared}
theorem store_more {i : Nat} {y z : Str} {v : V} {u w : Value} {m : Str → Option Value} {E : Value → Shared → Prop} (I : Inv Y pins σ H s) (hN : Y.N.Nodup) (hi : Y.N[i]? = some z) (hk : Y.env.scope.names.lookup z = some .local) (r : RelV v w) (hn : s.heap.Ns Y.env.locals m) (hm : m y = some u) (ne : y ≠ z) :
    wpAny (model Y.prog Y.w) Y.A (storeName Y.env z w) (fun _ s' => Inv Y pins (σ.set i (some v)) H s' ∧ ∃ m', s'.heap.Ns Y.env.locals m' ∧ m' y = some u) E s := by
  have hcls : (Y.env.scope.kind == .class || (Y.env.scope.kind == .module && Y.env.locals != Y.env.globals)) = false := by rw [I.ok.kind]; rfl
  exact wpAny_mono (wpAny_both (store_ok (Q := fun _ s' => Inv Y pins (σ.set i (some v)) H s') (E := E) I hN hi (.inl hk) r (fun _ I' => I') (.inr hk))
    (wpAny_storeName_local (Q := fun _ s' => ∃ m', s'.heap.Ns Y.env.locals m' ∧ m' y = some u) (E := E) hk hn (fun h' hn' _ => ⟨_, hn', by simp [ne, hm]⟩) hcls)) (fun _ _ z => z) fun _ _ z => z.1
/-- one turn of [y for y, z in ..], the pair known -/
def tvFst : V → L2.St → Hp → Addr → (Hp → Prop) → Prop := fun x σ H D Nx => ∃ (t r : Addr) (zz : Str) (acc : List V), x = .ref t ∧ GTp H t [.str zz, .ref r] ∧ GLs H D acc ∧ acc.length < sizeLine ∧ ∀ o', GdL o' (acc ++ [.str zz]) → Nx (upd H D (.frz o' (.lst (acc ++ [.str zz]))))
theorem turn_fst {nn i j : Nat} {y z : Str} {kt} {q0 q1 q2 p1 : Pos} (hc : Y.calm = true) (hN : Y.N.Nodup) (hi : Y.N[i]? = some y) (hk : Y.env.scope.names.lookup y = some .local) (hj : Y.N[j]? = some z) (hkz : Y.env.scope.names.lookup z = some .local) (ne : y ≠ z) (ij : i ≠ j)
    (hs1 : (assignEach [.Name y q1, .Name z q2] Y.env).map (·.2) = [assign (.Name y q1) Y.env, assign (.Name z q2) Y.env] := by rfl) (hl : (assignEach [.Name y q1, .Name z q2] Y.env).length = 2 := by rfl) (hst : (assignEach [.Name y q1, .Name z q2] Y.env).findIdx? (·.1) = none := by rfl)
    (hdy : (y == ("__debug__" : Str)) = false := by decide) :
    TurnOk nn Y (.Tuple [.Name y q1, .Name z q2] kt q0) [] (.Name y p1) (fun _ => True) [i, j] tvFst := by
  intro pins s σ H x u D Nx _ I r _ h
  obtain ⟨t, rr, zz, acc, rfl, ⟨o, ⟨its, n, hcl, hd, rv, gi⟩, hH⟩, a1, a2, a3⟩ := h
  cases r
  obtain ⟨get, _⟩ := I.hok t _ hH
  obtain ⟨u0, us, e0, r0, rest⟩ : ∃ u0 us, its = u0 :: us ∧ RelV (.str zz) u0 ∧ Vals [.ref rr] us := by
    cases rv with
    | cons p q => exact ⟨_, _, rfl, p, q⟩
  obtain ⟨u1, e1, r1⟩ := vals1 rest
  subst e1 e0
  obtain ⟨tk, rfl⟩ := r0
  have g0 : GdV (.str zz tk) := gi _ List.mem_cons_self
  have it : IsTup s.heap t [Value.str zz tk, u1].toArray := ⟨o, get, hcl, n, hd⟩
  refine assign_Tuple_tuple (I.ok.hd hc) it (by rw [hl]; rfl) hst fun h' hx => ?_
  have I1 : Inv Y pins σ H { s with heap := h' } := I.kept (t' := s.toks) fun b o e => hx b o (Nat.ne_of_lt (Heap.lt_size e)) e
  rw [hs1]
  show wpAny _ _ (assignInOrder [assign (.Name y q1) Y.env, assign (.Name z q2) Y.env] [Value.str zz tk, u1]) _ _ _
  refine assignInOrder_cons (wpAny_assign_Name (thn (store_both I1 hN hi hk (v := .str zz) ⟨tk, rfl⟩) fun _ s2 ⟨I2, m, hn, hm⟩ => ?_))
  refine assignInOrder_cons (wpAny_assign_Name (thn (store_more I2 hN hj hkz r1 hn hm ne) fun _ s3 ⟨I3, m3, hn3, hm3⟩ => assignInOrder_nil (wpAny_tests_nil ?_)))
  rw [if_pos rfl]
  have ws : wipe ((σ.set i (some (.str zz))).set j (some (.ref rr))) [i, j] = wipe σ [i, j] := by
    show (((σ.set i (some (.str zz))).set j (some (.ref rr))).set j none).set i none = (σ.set j none).set i none
    rw [List.set_set, List.set_comm _ _ ij, List.set_set]
  exact raw_local I3.ok hk hn3 hm3 ⟨_, .str zz, H, acc, I3, ws, ⟨tk, rfl⟩, g0, a1, a2, a3⟩ hdy
end
section
variable {tv : V → L2.St → Hp → Addr → (Hp → Prop) → Prop} {vs : List Nat} {σ : L2.St} {H1 : Hp} {D : Addr} {Qd : Hp → Prop} {o0 : Obj}
theorem lcG_list {K : PySem.W.Frag} {a : Addr} {xs : List V} (Pv : Nat → Hp → Prop) (h0 : Pv 0 (upd H1 D (.frz o0 (.lst [])))) (hl : ∀ i H, Pv i H → SqL K H a xs) (hs : ∀ i x H, xs[i]? = some x → Pv i H → tv x (wipe σ vs) H D (Pv (i + 1))) (hd : ∀ H, Pv xs.length H → Qd H) :
    ∃ W : Nat → Nat → Hp → Prop, (∃ m, W 0 m (upd H1 D (.frz o0 (.lst [])))) ∧ ∀ i m H, W i m H → ((Itl K a).stop i H ∧ Qd H) ∨ ((Itl K a).go i H ∧ ∃ Nx : Hp → Prop, (∀ H', Nx H' → ∃ m', m' < m ∧ W (i + 1) m' H') ∧ ∀ x H', (Itl K a).yld i H x H' → tv x (wipe σ vs) H' D Nx) :=
  lcG_by (n := xs.length) Pv h0 (fun i H lt p => ⟨xs, xs[i], hl i H p, List.getElem?_eq_getElem lt⟩) (fun H p => ⟨xs, hl _ H p, Nat.le_refl _⟩) (fun i x H H' lt p y => by
    obtain ⟨e, y⟩ := y
    subst e
    exact hs i x _ (y xs (hl _ _ p)) p) hd
end
section
variable {X : Cx} {e k : Expr} {te tk : TE} {p2 pos : Pos}
theorem vals_rev : ∀ {xs : List V} {us : List Value}, Vals xs us → Vals xs.reverse us.reverse
  | _, _, .nil => .nil
  | _, _, .cons r t => by
    rw [List.reverse_cons, List.reverse_cons]
    exact (vals_rev t).append (.cons r .nil)
/-- e[::-1], a list -/
theorem pe_rev (he : PE X e te) (hk : PE X k tk) (hs : ∀ a n : Addr, ∃ ops, subscripted (.Slice none none (some k) p2) false (.ref a) (.ref n) = operate ops (getItem (.ref a) (.ref n)) := by intro _ _; exact ⟨_, rfl⟩) : PE X (.Subscript e (.Slice none none (some k) p2) pos) (fun σ H Q => te σ H fun x H1 => tk σ H1 fun y H2 => y = .int (-1) ∧ ∃ a xs, x = .ref a ∧ SqL X.K H2 a xs ∧ ∀ p, H2 p = none → Q (.ref p) (upd H2 p (.lst xs.reverse))) := by
  refine ⟨fun pins s σ H Q I h => ?_⟩
  refine Subscript_ (thn (he.run pins s σ H _ I h) fun v s1 ⟨x, H1, I1, r1, q1⟩ => ?_)
  refine wpAny_Slice ?_
  rw [evalPart_none]
  refine wpAny_pure (wpAny_pure ?_)
  rw [evalPart_some]
  refine thn (hk.run pins s1 σ H1 _ I1 q1) fun u s2 ⟨y, H2, I2, r2, q2⟩ => ?_
  obtain ⟨rfl, a, xs, rfl, hq, q⟩ := q2
  obtain ⟨t, rfl⟩ := r2
  cases r1
  obtain ⟨its, r, hl, hz⟩ := I2.list hq
  have hlen := r.length
  have I4 : Inv X pins σ H2 { s2 with heap := s2.heap.push { cls := .type "slice", data := .fields #[.none, .none, .int (-1) t] } } := I2.kept (t' := s2.toks) fun b ob q => Heap.get?_push_of_some _ q
  obtain ⟨its', r', hl', hz'⟩ := I4.list hq
  have hlen' := r'.length
  show wpAny (model X.prog X.w) X.A (subscriptTail e (.Slice none none (some k) p2) (.ref a) (.ref s2.heap.objs.size)) (EP X pins σ Q) X.xe { s2 with heap := s2.heap.push { cls := .type "slice", data := .fields #[.none, .none, .int (-1) t] } }
  obtain ⟨ops, hs⟩ := hs a s2.heap.objs.size
  refine tail_any (ops := ops) (T := "list") hl'.isList.typeIs slot_list_getitem.lookup ?_ hs
  refine wpAny_getItem_list_slice hl'.isList (Heap.IsSliceOf.new ..) .none .none (.int (-1) t) (by decide) ?_ (by rw [List.size_toArray] <;> omega)
  rw [PySem.W.krv_pick]
  have rr : Vals xs.reverse its'.reverse := vals_rev r'
  refine ⟨.ref _, _, I4.laid (o := .lst xs.reverse) (fun b ob q => Heap.get?_push_of_some _ q) (Nat.le_refl _) ?_, rfl, q _ (I4.hok.fresh (Nat.le_refl _))⟩
  exact ⟨by rw [List.length_reverse]; exact hz', _, 0, rr, Heap.get?_push_size _ rfl⟩
end
end Moot
namespace Moot
open PySem PySem.Spec PyProof.Rows L2
section
variable {X : Cx}
theorem bl_beq (a b : Bool) : (Value.bool a == Value.bool b) = decide (a = b) := by
  by_cases e : a = b
  · subst e
    exact (beq_self_eq_true (Value.bool a)).trans (decide_eq_true (p := a = a) rfl).symm
  · exact (beq_eq_false_iff_ne.mpr fun z => e (Value.bool.inj z)).trans (decide_eq_false e).symm
/-- x is True, a truth value -/
theorem op_isB : OpR X (compareOp .Is) (fun x y H Q => ∃ a b, x = .bl a ∧ y = .bl b ∧ Q (.bl (decide (a = b))) H) := by
  intro pins s σ H x y v u Q I rx ry h
  obtain ⟨a, b, rfl, rfl, q⟩ := h
  cases (show v = Value.bool a from rx)
  cases (show u = Value.bool b from ry)
  exact wpAny_is_plain rfl (fin_bl I q (bl_beq a b).symm)
/-- x is not True, a truth value -/
theorem op_notB : OpR X (compareOp .IsNot) (fun x y H Q => ∃ a b, x = .bl a ∧ y = .bl b ∧ Q (.bl (!decide (a = b))) H) := by
  intro pins s σ H x y v u Q I rx ry h
  obtain ⟨a, b, rfl, rfl, q⟩ := h
  cases (show v = Value.bool a from rx)
  cases (show u = Value.bool b from ry)
  exact wpAny_isNot_plain rfl (fin_bl I q (congrArg not (bl_beq a b).symm))
end
end Moot
/-! The law. -/
namespace Moot
open PySem PySem.Spec PyProof.Rows L2
/-- what stays through the turns -/
structure Hold (C W net Dn e : Addr) (oW : Obj) (c : Rq) (xs : List Str) (rs rsN : Rws) (Fs : List Str) (H : Hp) : Prop where
  w : H W = some (.frz oW (.dK (kvs rs)))
  fit : Fit H c xs rs
  net : NetAt C H net Dn c xs rsN
  fa : H e = some (.lst (Fs.map V.str))
theorem Hold.same {C W net Dn e : Addr} {oW : Obj} {c : Rq} {xs : List Str} {rs rsN : Rws} {Fs : List Str} {H H' : Hp} (h : Hold C W net Dn e oW c xs rs rsN Fs H) (s : Same H H') : Hold C W net Dn e oW c xs rs rsN Fs H' := ⟨s _ _ h.w, h.fit.same s, h.net.same s, s _ _ h.fa⟩
theorem Hold.keep {C W net Dn e b g m : Addr} {n : Nat} {oW : Obj} {c : Rq} {xs : List Str} {rs rsN : Rws} {Fs : List Str} {H H' : Hp} (h : Hold C W net Dn e oW c xs rs rsN Fs H) (k : Keep b g H H') (B : Box H b g m n) (eb : e ≠ b) (eg : e ≠ g) : Hold C W net Dn e oW c xs rs rsN Fs H' :=
  ⟨k.nl B h.w fun _ z => (by cases z), h.fit.tups (k.tups B), ⟨let ⟨dx, e⟩ := h.net.ob; ⟨dx, k.nl B e fun _ z => (by cases z)⟩, k.nl B h.net.dc fun _ z => (by cases z), h.net.fit.tups (k.tups B), h.net.srt⟩, k _ _ h.fa eb eg⟩
/-- a list of events that is no history -/
def EvsL (xs Fs : List Str) (ds : List PyData) : Prop := (∃ d rest, ds = d :: rest ∧ Bad xs d) ∨ ∃ v d, ds = [v, d] ∧ Vote xs Fs v ∧ Bad xs d
theorem EvsL.no {xs Fs : List Str} {ds : List PyData} {o : PyData} (h : EvsL xs Fs ds) (e : seqD o = some ds) : EvsNo xs Fs o := by
  rcases h with ⟨d, rest, rfl, b⟩ | ⟨v, d, rfl, vo, b⟩
  · exact .inr (.inl ⟨d, rest, e, b⟩)
  · exact .inr (.inr ⟨v, d, e, vo, b⟩)
theorem EvsNo.more {xs Fs Gs : List Str} {o : PyData} (h : EvsNo xs Fs o) (sub : ∀ x ∈ Gs, x ∈ Fs) : EvsNo xs Gs o := by
  rcases h with h | h | ⟨v, d, e, ⟨n, z, bd, e1, mx, nf, r⟩, b⟩
  · exact .inl h
  · exact .inr (.inl h)
  · exact .inr (.inr ⟨v, d, e, ⟨n, z, bd, e1, mx, fun m => nf (sub n m), r⟩, b⟩)
theorem lst_in {xs Fs : List Str} {l : List PyData} : EvsNo xs Fs (.list [.list l]) := .inr (.inl ⟨.list l, [], rfl, .inl (.nt rfl)⟩)
section
variable {P : Program} {w : World} {K : PySem.W.Frag} {mg : Str → Option Value} {base : Heap}
abbrev sLaw : Stmt := top 75
abbrev nLaw : List Str := ["_law_script", "_law_box_here", "_law_rows_here", "_law_faulty_here", "_law_network", "_law_turn", "_law_event", "_law_events", "_law_honest", "_law_values", "_law_value", "_law_strange", "_law_found", "_law_name", "_law_whole"]
theorem scLaw : FnScope nLaw ["_law_script"] (defScope sLaw) := ⟨rfl, rfl, rfl, by decide +kernel, rfl, by decide +kernel, by decide +kernel⟩
def spLaw (K : PySem.W.Frag) : Sp := fun vs H Q _ => ∃ (a : Addr) (ns : List Int), vs = [.ref a] ∧ SqL K H a (ns.map V.int) ∧ ns.length ≤ 63 ∧ ∀ H', Q (.bl true) H'
theorem ok_law {f f1 f2 f3 f5 f6 f7 f8 f9 f10 f11 C : Addr} {fd fd1 fd2 fd3 fd5 fd6 fd7 fd8 fd9 fd10 fd11 : FuncData} {k : Nat} (F : Fun K "law" "law" sLaw f fd) (T : Bq mg) (TN : Bn mg) (X : Txt K mg C)
    (F1 : Fun K "_law_box" "_law_box" sBox f1 fd1) (b1 : Binds K fd1 ["_law_script"] []) (g1 : mg "_law_box" = some (.ref f1)) (G1 : FnOk P w K mg base CX0 (k + 1) f1 fd1 ["_law_script"] (spBox K))
    (F2 : Fun K "_law_take" "_law_take" sTake f2 fd2) (b2 : Binds K fd2 ["_law_box_here", "_law_size"] []) (g2 : mg "_law_take" = some (.ref f2)) (G2 : FnOk P w K mg base CX0 (k + 1) f2 fd2 ["_law_box_here", "_law_size"] spTake)
    (F3 : Fun K "_law_rows" "_law_rows" sRows f3 fd3) (b3 : Binds K fd3 ["_law_box_here", "_law_most"] []) (g3 : mg "_law_rows" = some (.ref f3)) (G3 : FnOk P w K mg base CX0 (k + 1) f3 fd3 ["_law_box_here", "_law_most"] spRowsG)
    (M5 : Mk K C f5) (b5 : Binds K fd5 ["self", "rows"] []) (G5 : FnOk P w K mg base CX0 k f5 fd5 ["self", "rows"] (spNi K C))
    (F6 : Fun K "_law_faulty" "_law_faulty" sFau f6 fd6) (b6 : Binds K fd6 ["_law_box_here", "_law_rows_here"] []) (g6 : mg "_law_faulty" = some (.ref f6)) (G6 : FnOk P w K mg base CX0 (k + 1) f6 fd6 ["_law_box_here", "_law_rows_here"] spFau)
    (F7 : Fun K "_law_garbage" "_law_garbage" sGa f7 fd7) (b7 : Binds K fd7 pGa []) (g7 : mg "_law_garbage" = some (.ref f7)) (G7 : FnOk P w K mg base CX0 (k + 1) f7 fd7 pGa spGa)
    (F8 : Fun K "_law_any" "_law_any" sAny f8 fd8) (b8 : Binds K fd8 ["_law_box_here"] []) (g8 : mg "_law_any" = some (.ref f8)) (G8 : FnOk P w K mg base CX0 (k + 1) f8 fd8 ["_law_box_here"] spAny)
    (F9 : Fun K "is_valid_history" "is_valid_history" sVh f9 fd9) (b9 : Binds K fd9 pVh []) (g9 : mg "is_valid_history" = some (.ref f9)) (G9 : FnOk P w K mg base CX0 (k + 1) f9 fd9 pVh (spVh K C))
    (F10 : Fun K "is_complete_history" "is_complete_history" sYh f10 fd10) (b10 : Binds K fd10 pVh []) (g10 : mg "is_complete_history" = some (.ref f10)) (G10 : FnOk P w K mg base CX0 (k + 1) f10 fd10 pVh (spVh K C))
    (F11 : Fun K "_law_known" "_law_known" sKn f11 fd11) (b11 : Binds K fd11 pKn []) (g11 : mg "_law_known" = some (.ref f11)) (G11 : FnOk P w K mg base CX0 (k + 1) f11 fd11 pKn (spKn K C)) : FnOk P w K mg base CX0 (k + 1 + 1) f fd ["_law_script"] (spLaw K) := by
  refine F.ok scLaw (fun vs H Q E h => ?_) (fun cdv A outer s H vs Q E hr h => ?_)
  · obtain ⟨a, ns, rfl, _⟩ := h
    rfl
  · obtain ⟨a, ns, rfl, hS, len, q⟩ := h
    have hu := hu_of hr
    refine ⟨_, pss_cons (ps_set (i := 1) scLaw.nd rfl (Or.inl rfl) (pe_call G1 hr (by rfl) g1 F1.kp b1 .nil pass0 (pa_cons (pv 0) pa_nil)))
      (pss_cons (ps_set (i := 2) scLaw.nd rfl (Or.inr rfl) (pe_callTy (call_dictG rfl) (by rfl) TN.dict (by decide +kernel) (pa_cons (pe_call G3 hr (by rfl) g3 F3.kp b3 .nil pass0 (pa_cons (pv 1) (pa_cons pe_int pa_nil))) pa_nil)))
      (pss_cons (ps_set (i := 3) scLaw.nd rfl (Or.inr rfl) (pe_call G6 hr (by rfl) g6 F6.kp b6 .nil pass0 (pa_cons (pv 1) (pa_cons (pv 2) pa_nil))))
      (pss_cons (ps_set (i := 4) scLaw.nd rfl (Or.inr rfl) (pe_make M5 G5 hr (by rfl) X.mgC b5 .nil pass0 (pa_cons (pe_itemsR rfl (pv 2) (by rfl) T.T.lst (by decide +kernel)) pa_nil)))
      (pss_cons (ps_for PassesOwn.never rfl (pi_range1 rfl T.T.rng (pa_cons (pe_op op_add pe_int (pe_call G2 hr (by rfl) g2 F2.kp b2 .nil pass0 (pa_cons (pv 1) (pa_cons pe_int pa_nil)))) pa_nil)) (pg_name (i := 5) scLaw.nd rfl (Or.inl rfl))
        (pss_cons (ps_set (i := 6) scLaw.nd rfl (Or.inl rfl) (pe_ix ix_list (pe_lst (pa_cons (pe_call G7 hr (by rfl) g7 F7.kp b7 .nil pass0 (pa_cons (pv 1) (pa_cons (pv 2) pa_nil))) (pa_cons (pe_call G8 hr (by rfl) g8 F8.kp b8 .nil pass0 (pa_cons (pv 1) pa_nil)) pa_nil)))
            (pe_callTy call_int1 (by rfl) T.T.int (by decide +kernel) (pa_cons (pe_cmpR op_eq (pe_call G2 hr (by rfl) g2 F2.kp b2 .nil pass0 (pa_cons (pv 1) (pa_cons pe_int pa_nil))) pe_int (nomark _)) pa_nil)) (fun _ _ => rfl)))
        (pss_cons (ps_set (i := 7) scLaw.nd rfl (Or.inl rfl) (pe_lst (pa_cons (pv 6) pa_nil)))
        (C8.pss_cut (ps_if (PW.pt (pw_and (pt_cmpR op_eq (pe_call G2 hr (by rfl) g2 F2.kp b2 .nil pass0 (pa_cons (pv 1) (pa_cons pe_int pa_nil))) pe_int (nomark _)) (pw_and1 (pt_cmpR op_gt (pe_callB call_lenR (by rfl) T.T.len PySem.boot_len (pa_cons (pv 2) pa_nil)) (pe_callB call_len_seq (by rfl) T.T.len PySem.boot_len (pa_cons (pv 3) pa_nil)) (nomark _)))))
            (pss_cons (ps_setLc (i := 8) (own := [("_law_name", 13)]) (g := gName 13) (by rfl) scLaw.nd rfl rfl (sw_true rfl rfl rfl (by decide +kernel)) (pi_list (pe_callB cr_sortedS (by rfl) T.T.srt (by decide +kernel) (pa_cons (pe_callTy (call_listD rfl) (by rfl) T.T.lst (by decide +kernel) (pa_cons (pv 2) pa_nil)) pa_nil))) (blkOk_by (N := nLaw) (sc := defScope sLaw) (by decide +kernel))
                (fun _ _ _ _ _ => pg_name (i := 13) scLaw.nd rfl (Or.inl rfl)) (fun _ _ _ _ _ => pts_one (pt_cmpR (show OpR _ (compareOp .NotIn) (rIn K true) from op_notIn_seq) (pv 13) (pv 3) (by rfl))) (fun _ _ _ _ _ => pv 13))
            (pss_one (ps_set (i := 7) scLaw.nd rfl (Or.inl rfl) (pe_lst (pa_cons (pe_tup (pa_cons pe_str (pa_cons (pe_ix ix_list (pv 8) pe_int (fun _ _ => rfl)) (pa_cons (pe_tup (pa_cons pe_int (pa_cons pe_str pa_nil))) (pa_cons pe_str pa_nil))))) (pa_cons (pv 6) pa_nil)))))) pss_nil)
        (pss_cons (ps_set (i := 9) scLaw.nd rfl (Or.inl rfl) (pe_lst (pa_cons (pv 7) (pa_cons (pe_callTy call_tuple_of (by rfl) T.T.tup (by decide +kernel) (pa_cons (pv 7) pa_nil)) (pa_cons (pv 6) (pa_cons (pe_lst (pa_cons (pv 7) pa_nil)) (pa_cons pe_int pa_nil)))))))
        (pss_cons (ps_set (i := 10) scLaw.nd rfl (Or.inr rfl) (pe_ix ix_list (pv 9) (pe_ix ix_list (pe_lst (pa_cons pe_int (pa_cons pe_int (pa_cons pe_int (pa_cons pe_int (pa_cons pe_int (pa_cons pe_int pa_nil))))))) (pe_call G2 hr (by rfl) g2 F2.kp b2 .nil pass0 (pa_cons (pv 1) (pa_cons pe_int pa_nil))) (fun _ _ => rfl)) (fun _ _ => rfl)))
        (C8.pss_cut (ps_if (pt_cmpR (op_inD (hu65 hr)) (pv 10) (pe_lst (pa_cons (pe_tup pa_nil) (pa_cons (pe_lst pa_nil) pa_nil))) (by rfl)) (pss_one (ps_set (i := 10) scLaw.nd rfl (Or.inr rfl) pe_non)) pss_nil)
        (pss_cons (ps_if (pt_cmpR op_notB (pe_call G9 hr (by rfl) g9 F9.kp b9 .nil pass0 (pa_cons (pv 4) (pa_cons (pv 3) (pa_cons (pv 10) pa_nil)))) pe_bl (nomark _)) (pss_one (ps_ret pe_bl)) pss_nil)
        (pss_one (ps_if (pt_cmpR op_notB (pe_call G10 hr (by rfl) g10 F10.kp b10 .nil pass0 (pa_cons (pv 4) (pa_cons (pe_op op_cat (pv 3) (pe_slice sl_list (pv 3) po_none (po_some pe_int))) (pa_cons (pv 10) pa_nil)))) pe_bl (nomark _)) (pss_one (ps_ret pe_bl)) pss_nil))))))))))
      (pss_cons (ps_set (i := 11) scLaw.nd rfl (Or.inr rfl) (pe_lc (own := [("_law_name", 13)]) (g := gName 13) (by rfl) scLaw.nd (pi_list (pe_lst (pa_cons pe_str (pa_cons pe_str (pa_cons pe_str (pa_cons pe_str pa_nil)))))) (blkOk_by (N := nLaw) (sc := defScope sLaw) (by decide +kernel))
          (fun _ _ _ _ _ => pg_name (i := 13) scLaw.nd rfl (Or.inl rfl)) (fun _ _ _ _ _ => pts_one (pt_cmp (pc_dnotin hu (pv 13) (pv 2)))) (fun _ _ _ _ _ => pv 13)))
      (pss_cons (ps_set (i := 10) scLaw.nd rfl (Or.inr rfl) (pe_ix ix_list (pe_lst (pa_cons (pe_call G8 hr (by rfl) g8 F8.kp b8 .nil pass0 (pa_cons (pv 1) pa_nil)) (pa_cons (pe_lst pa_nil) (pa_cons pe_non pa_nil)))) (pe_call G2 hr (by rfl) g2 F2.kp b2 .nil pass0 (pa_cons (pv 1) (pa_cons pe_int pa_nil))) (fun _ _ => rfl)))
      (pss_cons (ps_setLc (i := 12) (own := [("_law_whole", 14)]) (g := gName 14) (tt := tYes) (by rfl) scLaw.nd rfl rfl (sw_true rfl rfl rfl (by decide +kernel)) (pi_list (pe_lst (pa_cons pe_bl (pa_cons pe_bl pa_nil)))) (blkOk_by (N := nLaw) (sc := defScope sLaw) (by decide +kernel))
          (fun _ _ _ _ _ => pg_name (i := 14) scLaw.nd rfl (Or.inl rfl)) (fun _ _ _ _ _ => pts_nil) (fun _ _ _ _ _ => pe_call G11 hr (by rfl) g11 F11.kp b11 .nil pass0 (pa_cons (pv 4) (pa_cons (pe_op (show OpR _ (binaryOp .Add) rCat from op_cat) (pv 3) (pv 11)) (pa_cons (pv 10) (pa_cons (pv 14) pa_nil))))))
      (pss_one (ps_ret (pe_cmpR (op_eqD hr.units) (pv 12) (pe_op op_rep (pe_slice sl_list (pv 11) po_none (po_some pe_int)) pe_int) (by rfl))))))))))), ?_⟩
    refine ⟨.ref a, rfl, a, ns, rfl, hS, len, fun H1 b g m s1 B1 => ?_⟩
    refine ⟨.ref b, rfl, b, g, m, 0, 3, rfl, B1, by decide, by decide, by decide, fun l ts rs c xs H2 nl hl ra fit x1 x3 B2 K2 => ?_⟩
    have few := fit.few
    have flen := fit.len
    have knd : (rs.map (·.1)).Nodup := fit.keys.nodup_iff.mpr fit.nd
    have em : mergeK [] (kvs rs) = kvs rs := merge_kvs rs [] (by rw [List.nil_append]; exact knd)
    have kl : (kvs rs).length = rs.length := by unfold kvs; rw [List.length_map]
    refine ⟨l, ts, kvs rs, rfl, SqL.of hl, rows_pairedG ts rs ra, fun W oW nW gW => ?_⟩
    rw [em]
    have s3 := same_new (o := .frz oW (.dK (kvs rs))) nW
    have hW : upd H2 W (.frz oW (.dK (kvs rs))) W = some (.frz oW (.dK (kvs rs))) := upd_same
    have B3 := B2.same s3
    have fit3 := fit.same s3
    generalize upd H2 W (.frz oW (.dK (kvs rs))) = H3 at s3 hW B3 fit3 ⊢
    -- the faulty
    refine ⟨.ref b, rfl, .ref W, rfl, b, g, m, W, _, c, xs, rs, rfl, B3, by omega, ⟨.inr ⟨oW, hW⟩, fit3⟩, x1, fun e Fs H4 ne he fnd fin fsr B4 K4 => ?_⟩
    obtain ⟨eb, eg, _⟩ := B3.ne ne
    have hW4 := K4.nl B3 hW fun _ z => by cases z
    have fit4 := fit3.tups (K4.tups B3)
    have Fl : Fs.length ≤ 8 := Nat.le_trans (nd_len Fs xs fnd fin) few
    -- the network
    refine ⟨.ref W, rfl, W, kvs rs, rfl, .inr ⟨oW, hW4⟩, fun H6 l6 ts6 s6 nl6 hl6 pr6 => ?_⟩
    have ra6 : RowsAt H6 ts6 rs := paired_rows pr6
    intro net dx nnet ndx nx
    have s7 : Same H6 (upd (upd H6 dx (.own net)) net (.ins C dx [])) := (same_new ndx).trans (same_new (by rw [upd_ne nx.symm]; exact nnet))
    have hnet : (upd (upd H6 dx (.own net)) net (.ins C dx [])) net = some (.ins C dx []) := upd_same
    generalize upd (upd H6 dx (.own net)) net (.ins C dx []) = H7 at s7 hnet ⊢
    refine ⟨net, dx, l6, ts6, rs, c, xs, rfl, hnet, SqL.of (s7 _ _ hl6), ra6.same s7, (fit4.same s6).same s7, fun Dn rsN H8 N8 sub8 bt8 => ⟨rfl, ?_⟩⟩
    have s48 : Same H4 H8 := fun d o e => bt8 d o (s7 _ _ (s6 _ _ e)) (ne_of_none (s6 _ _ e) nnet)
    have B8 := B4.same s48
    have Ho8 : Hold C W net Dn e oW c xs rs rsN Fs H8 := ⟨s48 _ _ hW4, fit4.same s48, N8, s48 _ _ he⟩
    clear bt8 s7 hnet ra6 pr6 hl6 nl6 s6 hW4 fit4 he N8 s48 sub8 hW fit3 B3 hl ra B4 s3 K4 fsr ne
    have subN : ∀ x ∈ xs, x ∈ rsN.map (·.1) := fun x mx => Ho8.net.fit.keys.mem_iff.mpr mx
    -- the turns
    refine ⟨.ref b, rfl, b, g, m, _, 11, rfl, B8, by omega, by decide, by decide, fun v H9 v0 v1 B9 K9 => ⟨_, _, rfl, rfl, ?_⟩⟩
    have Ho9 := Ho8.keep K9 B8 eb eg
    refine ⟨10 + v, rfl, by omega, by omega, for_range (lo := 0) (n := (10 + v).toNat) (fun i σ H10 => ∃ y5 y6 y7 y8 y9 y10 y11 y12 y13 y14 : Option V, σ = [some (.ref a), some (.ref b), some (.ref W), some (.ref e), some (.ref net), y5, y6, y7, y8, y9, y10, y11, y12, y13, y14] ∧ Box H10 b g m (3100 + 400 * i) ∧ Hold C W net Dn e oW c xs rs rsN Fs H10)
      ⟨none, none, none, none, none, none, none, none, none, none, rfl, B9.more (by omega), Ho9⟩ ?_ ?_⟩
    · rintro i σ H10 hi ⟨y5, y6, y7, y8, y9, y10, y11, y12, y13, y14, rfl, B10, Ho10⟩
      have i20 : i ≤ 20 := by omega
      clear Ho9 B9 K9 Ho8 B8
      refine ⟨.ref b, rfl, .ref W, rfl, b, g, m, W, _, c, xs, rsN.map (·.1), rs, rfl, B10, by omega, ⟨oW, gW, Ho10.w⟩, Ho10.fit, x1, subN, fun pg d0 H11 dv0 ld0 bd0 hd0 B11 K11 => ?_⟩
      have Ho11 := Ho10.keep K11 B10 eb eg
      refine ⟨.ref b, rfl, b, g, m, _, rfl, B11, by omega, fun va H12 ⟨d1, dv1, an1⟩ B12 K12 => ?_⟩
      have Ho12 := Ho11.keep K12 B11 eb eg
      have dv02 := Dv.keep K12 d0 _ dv0
      refine ⟨by show 2 ≤ sizeLine; decide, fun l2 nl2 => ?_⟩
      obtain ⟨H13, e13, s13, h13, l2b, l2g, B13⟩ := new_ho B12 nl2 (.lst [.ref pg, va])
      rw [← e13]
      refine ⟨.ref b, rfl, b, g, m, _, 4, rfl, B13, by omega, by decide, by decide, fun u H14 u0 u1 B14 K14 => ⟨rfl, .inr ⟨_, rfl, ?_⟩⟩⟩
      have K1214 : Keep b g H12 H14 := (Same.keep s13).trans K14
      have Ho14 := Ho12.keep K1214 B12 eb eg
      obtain ⟨ve, de, ate, dve, lde, bde, hde⟩ : ∃ (ve : V) (de : PyData), atI [V.ref pg, va] (if decide (V.int u = V.int 0) = true then 1 else 0) = some ve ∧ Dv b g H14 de ve ∧ Lay 6 de ∧ Bad (rsN.map (·.1)) de ∧ headB de = true := by
        obtain ⟨la, sa, ha⟩ := anyB.lay an1
        by_cases z : V.int u = V.int 0
        · rw [decide_eq_true z]
          exact ⟨va, d1, rfl, Dv.keep K1214 d1 _ dv1, la.more (by decide), .inl (smallB.ev sa), ha⟩
        · rw [decide_eq_false z]
          exact ⟨_, d0, rfl, Dv.keep K1214 d0 _ dv02, ld0, bd0, hd0⟩
      refine ⟨l2, _, _, ve, rfl, rfl, SqL.of (K14 _ _ h13 l2b l2g), ate, ?_⟩
      refine ⟨ve, rfl, by show 1 ≤ sizeLine; decide, fun le nle => ?_⟩
      obtain ⟨H15, e15, s15, h15, leb, leg, B15⟩ := new_ho B14 nle (.lst [ve])
      rw [← e15]
      have Ho15 := Ho14.same s15
      have dv15 := dve.same s15
      clear e13 e15 Ho14 Ho12 Ho11 Ho10 B10 B11 B12 B13 K11 K12 dv0 dv02 dv1 s13 h13 K14 K1214 ate dve
      refine ⟨fun σ H => ∃ (le : Addr) (us : List V) (ds : List PyData) (y5 y8 y9 y10 y11 y12 y13 y14 : Option V), σ = [some (.ref a), some (.ref b), some (.ref W), some (.ref e), some (.ref net), y5, some ve, some (.ref le), y8, y9, y10, y11, y12, y13, y14] ∧ Box H b g m (3100 + 400 * i + 350) ∧ Hold C W net Dn e oW c xs rs rsN Fs H ∧ H le = some (.lst us) ∧ le ≠ b ∧ le ≠ g ∧ DvAll b g H ds us ∧ EvsL (rsN.map (·.1)) Fs ds ∧ (∀ d ∈ ds, Lay 6 d) ∧ ds.length ≤ 2 ∧ Dv b g H de ve, ?_, ?_⟩
      · have stay : ∀ {H' : Hp} {y5 y8 y9 y10 y11 y12 y13 y14 : Option V}, Box H' b g m (3100 + 400 * i + 350) → Hold C W net Dn e oW c xs rs rsN Fs H' → Keep b g H15 H' → ∃ (le' : Addr) (us : List V) (ds : List PyData) (z5 z8 z9 z10 z11 z12 z13 z14 : Option V), [some (V.ref a), some (.ref b), some (.ref W), some (.ref e), some (.ref net), y5, some ve, some (.ref le), y8, y9, y10, y11, y12, y13, y14] = [some (.ref a), some (.ref b), some (.ref W), some (.ref e), some (.ref net), z5, some ve, some (.ref le'), z8, z9, z10, z11, z12, z13, z14] ∧ Box H' b g m (3100 + 400 * i + 350) ∧ Hold C W net Dn e oW c xs rs rsN Fs H' ∧ H' le' = some (.lst us) ∧ le' ≠ b ∧ le' ≠ g ∧ DvAll b g H' ds us ∧ EvsL (rsN.map (·.1)) Fs ds ∧ (∀ d ∈ ds, Lay 6 d) ∧ ds.length ≤ 2 ∧ Dv b g H' de ve := fun {H'} {_ _ _ _ _ _ _ _} B' Ho' K' =>
          ⟨le, [ve], [de], _, _, _, _, _, _, _, _, rfl, B', Ho', K' _ _ h15 leb leg, leb, leg, .cons (Dv.keep K' de _ dv15) .nil, .inl ⟨de, [], rfl, bde⟩, fun d md => by rw [List.mem_singleton.mp md]; exact lde, by show 1 ≤ 2; decide, Dv.keep K' de _ dv15⟩
        refine ⟨.ref b, rfl, b, g, m, _, 3, rfl, B15, by omega, by decide, by decide, fun u' H16 _ _ B16 K16 => ⟨rfl, _, rfl, ?_⟩⟩
        have Ho16 := Ho15.keep K16 B15 eb eg
        by_cases z : V.int u' = V.int 0
        · rw [decide_eq_true z]
          refine iteT ⟨.ref W, rfl, W, _, rfl, .inr ⟨oW, Ho16.w⟩, .ref e, rfl, e, _, rfl, .inl (SqL.of Ho16.fa), _, _, rfl, rfl, _, rfl, ?_⟩
          by_cases gt : ((Fs.map V.str).length : Int) < ((kvs rs).length : Int)
          · rw [decide_eq_true (show ((kvs rs).length : Int) > ((Fs.map V.str).length : Int) from gt)]
            refine iteT ?_
            rw [kl, List.length_map] at gt
            -- those that are not faulty
            refine ⟨.ref W, rfl, W, _, rfl, .inr ⟨oW, Ho16.w⟩, fun l1 nl1 => ?_⟩
            rw [keys_strs]
            refine ⟨l1, rs.map (·.1), rfl, SqL.of upd_same, by rw [List.length_map]; omega, fun ys p1 pm srt np1 => ?_⟩
            have s17 := (same_new (o := .lst ((rs.map (·.1)).map V.str)) nl1).trans (same_new (o := .lst (ys.map V.str)) np1)
            have hp1 : upd (upd H16 l1 (.lst ((rs.map (·.1)).map V.str))) p1 (.lst (ys.map V.str)) p1 = some (.lst (ys.map V.str)) := upd_same
            generalize upd (upd H16 l1 (.lst ((rs.map (·.1)).map V.str))) p1 (.lst (ys.map V.str)) = H17 at s17 hp1 ⊢
            have yp : ys.Perm xs := pm.trans fit.keys
            have yl := yp.length_eq
            have Ho17 := Ho16.same s17
            refine ⟨p1, rfl, ⟨_, SqL.of hp1⟩, fun D nD => lc_list (K := K) (a := p1) (xs := ys.map V.str) (fun j H8 => Same H17 H8 ∧ H8 D = some (.lst (((ys.take j).filter fun x => decide (x ∉ Fs)).map V.str))) ⟨same_new nD, upd_same⟩ (fun j H8 _ h => SqL.of (h.1 _ _ hp1)) ?_ ?_⟩
            · rintro j x H8 hx ⟨s8, hD⟩
              rw [List.getElem?_map] at hx
              obtain ⟨z, hz, rfl⟩ := Option.map_eq_some_iff.mp hx
              have lt := (List.getElem?_eq_some_iff.mp hz).1
              have tk : ys.take (j + 1) = ys.take j ++ [z] := by
                rw [List.take_add_one, hz]
                rfl
              refine ⟨rfl, .str z, rfl, .ref e, rfl, e, _, rfl, .inl (SqL.of (s8 _ _ Ho17.fa)), rfl, flats Fs, _, rfl, ?_⟩
              rw [inV_str]
              by_cases mm : z ∈ Fs
              · rw [decide_eq_true mm]
                refine iteF ⟨s8, ?_⟩
                rw [hD, tk, List.filter_append]
                simp [mm]
              · rw [decide_eq_false mm]
                refine iteT ⟨.str z, rfl, _, hD, ?_, fun d o c => ?_, ?_⟩
                · rw [List.length_map]
                  refine small1000 (Nat.le_trans (List.length_filter_le _ _) ?_)
                  rw [List.length_take]
                  omega
                · rw [upd_ne (ne_of_none c nD)]
                  exact s8 d o c
                · rw [upd_same, tk, List.filter_append]
                  simp [mm]
            · rintro H18 ⟨s18, hD⟩
              rw [List.length_map, List.take_length] at hD
              obtain ⟨h0, hr0, eh⟩ : ∃ h0 hr0, (ys.filter fun x => decide (x ∉ Fs)) = h0 :: hr0 := by
                cases ef : ys.filter fun x => decide (x ∉ Fs) with
                | cons h0 hr0 => exact ⟨h0, hr0, rfl⟩
                | nil =>
                  have all : ∀ y ∈ ys, y ∈ Fs := fun y my => by
                    by_cases mf : y ∈ Fs
                    · exact mf
                    · have : y ∈ ys.filter fun x => decide (x ∉ Fs) := List.mem_filter.mpr ⟨my, decide_eq_true mf⟩
                      rw [ef] at this
                      cases this
                  have := nd_len ys Fs (yp.nodup_iff.mpr fit.nd) all
                  omega
              have mh : h0 ∈ ys.filter fun x => decide (x ∉ Fs) := by rw [eh]; exact List.mem_cons_self
              obtain ⟨mh1, mh2⟩ := List.mem_filter.mp mh
              have mhx := yp.mem_iff.mp mh1
              rw [eh] at hD
              have s1618 := s17.trans s18
              have B18 := B16.same s1618
              refine ⟨.ref D, rfl, D, _, 0, .str h0, rfl, rfl, SqL.of hD, atI_nat (j := 0) rfl, by show 2 ≤ sizeLine; decide, fun q1 nq1 => ?_⟩
              obtain ⟨H19, e19, s19, h19, _, _, B19⟩ := new_ho B18 nq1 (.tup [.int 0, .str "z"])
              rw [← e19]
              refine ⟨by show 4 ≤ sizeLine; decide, fun q2 nq2 => ?_⟩
              obtain ⟨H20, e20, s20, h20, _, _, B20⟩ := new_ho B19 nq2 (.tup [.str "voted", .str h0, .ref q1, .str "commit"])
              rw [← e20]
              refine ⟨ve, rfl, by show 2 ≤ sizeLine; decide, fun l3 nl3 => ?_⟩
              obtain ⟨H21, e21, s21, h21, l3b, l3g, B21⟩ := new_ho B20 nl3 (.lst [.ref q2, ve])
              rw [← e21]
              have sA := ((s1618.trans s19).trans s20).trans s21
              have dvV : Dv b g H21 (.tuple [.str "voted", .str h0, .tuple [.int 0, .str "z"], .str "commit"]) (.ref q2) := mkT2 B21 (s21 _ _ h20) (.cons rfl (.cons rfl (.two (mkT2 B21 (s21 _ _ (s20 _ _ h19)) (.two rfl rfl)) rfl)))
              have dvE : Dv b g H21 de ve := (Dv.keep K16 de _ dv15).same sA
              have lV : Lay 6 (.tuple [.str "voted", .str h0, .tuple [.int 0, .str "z"], .str "commit"]) := (Lay.tup fun d md => by
                rcases List.mem_cons.mp md with rfl | md
                · exact Lay.of (by decide +kernel)
                rcases List.mem_cons.mp md with rfl | md
                · exact (Lay.str (fit.nm h0 mhx).ok).more (by decide)
                rcases List.mem_cons.mp md with rfl | md
                · exact Lay.of (by decide +kernel)
                · rw [List.mem_singleton.mp md]; exact Lay.of (by decide +kernel) : Lay 2 _).more (by decide)
              exact ⟨l3, [.ref q2, ve], [_, de], _, _, _, _, _, _, _, _, rfl, B21.more (by omega), Ho16.same sA, h21, l3b, l3g, .two dvV dvE, .inr ⟨_, de, rfl, ⟨h0, "commit", _, rfl, subN h0 mhx, of_decide_eq_true mh2, good_z, an_c⟩, bde⟩, fun d md => by
                rcases List.mem_cons.mp md with rfl | md
                · exact lV
                · rw [List.mem_singleton.mp md]; exact lde, by show 2 ≤ 2; decide, dvE⟩
          · rw [decide_eq_false (show ¬ ((kvs rs).length : Int) > ((Fs.map V.str).length : Int) from gt)]
            exact iteF (stay (B16.more (by omega)) Ho16 K16)
        · rw [decide_eq_false z]
          exact iteF (stay (B16.more (by omega)) Ho16 K16)
      rintro σ H16 ⟨le, us, ds, y5, y8, y9, y10, y11, y12, y13, y14, rfl, B16, Ho16, hle, leb, leg, dvs, evl, lds, d2, dve⟩
      -- the values
      have ul := dvs.len
      refine ⟨.ref le, rfl, .ref le, rfl, le, _, rfl, .inl ⟨SqL.of hle, fun tp ntp => ?_⟩⟩
      obtain ⟨H17, e17, s17, h17, tpb, tpg, B17⟩ := new_ho B16 ntp (.tup us)
      rw [← e17]
      refine ⟨ve, rfl, .ref le, rfl, by show 1 ≤ sizeLine; decide, fun ll nll => ?_⟩
      obtain ⟨H18, e18, s18, h18, llb, llg, B18⟩ := new_ho B17 nll (.lst [.ref le])
      rw [← e18]
      refine ⟨by show 5 ≤ sizeLine; decide, fun lv nlv => ?_⟩
      obtain ⟨H19, e19, s19, h19, lvb, lvg, B19⟩ := new_ho B18 nlv (.lst [.ref le, .ref tp, ve, .ref ll, .int 1])
      rw [← e19]
      refine ⟨.ref lv, rfl, by show 6 ≤ sizeLine; decide, fun l6 nl6 => ?_⟩
      obtain ⟨H20, e20, s20, h20, l6b, l6g, B20⟩ := new_ho B19 nl6 (.lst [.int 0, .int 0, .int 1, .int 2, .int 3, .int 4])
      rw [← e20]
      refine ⟨.ref b, rfl, b, g, m, _, 6, rfl, B20, by omega, by decide, by decide, fun u H21 u0 u1 B21 K21 => ?_⟩
      have s1620 := ((s17.trans s18).trans s19).trans s20
      have Ho21 := (Ho16.same s1620).keep K21 B20 eb eg
      have dvs21 := DvAll.keep K21 _ _ (dvs.same s1620)
      have dve21 := Dv.keep K21 _ _ (dve.same s1620)
      have hle21 := K21 _ _ (s1620 _ _ hle) leb leg
      have h17' := K21 _ _ (((s18.trans s19).trans s20) _ _ h17) tpb tpg
      have h18' := K21 _ _ ((s19.trans s20) _ _ h18) llb llg
      obtain ⟨j, atj, j0, j4⟩ : ∃ j : Int, atI [V.int 0, .int 0, .int 1, .int 2, .int 3, .int 4] u = some (.int j) ∧ 0 ≤ j ∧ j < 5 := by
        have cw : u = 0 ∨ u = 1 ∨ u = 2 ∨ u = 3 ∨ u = 4 ∨ u = 5 := by omega
        rcases cw with rfl | rfl | rfl | rfl | rfl | rfl
        · exact ⟨0, rfl, by decide, by decide⟩
        · exact ⟨0, rfl, by decide, by decide⟩
        · exact ⟨1, rfl, by decide, by decide⟩
        · exact ⟨2, rfl, by decide, by decide⟩
        · exact ⟨3, rfl, by decide, by decide⟩
        · exact ⟨4, rfl, by decide, by decide⟩
      refine ⟨l6, _, u, .int j, rfl, rfl, SqL.of (K21 _ _ h20 l6b l6g), atj, ?_⟩
      have dL : Dv b g H21 (.list ds) (.ref le) := Dv.mkL hle21 leb leg dvs21
      have lL : Lay 7 (.list ds) := Lay.lst lds
      obtain ⟨v, o, atv, dvo, lo, no⟩ : ∃ (v : V) (o : PyData), atI [V.ref le, .ref tp, ve, .ref ll, .int 1] j = some v ∧ Dv b g H21 o v ∧ Lay 8 o ∧ (o = .tuple [] ∨ o = .list [] ∨ EvsNo (rsN.map (·.1)) Fs o) := by
        have cw : j = 0 ∨ j = 1 ∨ j = 2 ∨ j = 3 ∨ j = 4 := by omega
        rcases cw with rfl | rfl | rfl | rfl | rfl
        · exact ⟨_, .list ds, rfl, dL, lL.more (by decide), .inr (.inr (evl.no rfl))⟩
        · exact ⟨_, .tuple ds, rfl, Dv.mkT (.inl h17') tpb tpg dvs21, (Lay.tup lds).more (by decide), .inr (.inr (evl.no rfl))⟩
        · refine ⟨_, de, rfl, dve21, lde.more (by decide), ?_⟩
          cases es : seqD de with
          | none => exact .inr (.inr (.inl es))
          | some l =>
            cases l with
            | nil =>
              cases de with
              | list l => exact .inr (.inl (by cases es; rfl))
              | tuple l => exact .inl (by cases es; rfl)
              | _ => cases es
            | cons e0 rest => exact .inr (.inr (.inr (.inl ⟨e0, rest, es, headB.ev hde es⟩)))
        · exact ⟨_, .list [.list ds], rfl, Dv.mkL h18' llb llg (.cons dL .nil), Lay.lst fun d md => by rw [List.mem_singleton.mp md]; exact lL, .inr (.inr lst_in)⟩
        · exact ⟨_, .int 1, rfl, rfl, (Lay.int 1).more (by decide), .inr (.inr (.inl rfl))⟩
      refine ⟨lv, _, j, v, rfl, rfl, SqL.of (K21 _ _ (s20 _ _ h19) lvb lvg), atv, ?_⟩
      clear e17 e18 e19 e20 B16 B17 B18 B19 s17 s18 s19 s20 h17 h18 h19 h20 h17' h18' dL lL dvs dvs21 dve dve21 hle hle21 Ho16 s1620 atv atj
      refine ⟨fun σ H => ∃ (v : V) (o : PyData) (y5 y6 y7 y8 y9 y11 y12 y13 y14 : Option V), σ = [some (.ref a), some (.ref b), some (.ref W), some (.ref e), some (.ref net), y5, y6, y7, y8, y9, some v, y11, y12, y13, y14] ∧ Box H b g m (3100 + 400 * i + 360) ∧ Hold C W net Dn e oW c xs rs rsN Fs H ∧ Dv b g H o v ∧ Lay 8 o ∧ EvsNo (rsN.map (·.1)) Fs o, ?_, ?_⟩
      · refine ⟨v, rfl, Nat.zero_le _, fun q0 nq0 => ?_⟩
        obtain ⟨H22, e22, s22, h22, _, _, B22⟩ := new_ho B21 nq0 (.tup [])
        rw [← e22]
        refine ⟨Nat.zero_le _, fun q1 nq1 => ?_⟩
        obtain ⟨H23, e23, s23, h23, _, _, B23⟩ := new_ho B22 nq1 (.lst [])
        rw [← e23]
        refine ⟨by show 2 ≤ sizeLine; decide, fun q2 nq2 => ?_⟩
        obtain ⟨H24, e24, s24, h24, _, _, B24⟩ := new_ho B23 nq2 (.lst [.ref q0, .ref q1])
        rw [← e24]
        have s2124 := (s22.trans s23).trans s24
        have dvo24 := dvo.same s2124
        refine ⟨o, [.tuple [], .list []], Dv.dp _ _ dvo24, .lst (SqL.of h24) (.cons (.tup (SqT.of (s24 _ _ (s23 _ _ h22))) .nil) (.cons (.lst (SqL.of (s24 _ _ h23)) .nil) .nil)), lo.shaped (by decide), by decide +kernel, _, rfl, ?_⟩
        cases hb : ([PyData.tuple [], .list []].any fun z => PyData.eqv z o) with
        | true => exact iteT ⟨_, .none, _, _, _, _, _, _, _, _, _, rfl, B24.more (by omega), Ho21.same s2124, rfl, Lay.of (by decide +kernel), .inl rfl⟩
        | false =>
          refine iteF ⟨v, o, _, _, _, _, _, _, _, _, _, rfl, B24.more (by omega), Ho21.same s2124, dvo24, lo, ?_⟩
          rcases no with rfl | rfl | no
          · exact absurd hb (by decide +kernel)
          · exact absurd hb (by decide +kernel)
          · exact no
      clear no lo dvo Ho21 B21
      rintro σ H22 ⟨v, o, y5, y6, y7, y8, y9, y11, y12, y13, y14, rfl, B22, Ho22, dvo, lo, no⟩
      refine ⟨.ref net, rfl, .ref e, rfl, v, rfl, net, Dn, e, b, g, c, xs, rsN, Fs, o, v, rfl, Ho22.net, .inl (SqL.of Ho22.fa), fin, dvo, lo.shaped (by decide), no, fun H23 s23 => ⟨false, false, rfl, rfl, _, rfl, iteF ?_⟩⟩
      have Ho23 := Ho22.same s23
      refine ⟨.ref net, rfl, .ref e, rfl, .ref e, rfl, 1, rfl, e, _, rfl, SqL.of Ho23.fa, fun p np => ?_⟩
      rw [cut_to Fs (j := 1) (by decide)]
      obtain ⟨H24, e24, s24, h24, pb, pg', B24⟩ := new_ho (B22.same s23) np (.lst ((Fs.take (1 : Int).toNat).map V.str))
      rw [← e24]
      have Ho24 := Ho23.same s24
      refine ⟨e, p, _, _, rfl, rfl, Ho24.fa, h24, ?_, fun p2 np2 => ?_⟩
      · rw [List.length_map, List.length_map, List.length_take]
        exact Nat.le_of_lt (small1000 (by omega))
      obtain ⟨H25, e25, s25, h25, p2b, p2g, B25⟩ := new_ho B24 np2 (.lst (Fs.map V.str ++ (Fs.take (1 : Int).toNat).map V.str))
      rw [← e25]
      rw [← List.map_append] at h25
      have Ho25 := Ho24.same s25
      have sb : ∀ x ∈ Fs ++ Fs.take (1 : Int).toNat, x ∈ Fs := fun x mx => (List.mem_append.mp mx).elim id fun h => List.mem_of_mem_take h
      have s2225 := (s23.trans s24).trans s25
      refine ⟨v, rfl, net, Dn, p2, b, g, c, xs, rsN, Fs ++ Fs.take (1 : Int).toNat, o, v, rfl, Ho25.net, .inl (SqL.of h25), fun x mx => fin x (sb x mx), dvo.same s2225, lo.shaped (by decide), no.more sb, fun H26 s26 => ⟨false, false, rfl, rfl, _, rfl, iteF ?_⟩⟩
      exact ⟨_, _, _, _, _, _, _, _, _, _, rfl, (B25.same s26).more (by omega), Ho25.same s26⟩
    · rintro σ H10 ⟨y5, y6, y7, y8, y9, y10, y11, y12, y13, y14, rfl, B10, Ho10⟩
      have hi : (10 + v).toNat ≤ 20 := by omega
      -- names that are none of these
      refine ⟨by show 4 ≤ sizeLine; decide, fun l4 nl4 => ?_⟩
      obtain ⟨H11, e11, s11, h11, l4b, l4g, B11⟩ := new_ho B10 nl4 (.lst [.str "qa", .str "qb", .str "qc", .str "qd"])
      rw [← e11]
      have Ho11 := Ho10.same s11
      let four : List Str := ["qa", "qb", "qc", "qd"]
      refine ⟨l4, rfl, ⟨_, SqL.of h11⟩, fun D nD => lc_list (K := K) (a := l4) (xs := four.map V.str) (fun j H8 => Same H11 H8 ∧ H8 D = some (.lst (((four.take j).filter fun x => decide (x ∉ rs.map (·.1))).map V.str))) ⟨same_new nD, upd_same⟩ (fun j H8 _ h => SqL.of (h.1 _ _ h11)) ?_ ?_⟩
      · rintro j x H8 hx ⟨s8, hD⟩
        rw [List.getElem?_map] at hx
        obtain ⟨z, hz, rfl⟩ := Option.map_eq_some_iff.mp hx
        have lt : j < 4 := (List.getElem?_eq_some_iff.mp hz).1
        have tk : four.take (j + 1) = four.take j ++ [z] := by
          rw [List.take_add_one, hz]
          rfl
        have hW8 := s8 _ _ Ho11.w
        by_cases mm : z ∈ rs.map (·.1)
        · obtain ⟨r, _, hv⟩ := val_in mm
          refine ⟨rfl, .str z, rfl, .ref W, rfl, W, _, rfl, .inl ⟨_, Sum.inr z, .inr ⟨oW, hW8⟩, rfl, hv.symm⟩, _, rfl, iteF ⟨s8, ?_⟩⟩
          rw [hD, tk, List.filter_append, List.filter_cons_of_neg (by rw [decide_eq_true_eq]; exact fun n => n mm), List.filter_nil, List.append_nil]
        · have hv := val_out (rs := rs) (y := z) mm
          refine ⟨rfl, .str z, rfl, .ref W, rfl, W, _, rfl, .inl ⟨_, Sum.inr z, .inr ⟨oW, hW8⟩, rfl, hv.symm⟩, _, rfl, iteT ⟨.str z, rfl, _, hD, ?_, fun d o c => ?_, ?_⟩⟩
          · rw [List.length_map]
            refine small1000 (Nat.le_trans (List.length_filter_le _ _) ?_)
            rw [List.length_take]
            omega
          · rw [upd_ne (ne_of_none c nD)]
            exact s8 d o c
          · rw [upd_same, tk, List.filter_append, List.filter_cons_of_pos (by rw [decide_eq_true_eq]; exact mm), List.filter_nil, List.map_append]
            rfl
      rintro H12 ⟨s12, hD⟩
      rw [List.length_map, List.take_length] at hD
      have B12 := B11.same s12
      have Ho12 := Ho11.same s12
      obtain ⟨u, R, eu⟩ : ∃ u R, (four.filter fun x => decide (x ∉ rs.map (·.1))) = u :: R := by
        cases ef : four.filter fun x => decide (x ∉ rs.map (·.1)) with
        | cons u R => exact ⟨u, R, rfl⟩
        | nil =>
          have all : ∀ y ∈ four, y ∈ rs.map (·.1) := fun y my => by
            by_cases mf : y ∈ rs.map (·.1)
            · exact mf
            · have : y ∈ four.filter fun x => decide (x ∉ rs.map (·.1)) := List.mem_filter.mpr ⟨my, decide_eq_true mf⟩
              rw [ef] at this
              cases this
          have := nd_len four (rs.map (·.1)) (by decide +kernel) all
          rw [List.length_map] at this
          have f4 : four.length = 4 := rfl
          omega
      have mu : u ∈ four.filter fun x => decide (x ∉ rs.map (·.1)) := by rw [eu]; exact List.mem_cons_self
      have nu : u ∉ xs := fun m => (of_decide_eq_true (List.mem_filter.mp mu).2) (fit.keys.mem_iff.mpr m)
      have Rl : (u :: R).length ≤ 4 := by rw [← eu]; exact List.length_filter_le _ _
      rw [eu] at hD
      obtain ⟨Db, Dg, _⟩ := B11.ne nD
      -- some value
      refine ⟨.ref b, rfl, b, g, m, _, rfl, B12, by omega, fun va H13 _ B13 K13 => ?_⟩
      have Ho13 := Ho12.keep K13 B12 eb eg
      have hD13 := K13 _ _ hD Db Dg
      refine ⟨Nat.zero_le _, fun l0 nl0 => ?_⟩
      obtain ⟨H14, e14, s14, h14, l0b, l0g, B14⟩ := new_ho B13 nl0 (.lst [])
      rw [← e14]
      refine ⟨by show 3 ≤ sizeLine; decide, fun l3 nl3 => ?_⟩
      obtain ⟨H15, e15, s15, h15, l3b, l3g, B15⟩ := new_ho B14 nl3 (.lst [va, .ref l0, .non])
      rw [← e15]
      refine ⟨.ref b, rfl, b, g, m, _, 3, rfl, B15, by omega, by decide, by decide, fun k H16 k0 k1 B16 K16 => ?_⟩
      obtain ⟨v', atv⟩ : ∃ v', atI [va, .ref l0, .non] k = some v' := by
        have cw : k = 0 ∨ k = 1 ∨ k = 2 := by omega
        rcases cw with rfl | rfl | rfl
        · exact ⟨_, rfl⟩
        · exact ⟨_, rfl⟩
        · exact ⟨_, rfl⟩
      refine ⟨l3, _, k, v', rfl, rfl, SqL.of (K16 _ _ h15 l3b l3g), atv, ?_⟩
      have Ho16 := (Ho13.same (s14.trans s15)).keep K16 B15 eb eg
      have hD16 := K16 _ _ (s15 _ _ (s14 _ _ hD13)) Db Dg
      -- what is told of both
      refine ⟨by show 2 ≤ sizeLine; decide, fun lw nlw => ?_⟩
      obtain ⟨H17, e17, s17, h17, _, _, B17⟩ := new_ho B16 nlw (.lst [.bl false, .bl true])
      rw [← e17]
      refine ⟨lw, rfl, ⟨_, SqL.of h17⟩, fun D2 nD2 => lc_list (K := K) (a := lw) (xs := [.bl false, .bl true]) (fun j H8 => Same H17 H8 ∧ H8 D2 = some (.lst (List.replicate j (V.str u)))) ⟨same_new nD2, upd_same⟩ (fun j H8 _ h => SqL.of (h.1 _ _ h17)) ?_ ?_⟩
      · rintro j x H8 hx ⟨s8, hD2⟩
        have lt : j < 2 := (List.getElem?_eq_some_iff.mp hx).1
        obtain ⟨wb, rfl⟩ : ∃ wb, x = .bl wb := by
          match j, lt with
          | 0, _ => exact ⟨false, (Option.some.inj hx).symm⟩
          | 1, _ => exact ⟨true, (Option.some.inj hx).symm⟩
        have s178 := s17.trans s8
        have Ho8 := Ho16.same s178
        refine ⟨rfl, .ref net, rfl, .ref e, rfl, .ref D, rfl, e, D, _, _, rfl, rfl, Ho8.fa, s178 _ _ hD16, ?_, fun p np => ?_⟩
        · rw [List.length_map, List.length_map]
          exact Nat.le_of_lt (small1000 (by omega))
        rw [← List.map_append]
        have s9 := same_new (o := .lst ((Fs ++ u :: R).map V.str)) np
        have h9 : (upd H8 p (.lst ((Fs ++ u :: R).map V.str))) p = some (.lst ((Fs ++ u :: R).map V.str)) := upd_same
        generalize upd H8 p (.lst ((Fs ++ u :: R).map V.str)) = H9 at s9 h9 ⊢
        refine ⟨v', rfl, .bl wb, rfl, net, Dn, p, c, xs, rsN, Fs, R, u, v', wb, rfl, (Ho8.same s9).net, .inl (SqL.of h9), fin, nu, fun H10 s10 => ?_⟩
        refine ⟨_, s10 _ _ (s9 _ _ hD2), ?_, fun d o c => ?_, ?_⟩
        · rw [List.length_replicate]
          exact small1000 (by omega)
        · rw [upd_ne (ne_of_none c nD2)]
          exact s10 _ _ (s9 _ _ (s8 d o c))
        · rw [upd_same, List.replicate_succ']
      rintro H18 ⟨s18, hD2⟩
      have hD18 := s18 _ _ (s17 _ _ hD16)
      refine ⟨.ref D2, rfl, .ref D, rfl, 1, rfl, D, _, rfl, SqL.of hD18, fun p np => ?_⟩
      rw [cut_to (u :: R) (j := 1) (by decide)]
      have s19 := same_new (o := .lst (((u :: R).take (1 : Int).toNat).map V.str)) np
      have h19 : (upd H18 p (.lst (((u :: R).take (1 : Int).toNat).map V.str))) p = some (.lst [.str u]) := upd_same
      generalize upd H18 p (.lst (((u :: R).take (1 : Int).toNat).map V.str)) = H19 at s19 h19 ⊢
      refine ⟨p, 2, _, rfl, rfl, h19, by decide, by decide, by show 1 * 2 ≤ sizeLine; decide, fun p2 np2 => ?_⟩
      have s20 := same_new (o := .lst (List.replicate ((2 : Int)).toNat [V.str u]).flatten) np2
      have h20 : (upd H19 p2 (.lst (List.replicate ((2 : Int)).toNat [V.str u]).flatten)) p2 = some (.lst [.str u, .str u]) := upd_same
      generalize upd H19 p2 (.lst (List.replicate ((2 : Int)).toNat [V.str u]).flatten) = H20 at s20 h20 ⊢
      have hD20 : H20 D2 = some (.lst [.str u, .str u]) := s20 _ _ (s19 _ _ hD2)
      have two : ∀ {p : Addr}, H20 p = some (.lst [.str u, .str u]) → Dp K H20 (.ref p) (.list [.str u, .str u]) := fun h => .lst (SqL.of h) (.cons (.str u) (.cons (.str u) .nil))
      have us : PyData.strOk u = true := by
        have m4 := (List.mem_filter.mp mu).1
        have all : ∀ y ∈ four, PyData.strOk y = true := by decide +kernel
        exact all u m4
      have lay : SeqAt.shaped (.list [.str u, .str u]) = true := (Lay.lst fun d md => by
        rcases List.mem_cons.mp md with rfl | md
        · exact Lay.str us
        · rw [List.mem_singleton.mp md]; exact Lay.str us : Lay 1 _).shaped (by decide)
      have eqv : PyData.eqv (.list [.str u, .str u]) (.list [.str u, .str u]) = true := by
        have e1 : (u == u) = true := beq_self_eq_true u
        show ((u == u) && ((u == u) && true)) = true
        rw [e1]
        rfl
      refine ⟨_, _, two hD20, two h20, lay, lay, ?_⟩
      rw [eqv]
      exact q H20
end
end Moot
namespace Moot
open PySem PySem.Spec PyProof.Rows L2
theorem kit_self {K : PySem.W.Frag} (C : Addr) : PySem.W.kitOne K (.ref C) (.ref C) = some true := by
  unfold PySem.W.kitOne
  exact if_pos (beq_self_eq_true _)
/-- what an except clause of class c does with an error of class d -/
theorem exm_by {K : PySem.W.Frag} {d c : Addr} {b : Bool} (h1 : PySem.W.subIn K (.ref c) (.type "BaseException") = some true) (h2 : PySem.W.isClsIn K c = true) (h3 : PySem.W.typeIn K (.ref c) = some (.type "type")) (h4 : PySem.W.subIn K (.ref d) (.ref c) = some b) :
    PySem.W.exmOne K (.ref d) (.ref c) = some b := by
  have h2 : (PySem.W.clsIn K c).isSome = true := h2
  simp [PySem.W.exmOne, PySem.W.kitCls, h1, h2, h3, h4]
/-! what the top has written -/
theorem all_mk {l : PySem.W.OpenLaw} {w : World} {K : PySem.W.Frag} {h : Heap} {mg : Str → Option Value} {fa C dT eA CU CM CP CE aA aP f_ui f_pri f_mri f_hv f_ha f_cv  f_ns f_wit f_out f_isn f_who f_ct f_hd f_sr f_ir f_nwr f_nin f_rb f_cu f_nn f_cn f_ro f_asc f_ba f_ans f_msg f_hms f_wst f_wrs f_ise f_pvo f_pco f_mem f_vhi f_yhi f_box f_mix f_take f_nam f_som f_cnt f_lis f_req f_rows f_fau f_stm f_fms f_lan f_gar f_knw f_law f_ini : Addr} (X : K.In h) (G : h.Ns mainGlobals mg) (hfa : mg "law" = some (.ref fa))
    {od_ns an_ns od_wit an_wit od_out an_out od_isn an_isn od_who an_who od_ct an_ct od_hd an_hd od_sr an_sr od_ir an_ir od_nwr an_nwr od_nin an_nin od_rb an_rb od_cu an_cu od_nn an_nn od_cn an_cn od_ro an_ro od_asc an_asc od_ba an_ba od_ans an_ans od_msg an_msg od_hms an_hms od_wst an_wst od_wrs an_wrs od_ise an_ise od_pvo an_pvo od_pco an_pco od_mem an_mem od_vhi an_vhi od_yhi an_yhi od_box an_box od_mix an_mix od_take an_take od_nam an_nam od_som an_som od_cnt an_cnt od_lis an_lis od_req an_req od_rows an_rows od_fau an_fau od_stm an_stm od_fms an_fms od_lan an_lan od_gar an_gar od_knw an_knw od_law an_law od_ini an_ini : Option Addr} {sl_ns sl_wit sl_out sl_isn sl_who sl_ct sl_hd sl_sr sl_ir sl_nwr sl_nin sl_rb sl_cu sl_nn sl_cn sl_ro sl_asc sl_ba sl_ans sl_msg sl_hms sl_wst sl_wrs sl_ise sl_pvo sl_pco sl_mem sl_vhi sl_yhi sl_box sl_mix sl_take sl_nam sl_som sl_cnt sl_lis sl_req sl_rows sl_fau sl_stm sl_fms sl_lan sl_gar sl_knw sl_law sl_ini : Array (Option Value)} {oc_ns kV_ns dc_ns pm_ns cd_ns ct_ns oc_wit kV_wit dc_wit pm_wit cd_wit ct_wit oc_out kV_out dc_out pm_out cd_out ct_out oc_isn kV_isn dc_isn pm_isn cd_isn ct_isn oc_who kV_who dc_who pm_who cd_who ct_who oc_ct kV_ct dc_ct pm_ct cd_ct ct_ct oc_hd kV_hd dc_hd pm_hd cd_hd ct_hd oc_sr kV_sr dc_sr pm_sr cd_sr ct_sr oc_ir kV_ir dc_ir pm_ir cd_ir ct_ir oc_nwr kV_nwr dc_nwr pm_nwr cd_nwr ct_nwr oc_nin kV_nin dc_nin pm_nin cd_nin ct_nin oc_rb kV_rb dc_rb pm_rb cd_rb ct_rb oc_cu kV_cu dc_cu pm_cu cd_cu ct_cu oc_nn kV_nn dc_nn pm_nn cd_nn ct_nn oc_cn kV_cn dc_cn pm_cn cd_cn ct_cn oc_ro kV_ro dc_ro pm_ro cd_ro ct_ro oc_asc kV_asc dc_asc pm_asc cd_asc ct_asc oc_ba kV_ba dc_ba pm_ba cd_ba ct_ba oc_ans kV_ans dc_ans pm_ans cd_ans ct_ans oc_msg kV_msg dc_msg pm_msg cd_msg ct_msg oc_hms kV_hms dc_hms pm_hms cd_hms ct_hms oc_wst kV_wst dc_wst pm_wst cd_wst ct_wst oc_wrs kV_wrs dc_wrs pm_wrs cd_wrs ct_wrs oc_ise kV_ise dc_ise pm_ise cd_ise ct_ise oc_pvo kV_pvo dc_pvo pm_pvo cd_pvo ct_pvo oc_pco kV_pco dc_pco pm_pco cd_pco ct_pco oc_mem kV_mem dc_mem pm_mem cd_mem ct_mem oc_vhi kV_vhi dc_vhi pm_vhi cd_vhi ct_vhi oc_yhi kV_yhi dc_yhi pm_yhi cd_yhi ct_yhi oc_box kV_box dc_box pm_box cd_box ct_box oc_mix kV_mix dc_mix pm_mix cd_mix ct_mix oc_take kV_take dc_take pm_take cd_take ct_take oc_nam kV_nam dc_nam pm_nam cd_nam ct_nam oc_som kV_som dc_som pm_som cd_som ct_som oc_cnt kV_cnt dc_cnt pm_cnt cd_cnt ct_cnt oc_lis kV_lis dc_lis pm_lis cd_lis ct_lis oc_req kV_req dc_req pm_req cd_req ct_req oc_rows kV_rows dc_rows pm_rows cd_rows ct_rows oc_fau kV_fau dc_fau pm_fau cd_fau ct_fau oc_stm kV_stm dc_stm pm_stm cd_stm ct_stm oc_fms kV_fms dc_fms pm_fms cd_fms ct_fms oc_lan kV_lan dc_lan pm_lan cd_lan ct_lan oc_gar kV_gar dc_gar pm_gar cd_gar ct_gar oc_knw kV_knw dc_knw pm_knw cd_knw ct_knw oc_law kV_law dc_law pm_law cd_law ct_law oc_ini kV_ini dc_ini pm_ini cd_ini ct_ini : Value}
    {od_ui an_ui : Option Addr} {sl_ui : Array (Option Value)} {oc_ui kV_ui dc_ui pm_ui cd_ui ct_ui : Value}
    {od_pri an_pri : Option Addr} {sl_pri : Array (Option Value)} {oc_pri kV_pri dc_pri pm_pri cd_pri ct_pri : Value}
    {od_mri an_mri : Option Addr} {sl_mri : Array (Option Value)} {oc_mri kV_mri dc_mri pm_mri cd_mri ct_mri : Value}
    {od_hv an_hv : Option Addr} {sl_hv : Array (Option Value)} {oc_hv kV_hv dc_hv pm_hv cd_hv ct_hv : Value}
    {od_ha an_ha : Option Addr} {sl_ha : Array (Option Value)} {oc_ha kV_ha dc_ha pm_ha cd_ha ct_ha : Value}
    {od_cv an_cv : Option Addr} {sl_cv : Array (Option Value)} {oc_cv kV_cv dc_cv pm_cv cd_cv ct_cv : Value}
    {nm_u q_u : Str} {N_u : Addr} {bs_u bm_u : List Value} {sn_u : List Str} {sub_u : List Value} {ab_u : Bool} {col_u : Option Bool} {dd_u : Option Addr} {m0_u m1_u m2_u m3_u m5_u : Option Value}
    {tE tF tG : Tok} {odA : Option Addr} {nA nP : Nat} {slA : Array (Option Value)} {esP : Array DictEntry}
    {tA tB tC tD : Tok} {ocT : Value} {odT  : Option Addr} {nT  : Nat} {slT  : Array (Option Value)}
    (aC : PySem.W.nsIn K mainGlobals "Network" = some (some (.ref C)))
    (ag_u : PySem.W.nsIn K mainGlobals "UnknownNode" = some (some (.ref CU)))
    (x_u : K.lookup CU = some (excClassObj nm_u q_u CU N_u bs_u bm_u true sn_u sub_u ab_u col_u dd_u m0_u m1_u m2_u m3_u m5_u "ValueError.__new__"))
    (r_u : PySem.HandSPX.refsVE bm_u = true)
    (sa_u : PySem.W.findIn K (.ref CU) "__setattr__" = some (some (.builtin "object.__setattr__")))
    (ga_u : PySem.W.findIn K (.ref CU) "__getattribute__" = some (some (.builtin "BaseException.__getattribute__")))
    (gg_u : PySem.W.findIn K (.ref CU) "__getattr__" = some none)
    (ex_u : PySem.W.subIn K (.ref CU) (.type "BaseException") = some true)
    (ty_u : PySem.W.typeIn K (.ref CU) = some (.type "type"))
    (kp_u : PySem.W.keepIn K (.ref CU) = true)
    (hd_u : PySem.W.hasDictIn K CU = true)
    (ic_u : PySem.W.isClsIn K CU = true)
    (no_u : PySem.W.findIn K (.ref CU) "name" = some none)
    (in_u : PySem.W.findIn K (.ref CU) "__init__" = some (some (.ref f_ui)))
    (ti_u : PySem.W.typeIn K (.ref f_ui) = some (.type "function"))
    (l_ui : K.lookup f_ui = some ⟨oc_ui, od_ui, .func (PySem.W.fnOf "__init__" "UnknownNode.__init__" (defArgs sUi) (defBody sUi) (defScope sUi) .none kV_ui dc_ui pm_ui an_ui cd_ui ct_ui), sl_ui⟩)
    (c_ui : PySem.W.codeIn K cd_ui "UnknownNode.__init__" = true)
    (k_ui : PySem.W.keepIn K (.ref f_ui) = true)
    (ag_e : PySem.W.nsIn K mainGlobals "MootError" = some (some (.ref CE)))
    (s_uu : PySem.W.subIn K (.ref CU) (.ref CU) = some true)
    (ag_p : PySem.W.nsIn K mainGlobals "Portrait" = some (some (.ref CP)))
    (p_pg : PySem.W.plainGet K CP Str.empty = true)
    (p_hd : PySem.W.hasDictIn K CP = true)
    (p_po : PySem.W.plainOver K CP = true)
    (p_sa : PySem.W.findIn K (.ref CP) "__setattr__" = some (some (.builtin "object.__setattr__")))
    (p_mk : PySem.W.makesIn K CP = true)
    (p_kc : PySem.W.keepIn K (.ref CP) = true)
    (p_n0 : PySem.W.findIn K (.ref CP) "requirement" = some none)
    (p_n1 : PySem.W.findIn K (.ref CP) "votes" = some none)
    (p_n2 : PySem.W.findIn K (.ref CP) "accepts" = some none)
    (a_pri : PySem.W.findIn K (.ref CP) "__init__" = some (some (.ref f_pri)))
    (i_pri : PySem.W.isFn K (.ref f_pri) = true)
    (l_pri : K.lookup f_pri = some ⟨oc_pri, od_pri, .func (PySem.W.fnOf "__init__" "Portrait.__init__" (defArgs sPi) (defBody sPi) (defScope sPi) .none kV_pri dc_pri pm_pri an_pri cd_pri ct_pri), sl_pri⟩)
    (c_pri : PySem.W.codeIn K cd_pri "Portrait.__init__" = true)
    (k_pri : PySem.W.keepIn K (.ref f_pri) = true)
    (ag_m : PySem.W.nsIn K mainGlobals "Member" = some (some (.ref CM)))
    (m_pg : PySem.W.plainGet K CM Str.empty = true)
    (m_hd : PySem.W.hasDictIn K CM = true)
    (m_po : PySem.W.plainOver K CM = true)
    (m_sa : PySem.W.findIn K (.ref CM) "__setattr__" = some (some (.builtin "object.__setattr__")))
    (m_mk : PySem.W.makesIn K CM = true)
    (m_kc : PySem.W.keepIn K (.ref CM) = true)
    (m_n0 : PySem.W.findIn K (.ref CM) "name" = some none)
    (m_n1 : PySem.W.findIn K (.ref CM) "own" = some none)
    (m_n2 : PySem.W.findIn K (.ref CM) "portraits" = some none)
    (m_n3 : PySem.W.findIn K (.ref CM) "told" = some none)
    (m_n4 : PySem.W.findIn K (.ref CM) "reasons" = some none)
    (m_n5 : PySem.W.findIn K (.ref CM) "confirmed" = some none)
    (a_mri : PySem.W.findIn K (.ref CM) "__init__" = some (some (.ref f_mri)))
    (i_mri : PySem.W.isFn K (.ref f_mri) = true)
    (l_mri : K.lookup f_mri = some ⟨oc_mri, od_mri, .func (PySem.W.fnOf "__init__" "Member.__init__" (defArgs sMi) (defBody sMi) (defScope sMi) .none kV_mri dc_mri pm_mri an_mri cd_mri ct_mri), sl_mri⟩)
    (c_mri : PySem.W.codeIn K cd_mri "Member.__init__" = true)
    (k_mri : PySem.W.keepIn K (.ref f_mri) = true)
    (a_hv : PySem.W.findIn K (.ref CM) "has_voted" = some (some (.ref f_hv)))
    (i_hv : PySem.W.isFn K (.ref f_hv) = true)
    (l_hv : K.lookup f_hv = some ⟨oc_hv, od_hv, .func (PySem.W.fnOf "has_voted" "Member.has_voted" (defArgs sHv) (defBody sHv) (defScope sHv) .none kV_hv dc_hv pm_hv an_hv cd_hv ct_hv), sl_hv⟩)
    (c_hv : PySem.W.codeIn K cd_hv "Member.has_voted" = true)
    (k_hv : PySem.W.keepIn K (.ref f_hv) = true)
    (a_ha : PySem.W.findIn K (.ref CM) "has_accepted" = some (some (.ref f_ha)))
    (i_ha : PySem.W.isFn K (.ref f_ha) = true)
    (l_ha : K.lookup f_ha = some ⟨oc_ha, od_ha, .func (PySem.W.fnOf "has_accepted" "Member.has_accepted" (defArgs sHa) (defBody sHa) (defScope sHa) .none kV_ha dc_ha pm_ha an_ha cd_ha ct_ha), sl_ha⟩)
    (c_ha : PySem.W.codeIn K cd_ha "Member.has_accepted" = true)
    (k_ha : PySem.W.keepIn K (.ref f_ha) = true)
    (a_cv : PySem.W.findIn K (.ref CM) "cast_vote" = some (some (.ref f_cv)))
    (i_cv : PySem.W.isFn K (.ref f_cv) = true)
    (l_cv : K.lookup f_cv = some ⟨oc_cv, od_cv, .func (PySem.W.fnOf "cast_vote" "Member.cast_vote" (defArgs sCv) (defBody sCv) (defScope sCv) .none kV_cv dc_cv pm_cv an_cv cd_cv ct_cv), sl_cv⟩)
    (c_cv : PySem.W.codeIn K cd_cv "Member.cast_vote" = true)
    (k_cv : PySem.W.keepIn K (.ref f_cv) = true)
    (y_big : PySem.W.nsIn K mainGlobals "LARGEST_NUMBER" = some (some (.int 6 tG)))
    (y_an : PySem.W.nsIn K mainGlobals "ANSWERS" = some (some (.ref aA)))
    (y_ant : K.lookup aA = some ⟨.type "tuple", odA, .seq #[.str "commit" tE, .str "abort" tF] nA, slA⟩)
    (y_pf : PySem.W.nsIn K mainGlobals "PERFORMERS" = some (some (.ref aP)))
    (y_pd : K.lookup aP = some ⟨.type "dict", none, .dict esP nP, #[]⟩)
    (y_pk : PySem.W.KeysLit w.params esP.toList)
    (y_p1 : PySem.W.nsIn K aP "voted" = some (some (.ref f_pvo)))
    (y_p2 : PySem.W.nsIn K aP "confirmed" = some (some (.ref f_pco)))
    (a_ns : PySem.W.nsIn K mainGlobals "node_set" = some (some (.ref f_ns)))
    (l_ns : K.lookup f_ns = some ⟨oc_ns, od_ns, .func (PySem.W.fnOf "node_set" "node_set" (defArgs sNs) (defBody sNs) (defScope sNs) .none kV_ns dc_ns pm_ns an_ns cd_ns ct_ns), sl_ns⟩)
    (c_ns : PySem.W.codeIn K cd_ns "node_set" = true)
    (k_ns : PySem.W.keepIn K (.ref f_ns) = true)
    (a_wit : PySem.W.nsIn K mainGlobals "is_within" = some (some (.ref f_wit)))
    (l_wit : K.lookup f_wit = some ⟨oc_wit, od_wit, .func (PySem.W.fnOf "is_within" "is_within" (defArgs sWit) (defBody sWit) (defScope sWit) .none kV_wit dc_wit pm_wit an_wit cd_wit ct_wit), sl_wit⟩)
    (c_wit : PySem.W.codeIn K cd_wit "is_within" = true)
    (k_wit : PySem.W.keepIn K (.ref f_wit) = true)
    (a_out : PySem.W.nsIn K mainGlobals "names_outside" = some (some (.ref f_out)))
    (l_out : K.lookup f_out = some ⟨oc_out, od_out, .func (PySem.W.fnOf "names_outside" "names_outside" (defArgs sOut) (defBody sOut) (defScope sOut) .none kV_out dc_out pm_out an_out cd_out ct_out), sl_out⟩)
    (c_out : PySem.W.codeIn K cd_out "names_outside" = true)
    (k_out : PySem.W.keepIn K (.ref f_out) = true)
    (a_isn : PySem.W.nsIn K mainGlobals "is_name" = some (some (.ref f_isn)))
    (l_isn : K.lookup f_isn = some ⟨oc_isn, od_isn, .func (PySem.W.fnOf "is_name" "is_name" (defArgs sIn) (defBody sIn) (defScope sIn) .none kV_isn dc_isn pm_isn an_isn cd_isn ct_isn), sl_isn⟩)
    (c_isn : PySem.W.codeIn K cd_isn "is_name" = true)
    (k_isn : PySem.W.keepIn K (.ref f_isn) = true)
    (a_who : PySem.W.nsIn K mainGlobals "is_whole_number" = some (some (.ref f_who)))
    (l_who : K.lookup f_who = some ⟨oc_who, od_who, .func (PySem.W.fnOf "is_whole_number" "is_whole_number" (defArgs sWh) (defBody sWh) (defScope sWh) .none kV_who dc_who pm_who an_who cd_who ct_who), sl_who⟩)
    (c_who : PySem.W.codeIn K cd_who "is_whole_number" = true)
    (k_who : PySem.W.keepIn K (.ref f_who) = true)
    (a_ct : PySem.W.nsIn K mainGlobals "is_counted_tuple" = some (some (.ref f_ct)))
    (l_ct : K.lookup f_ct = some ⟨oc_ct, od_ct, .func (PySem.W.fnOf "is_counted_tuple" "is_counted_tuple" (defArgs sCt) (defBody sCt) (defScope sCt) .none kV_ct dc_ct pm_ct an_ct cd_ct ct_ct), sl_ct⟩)
    (c_ct : PySem.W.codeIn K cd_ct "is_counted_tuple" = true)
    (k_ct : PySem.W.keepIn K (.ref f_ct) = true)
    (a_hd : PySem.W.nsIn K mainGlobals "has_duplicates" = some (some (.ref f_hd)))
    (l_hd : K.lookup f_hd = some ⟨oc_hd, od_hd, .func (PySem.W.fnOf "has_duplicates" "has_duplicates" (defArgs sHd) (defBody sHd) (defScope sHd) .none kV_hd dc_hd pm_hd an_hd cd_hd ct_hd), sl_hd⟩)
    (c_hd : PySem.W.codeIn K cd_hd "has_duplicates" = true)
    (k_hd : PySem.W.keepIn K (.ref f_hd) = true)
    (a_sr : PySem.W.nsIn K mainGlobals "is_simple_requirement" = some (some (.ref f_sr)))
    (l_sr : K.lookup f_sr = some ⟨oc_sr, od_sr, .func (PySem.W.fnOf "is_simple_requirement" "is_simple_requirement" (defArgs sSr) (defBody sSr) (defScope sSr) .none kV_sr dc_sr pm_sr an_sr cd_sr ct_sr), sl_sr⟩)
    (c_sr : PySem.W.codeIn K cd_sr "is_simple_requirement" = true)
    (k_sr : PySem.W.keepIn K (.ref f_sr) = true)
    (a_ir : PySem.W.nsIn K mainGlobals "is_requirement" = some (some (.ref f_ir)))
    (l_ir : K.lookup f_ir = some ⟨oc_ir, od_ir, .func (PySem.W.fnOf "is_requirement" "is_requirement" (defArgs sIr) (defBody sIr) (defScope sIr) .none kV_ir dc_ir pm_ir an_ir cd_ir ct_ir), sl_ir⟩)
    (c_ir : PySem.W.codeIn K cd_ir "is_requirement" = true)
    (k_ir : PySem.W.keepIn K (.ref f_ir) = true)
    (a_nwr : PySem.W.nsIn K mainGlobals "names_with_repetition" = some (some (.ref f_nwr)))
    (l_nwr : K.lookup f_nwr = some ⟨oc_nwr, od_nwr, .func (PySem.W.fnOf "names_with_repetition" "names_with_repetition" (defArgs sNwr) (defBody sNwr) (defScope sNwr) .none kV_nwr dc_nwr pm_nwr an_nwr cd_nwr ct_nwr), sl_nwr⟩)
    (c_nwr : PySem.W.codeIn K cd_nwr "names_with_repetition" = true)
    (k_nwr : PySem.W.keepIn K (.ref f_nwr) = true)
    (a_nin : PySem.W.nsIn K mainGlobals "names_in" = some (some (.ref f_nin)))
    (l_nin : K.lookup f_nin = some ⟨oc_nin, od_nin, .func (PySem.W.fnOf "names_in" "names_in" (defArgs sNin) (defBody sNin) (defScope sNin) .none kV_nin dc_nin pm_nin an_nin cd_nin ct_nin), sl_nin⟩)
    (c_nin : PySem.W.codeIn K cd_nin "names_in" = true)
    (k_nin : PySem.W.keepIn K (.ref f_nin) = true)
    (a_rb : PySem.W.nsIn K mainGlobals "requirements_by_name" = some (some (.ref f_rb)))
    (l_rb : K.lookup f_rb = some ⟨oc_rb, od_rb, .func (PySem.W.fnOf "requirements_by_name" "requirements_by_name" (defArgs sRb) (defBody sRb) (defScope sRb) .none kV_rb dc_rb pm_rb an_rb cd_rb ct_rb), sl_rb⟩)
    (c_rb : PySem.W.codeIn K cd_rb "requirements_by_name" = true)
    (k_rb : PySem.W.keepIn K (.ref f_rb) = true)
    (a_cu : PySem.W.nsIn K mainGlobals "check_names_used" = some (some (.ref f_cu)))
    (l_cu : K.lookup f_cu = some ⟨oc_cu, od_cu, .func (PySem.W.fnOf "check_names_used" "check_names_used" (defArgs sCu) (defBody sCu) (defScope sCu) .none kV_cu dc_cu pm_cu an_cu cd_cu ct_cu), sl_cu⟩)
    (c_cu : PySem.W.codeIn K cd_cu "check_names_used" = true)
    (k_cu : PySem.W.keepIn K (.ref f_cu) = true)
    (a_nn : PySem.W.findIn K (.ref C) "node_names" = some (some (.ref f_nn)))
    (i_nn : PySem.W.isFn K (.ref f_nn) = true)
    (l_nn : K.lookup f_nn = some ⟨oc_nn, od_nn, .func (PySem.W.fnOf "node_names" "Network.node_names" (defArgs sNn) (defBody sNn) (defScope sNn) .none kV_nn dc_nn pm_nn an_nn cd_nn ct_nn), sl_nn⟩)
    (c_nn : PySem.W.codeIn K cd_nn "Network.node_names" = true)
    (k_nn : PySem.W.keepIn K (.ref f_nn) = true)
    (a_cn : PySem.W.findIn K (.ref C) "check_nodes" = some (some (.ref f_cn)))
    (i_cn : PySem.W.isFn K (.ref f_cn) = true)
    (l_cn : K.lookup f_cn = some ⟨oc_cn, od_cn, .func (PySem.W.fnOf "check_nodes" "Network.check_nodes" (defArgs sCn) (defBody sCn) (defScope sCn) .none kV_cn dc_cn pm_cn an_cn cd_cn ct_cn), sl_cn⟩)
    (c_cn : PySem.W.codeIn K cd_cn "Network.check_nodes" = true)
    (k_cn : PySem.W.keepIn K (.ref f_cn) = true)
    (a_ro : PySem.W.findIn K (.ref C) "requirement_of" = some (some (.ref f_ro)))
    (i_ro : PySem.W.isFn K (.ref f_ro) = true)
    (l_ro : K.lookup f_ro = some ⟨oc_ro, od_ro, .func (PySem.W.fnOf "requirement_of" "Network.requirement_of" (defArgs sRo) (defBody sRo) (defScope sRo) .none kV_ro dc_ro pm_ro an_ro cd_ro ct_ro), sl_ro⟩)
    (c_ro : PySem.W.codeIn K cd_ro "Network.requirement_of" = true)
    (k_ro : PySem.W.keepIn K (.ref f_ro) = true)
    (a_asc : PySem.W.nsIn K mainGlobals "is_ascending" = some (some (.ref f_asc)))
    (l_asc : K.lookup f_asc = some ⟨oc_asc, od_asc, .func (PySem.W.fnOf "is_ascending" "is_ascending" (defArgs sAs) (defBody sAs) (defScope sAs) .none kV_asc dc_asc pm_asc an_asc cd_asc ct_asc), sl_asc⟩)
    (c_asc : PySem.W.codeIn K cd_asc "is_ascending" = true)
    (k_asc : PySem.W.keepIn K (.ref f_asc) = true)
    (a_ba : PySem.W.nsIn K mainGlobals "is_ballot" = some (some (.ref f_ba)))
    (l_ba : K.lookup f_ba = some ⟨oc_ba, od_ba, .func (PySem.W.fnOf "is_ballot" "is_ballot" (defArgs sBa) (defBody sBa) (defScope sBa) .none kV_ba dc_ba pm_ba an_ba cd_ba ct_ba), sl_ba⟩)
    (c_ba : PySem.W.codeIn K cd_ba "is_ballot" = true)
    (k_ba : PySem.W.keepIn K (.ref f_ba) = true)
    (a_ans : PySem.W.nsIn K mainGlobals "is_answer" = some (some (.ref f_ans)))
    (l_ans : K.lookup f_ans = some ⟨oc_ans, od_ans, .func (PySem.W.fnOf "is_answer" "is_answer" (defArgs sAn) (defBody sAn) (defScope sAn) .none kV_ans dc_ans pm_ans an_ans cd_ans ct_ans), sl_ans⟩)
    (c_ans : PySem.W.codeIn K cd_ans "is_answer" = true)
    (k_ans : PySem.W.keepIn K (.ref f_ans) = true)
    (a_msg : PySem.W.nsIn K mainGlobals "is_message" = some (some (.ref f_msg)))
    (l_msg : K.lookup f_msg = some ⟨oc_msg, od_msg, .func (PySem.W.fnOf "is_message" "is_message" (defArgs sMs) (defBody sMs) (defScope sMs) .none kV_msg dc_msg pm_msg an_msg cd_msg ct_msg), sl_msg⟩)
    (c_msg : PySem.W.codeIn K cd_msg "is_message" = true)
    (k_msg : PySem.W.keepIn K (.ref f_msg) = true)
    (a_hms : PySem.W.nsIn K mainGlobals "honest_members" = some (some (.ref f_hms)))
    (l_hms : K.lookup f_hms = some ⟨oc_hms, od_hms, .func (PySem.W.fnOf "honest_members" "honest_members" (defArgs sHm) (defBody sHm) (defScope sHm) .none kV_hms dc_hms pm_hms an_hms cd_hms ct_hms), sl_hms⟩)
    (c_hms : PySem.W.codeIn K cd_hms "honest_members" = true)
    (k_hms : PySem.W.keepIn K (.ref f_hms) = true)
    (a_wst : PySem.W.nsIn K mainGlobals "is_written_set" = some (some (.ref f_wst)))
    (l_wst : K.lookup f_wst = some ⟨oc_wst, od_wst, .func (PySem.W.fnOf "is_written_set" "is_written_set" (defArgs sWs) (defBody sWs) (defScope sWs) .none kV_wst dc_wst pm_wst an_wst cd_wst ct_wst), sl_wst⟩)
    (c_wst : PySem.W.codeIn K cd_wst "is_written_set" = true)
    (k_wst : PySem.W.keepIn K (.ref f_wst) = true)
    (a_wrs : PySem.W.nsIn K mainGlobals "is_written_reason" = some (some (.ref f_wrs)))
    (l_wrs : K.lookup f_wrs = some ⟨oc_wrs, od_wrs, .func (PySem.W.fnOf "is_written_reason" "is_written_reason" (defArgs sWr) (defBody sWr) (defScope sWr) .none kV_wrs dc_wrs pm_wrs an_wrs cd_wrs ct_wrs), sl_wrs⟩)
    (c_wrs : PySem.W.codeIn K cd_wrs "is_written_reason" = true)
    (k_wrs : PySem.W.keepIn K (.ref f_wrs) = true)
    (a_ise : PySem.W.nsIn K mainGlobals "is_event" = some (some (.ref f_ise)))
    (l_ise : K.lookup f_ise = some ⟨oc_ise, od_ise, .func (PySem.W.fnOf "is_event" "is_event" (defArgs sEv) (defBody sEv) (defScope sEv) .none kV_ise dc_ise pm_ise an_ise cd_ise ct_ise), sl_ise⟩)
    (c_ise : PySem.W.codeIn K cd_ise "is_event" = true)
    (k_ise : PySem.W.keepIn K (.ref f_ise) = true)
    (a_pvo : PySem.W.nsIn K mainGlobals "perform_vote" = some (some (.ref f_pvo)))
    (l_pvo : K.lookup f_pvo = some ⟨oc_pvo, od_pvo, .func (PySem.W.fnOf "perform_vote" "perform_vote" (defArgs sPv) (defBody sPv) (defScope sPv) .none kV_pvo dc_pvo pm_pvo an_pvo cd_pvo ct_pvo), sl_pvo⟩)
    (c_pvo : PySem.W.codeIn K cd_pvo "perform_vote" = true)
    (k_pvo : PySem.W.keepIn K (.ref f_pvo) = true)
    (a_pco : PySem.W.nsIn K mainGlobals "perform_confirmation" = some (some (.ref f_pco)))
    (l_pco : K.lookup f_pco = some ⟨oc_pco, od_pco, .func (PySem.W.fnOf "perform_confirmation" "perform_confirmation" (defArgs sPc) (defBody sPc) (defScope sPc) .none kV_pco dc_pco pm_pco an_pco cd_pco ct_pco), sl_pco⟩)
    (c_pco : PySem.W.codeIn K cd_pco "perform_confirmation" = true)
    (k_pco : PySem.W.keepIn K (.ref f_pco) = true)
    (a_mem : PySem.W.nsIn K mainGlobals "members_after" = some (some (.ref f_mem)))
    (l_mem : K.lookup f_mem = some ⟨oc_mem, od_mem, .func (PySem.W.fnOf "members_after" "members_after" (defArgs sMa) (defBody sMa) (defScope sMa) .none kV_mem dc_mem pm_mem an_mem cd_mem ct_mem), sl_mem⟩)
    (c_mem : PySem.W.codeIn K cd_mem "members_after" = true)
    (k_mem : PySem.W.keepIn K (.ref f_mem) = true)
    (a_vhi : PySem.W.nsIn K mainGlobals "is_valid_history" = some (some (.ref f_vhi)))
    (l_vhi : K.lookup f_vhi = some ⟨oc_vhi, od_vhi, .func (PySem.W.fnOf "is_valid_history" "is_valid_history" (defArgs sVh) (defBody sVh) (defScope sVh) .none kV_vhi dc_vhi pm_vhi an_vhi cd_vhi ct_vhi), sl_vhi⟩)
    (c_vhi : PySem.W.codeIn K cd_vhi "is_valid_history" = true)
    (k_vhi : PySem.W.keepIn K (.ref f_vhi) = true)
    (a_yhi : PySem.W.nsIn K mainGlobals "is_complete_history" = some (some (.ref f_yhi)))
    (l_yhi : K.lookup f_yhi = some ⟨oc_yhi, od_yhi, .func (PySem.W.fnOf "is_complete_history" "is_complete_history" (defArgs sYh) (defBody sYh) (defScope sYh) .none kV_yhi dc_yhi pm_yhi an_yhi cd_yhi ct_yhi), sl_yhi⟩)
    (c_yhi : PySem.W.codeIn K cd_yhi "is_complete_history" = true)
    (k_yhi : PySem.W.keepIn K (.ref f_yhi) = true)
    (a_box : PySem.W.nsIn K mainGlobals "_law_box" = some (some (.ref f_box)))
    (l_box : K.lookup f_box = some ⟨oc_box, od_box, .func (PySem.W.fnOf "_law_box" "_law_box" (defArgs sBox) (defBody sBox) (defScope sBox) .none kV_box dc_box pm_box an_box cd_box ct_box), sl_box⟩)
    (c_box : PySem.W.codeIn K cd_box "_law_box" = true)
    (k_box : PySem.W.keepIn K (.ref f_box) = true)
    (a_mix : PySem.W.nsIn K mainGlobals "_law_mixed" = some (some (.ref f_mix)))
    (l_mix : K.lookup f_mix = some ⟨oc_mix, od_mix, .func (PySem.W.fnOf "_law_mixed" "_law_mixed" (defArgs sMixed) (defBody sMixed) (defScope sMixed) .none kV_mix dc_mix pm_mix an_mix cd_mix ct_mix), sl_mix⟩)
    (c_mix : PySem.W.codeIn K cd_mix "_law_mixed" = true)
    (k_mix : PySem.W.keepIn K (.ref f_mix) = true)
    (a_take : PySem.W.nsIn K mainGlobals "_law_take" = some (some (.ref f_take)))
    (l_take : K.lookup f_take = some ⟨oc_take, od_take, .func (PySem.W.fnOf "_law_take" "_law_take" (defArgs sTake) (defBody sTake) (defScope sTake) .none kV_take dc_take pm_take an_take cd_take ct_take), sl_take⟩)
    (c_take : PySem.W.codeIn K cd_take "_law_take" = true)
    (k_take : PySem.W.keepIn K (.ref f_take) = true)
    (a_nam : PySem.W.nsIn K mainGlobals "_law_names" = some (some (.ref f_nam)))
    (l_nam : K.lookup f_nam = some ⟨oc_nam, od_nam, .func (PySem.W.fnOf "_law_names" "_law_names" (defArgs sNames) (defBody sNames) (defScope sNames) .none kV_nam dc_nam pm_nam an_nam cd_nam ct_nam), sl_nam⟩)
    (c_nam : PySem.W.codeIn K cd_nam "_law_names" = true)
    (k_nam : PySem.W.keepIn K (.ref f_nam) = true)
    (a_som : PySem.W.nsIn K mainGlobals "_law_some" = some (some (.ref f_som)))
    (l_som : K.lookup f_som = some ⟨oc_som, od_som, .func (PySem.W.fnOf "_law_some" "_law_some" (defArgs sSome) (defBody sSome) (defScope sSome) .none kV_som dc_som pm_som an_som cd_som ct_som), sl_som⟩)
    (c_som : PySem.W.codeIn K cd_som "_law_some" = true)
    (k_som : PySem.W.keepIn K (.ref f_som) = true)
    (a_cnt : PySem.W.nsIn K mainGlobals "_law_count" = some (some (.ref f_cnt)))
    (l_cnt : K.lookup f_cnt = some ⟨oc_cnt, od_cnt, .func (PySem.W.fnOf "_law_count" "_law_count" (defArgs sCount) (defBody sCount) (defScope sCount) .none kV_cnt dc_cnt pm_cnt an_cnt cd_cnt ct_cnt), sl_cnt⟩)
    (c_cnt : PySem.W.codeIn K cd_cnt "_law_count" = true)
    (k_cnt : PySem.W.keepIn K (.ref f_cnt) = true)
    (a_lis : PySem.W.nsIn K mainGlobals "_law_listed" = some (some (.ref f_lis)))
    (l_lis : K.lookup f_lis = some ⟨oc_lis, od_lis, .func (PySem.W.fnOf "_law_listed" "_law_listed" (defArgs sLis) (defBody sLis) (defScope sLis) .none kV_lis dc_lis pm_lis an_lis cd_lis ct_lis), sl_lis⟩)
    (c_lis : PySem.W.codeIn K cd_lis "_law_listed" = true)
    (k_lis : PySem.W.keepIn K (.ref f_lis) = true)
    (a_req : PySem.W.nsIn K mainGlobals "_law_requirement" = some (some (.ref f_req)))
    (l_req : K.lookup f_req = some ⟨oc_req, od_req, .func (PySem.W.fnOf "_law_requirement" "_law_requirement" (defArgs sReq) (defBody sReq) (defScope sReq) .none kV_req dc_req pm_req an_req cd_req ct_req), sl_req⟩)
    (c_req : PySem.W.codeIn K cd_req "_law_requirement" = true)
    (k_req : PySem.W.keepIn K (.ref f_req) = true)
    (a_rows : PySem.W.nsIn K mainGlobals "_law_rows" = some (some (.ref f_rows)))
    (l_rows : K.lookup f_rows = some ⟨oc_rows, od_rows, .func (PySem.W.fnOf "_law_rows" "_law_rows" (defArgs sRows) (defBody sRows) (defScope sRows) .none kV_rows dc_rows pm_rows an_rows cd_rows ct_rows), sl_rows⟩)
    (c_rows : PySem.W.codeIn K cd_rows "_law_rows" = true)
    (k_rows : PySem.W.keepIn K (.ref f_rows) = true)
    (a_fau : PySem.W.nsIn K mainGlobals "_law_faulty" = some (some (.ref f_fau)))
    (l_fau : K.lookup f_fau = some ⟨oc_fau, od_fau, .func (PySem.W.fnOf "_law_faulty" "_law_faulty" (defArgs sFau) (defBody sFau) (defScope sFau) .none kV_fau dc_fau pm_fau an_fau cd_fau ct_fau), sl_fau⟩)
    (c_fau : PySem.W.codeIn K cd_fau "_law_faulty" = true)
    (k_fau : PySem.W.keepIn K (.ref f_fau) = true)
    (a_stm : PySem.W.nsIn K mainGlobals "_law_statements" = some (some (.ref f_stm)))
    (l_stm : K.lookup f_stm = some ⟨oc_stm, od_stm, .func (PySem.W.fnOf "_law_statements" "_law_statements" (defArgs sLst) (defBody sLst) (defScope sLst) .none kV_stm dc_stm pm_stm an_stm cd_stm ct_stm), sl_stm⟩)
    (c_stm : PySem.W.codeIn K cd_stm "_law_statements" = true)
    (k_stm : PySem.W.keepIn K (.ref f_stm) = true)
    (a_fms : PySem.W.nsIn K mainGlobals "_law_false_message" = some (some (.ref f_fms)))
    (l_fms : K.lookup f_fms = some ⟨oc_fms, od_fms, .func (PySem.W.fnOf "_law_false_message" "_law_false_message" (defArgs sFm) (defBody sFm) (defScope sFm) .none kV_fms dc_fms pm_fms an_fms cd_fms ct_fms), sl_fms⟩)
    (c_fms : PySem.W.codeIn K cd_fms "_law_false_message" = true)
    (k_fms : PySem.W.keepIn K (.ref f_fms) = true)
    (a_lan : PySem.W.nsIn K mainGlobals "_law_any" = some (some (.ref f_lan)))
    (l_lan : K.lookup f_lan = some ⟨oc_lan, od_lan, .func (PySem.W.fnOf "_law_any" "_law_any" (defArgs sAny) (defBody sAny) (defScope sAny) .none kV_lan dc_lan pm_lan an_lan cd_lan ct_lan), sl_lan⟩)
    (c_lan : PySem.W.codeIn K cd_lan "_law_any" = true)
    (k_lan : PySem.W.keepIn K (.ref f_lan) = true)
    (a_gar : PySem.W.nsIn K mainGlobals "_law_garbage" = some (some (.ref f_gar)))
    (l_gar : K.lookup f_gar = some ⟨oc_gar, od_gar, .func (PySem.W.fnOf "_law_garbage" "_law_garbage" (defArgs sGa) (defBody sGa) (defScope sGa) .none kV_gar dc_gar pm_gar an_gar cd_gar ct_gar), sl_gar⟩)
    (c_gar : PySem.W.codeIn K cd_gar "_law_garbage" = true)
    (k_gar : PySem.W.keepIn K (.ref f_gar) = true)
    (a_knw : PySem.W.nsIn K mainGlobals "_law_known" = some (some (.ref f_knw)))
    (l_knw : K.lookup f_knw = some ⟨oc_knw, od_knw, .func (PySem.W.fnOf "_law_known" "_law_known" (defArgs sKn) (defBody sKn) (defScope sKn) .none kV_knw dc_knw pm_knw an_knw cd_knw ct_knw), sl_knw⟩)
    (c_knw : PySem.W.codeIn K cd_knw "_law_known" = true)
    (k_knw : PySem.W.keepIn K (.ref f_knw) = true)
    (a_law : PySem.W.nsIn K mainGlobals "law" = some (some (.ref f_law)))
    (l_law : K.lookup f_law = some ⟨oc_law, od_law, .func (PySem.W.fnOf "law" "law" (defArgs sLaw) (defBody sLaw) (defScope sLaw) .none kV_law dc_law pm_law an_law cd_law ct_law), sl_law⟩)
    (c_law : PySem.W.codeIn K cd_law "law" = true)
    (k_law : PySem.W.keepIn K (.ref f_law) = true)
    (a_ini : PySem.W.findIn K (.ref C) "__init__" = some (some (.ref f_ini)))
    (i_ini : PySem.W.isFn K (.ref f_ini) = true)
    (l_ini : K.lookup f_ini = some ⟨oc_ini, od_ini, .func (PySem.W.fnOf "__init__" "Network.__init__" (defArgs sNi) (defBody sNi) (defScope sNi) (.ref dT) kV_ini dc_ini pm_ini an_ini cd_ini ct_ini), sl_ini⟩)
    (c_ini : PySem.W.codeIn K cd_ini "Network.__init__" = true)
    (k_ini : PySem.W.keepIn K (.ref f_ini) = true)
    (y_dT : K.lookup dT = some ⟨ocT, odT, .seq #[.ref eA] nT, slT⟩)
    (y_let : PySem.W.nsIn K mainGlobals "LETTERS" = some (some (.str abc tA)))
    (y_lon : PySem.W.nsIn K mainGlobals "LONGEST_NAME" = some (some (.int 8 tB)))
    (y_mn : PySem.W.nsIn K mainGlobals "MOST_NAMES" = some (some (.int 12 tC)))
    (y_md : PySem.W.nsIn K mainGlobals "MOST_DIFFERENT_NAMES" = some (some (.int 8 tD)))
    (w_pg : PySem.W.plainGet K C Str.empty = true)
    (w_hd : PySem.W.hasDictIn K C = true)
    (w_po : PySem.W.plainOver K C = true)
    (w_sa : PySem.W.findIn K (.ref C) "__setattr__" = some (some (.builtin "object.__setattr__")))
    (w_mk : PySem.W.makesIn K C = true)
    (w_kc : PySem.W.keepIn K (.ref C) = true)
    (w_nR : PySem.W.findIn K (.ref C) "requirements" = some none)
    (z_isi : PySem.W.nsIn K mainGlobals "isinstance" = some none)
    (z_str : PySem.W.nsIn K mainGlobals "str" = some none)
    (z_len : PySem.W.nsIn K mainGlobals "len" = some none)
    (z_tup : PySem.W.nsIn K mainGlobals "tuple" = some none)
    (z_lst : PySem.W.nsIn K mainGlobals "list" = some none)
    (z_srt : PySem.W.nsIn K mainGlobals "sorted" = some none)
    (z_set : PySem.W.nsIn K mainGlobals "set" = some none)
    (z_rng : PySem.W.nsIn K mainGlobals "range" = some none)
    (z_int : PySem.W.nsIn K mainGlobals "int" = some none)
    (z_bool : PySem.W.nsIn K mainGlobals "bool" = some none)
    (z_sum : PySem.W.nsIn K mainGlobals "sum" = some none)
    (z_min : PySem.W.nsIn K mainGlobals "min" = some none)
    (z_max : PySem.W.nsIn K mainGlobals "max" = some none)
    (z_all : PySem.W.nsIn K mainGlobals "all" = some none)
    (z_any : PySem.W.nsIn K mainGlobals "any" = some none)
    (z_dict : PySem.W.nsIn K mainGlobals "dict" = some none) :
    ∃ fd : FuncData, (∀ (s : Shared) (v : Value), BindsTo s fd ⟨[v], []⟩ [("_law_script", v)]) ∧ ∀ base : Heap, K.In base → base.Ns mainGlobals mg → FnOk l.prog w K mg base CX0 8 fa fd ["_law_script"] (spLaw K) := by
  have e := hfa.symm.trans (PySem.W.mg_of X G a_law)
  cases e
  have T0 : Blt mg := ⟨PySem.W.mg_none_of X G z_isi, PySem.W.mg_none_of X G z_str, PySem.W.mg_none_of X G z_len, PySem.W.mg_none_of X G z_tup, PySem.W.mg_none_of X G z_lst, PySem.W.mg_none_of X G z_srt, PySem.W.mg_none_of X G z_set, PySem.W.mg_none_of X G z_rng, PySem.W.mg_none_of X G z_int, PySem.W.mg_none_of X G z_bool, PySem.W.mg_none_of X G z_sum, PySem.W.mg_none_of X G z_min, PySem.W.mg_none_of X G z_max⟩
  have T : Bq mg := ⟨T0, PySem.W.mg_none_of X G z_all, ⟨_, PySem.W.mg_of X G y_let, _, rfl⟩, ⟨_, PySem.W.mg_of X G y_lon, _, rfl⟩, ⟨_, PySem.W.mg_of X G y_mn, _, rfl⟩, ⟨_, PySem.W.mg_of X G y_md, _, rfl⟩⟩
  have TN : Bn mg := ⟨PySem.W.mg_none_of X G z_any, PySem.W.mg_none_of X G z_dict⟩
  have TX : Txt K mg C := ⟨⟨w_pg, w_hd, w_po, w_sa⟩, w_nR, PySem.W.mg_of X G aC⟩
  have F_ns := fun_mk (st := sNs) l_ns c_ns k_ns
  have g_ns : mg "node_set" = some (.ref _) := PySem.W.mg_of X G a_ns
  have b_ns := F_ns.binds (ps := ["names"]) fun _ _ _ _ _ _ us hl => match us, hl with | [_], _ => rfl
  have F_wit := fun_mk (st := sWit) l_wit c_wit k_wit
  have g_wit : mg "is_within" = some (.ref _) := PySem.W.mg_of X G a_wit
  have b_wit := F_wit.binds (ps := ["small", "large"]) fun _ _ _ _ _ _ us hl => match us, hl with | [_, _], _ => rfl
  have F_out := fun_mk (st := sOut) l_out c_out k_out
  have g_out : mg "names_outside" = some (.ref _) := PySem.W.mg_of X G a_out
  have b_out := F_out.binds (ps := ["names", "excluded"]) fun _ _ _ _ _ _ us hl => match us, hl with | [_, _], _ => rfl
  have F_isn := fun_mk (st := sIn) l_isn c_isn k_isn
  have g_isn : mg "is_name" = some (.ref _) := PySem.W.mg_of X G a_isn
  have b_isn := F_isn.binds (ps := ["value"]) fun _ _ _ _ _ _ us hl => match us, hl with | [_], _ => rfl
  have F_who := fun_mk (st := sWh) l_who c_who k_who
  have g_who : mg "is_whole_number" = some (.ref _) := PySem.W.mg_of X G a_who
  have b_who := F_who.binds (ps := ["value"]) fun _ _ _ _ _ _ us hl => match us, hl with | [_], _ => rfl
  have F_ct := fun_mk (st := sCt) l_ct c_ct k_ct
  have g_ct : mg "is_counted_tuple" = some (.ref _) := PySem.W.mg_of X G a_ct
  have b_ct := F_ct.binds (ps := ["value"]) fun _ _ _ _ _ _ us hl => match us, hl with | [_], _ => rfl
  have F_hd := fun_mk (st := sHd) l_hd c_hd k_hd
  have g_hd : mg "has_duplicates" = some (.ref _) := PySem.W.mg_of X G a_hd
  have b_hd := F_hd.binds (ps := ["parts"]) fun _ _ _ _ _ _ us hl => match us, hl with | [_], _ => rfl
  have F_sr := fun_mk (st := sSr) l_sr c_sr k_sr
  have g_sr : mg "is_simple_requirement" = some (.ref _) := PySem.W.mg_of X G a_sr
  have b_sr := F_sr.binds (ps := ["value"]) fun _ _ _ _ _ _ us hl => match us, hl with | [_], _ => rfl
  have F_ir := fun_mk (st := sIr) l_ir c_ir k_ir
  have g_ir : mg "is_requirement" = some (.ref _) := PySem.W.mg_of X G a_ir
  have b_ir := F_ir.binds (ps := ["value"]) fun _ _ _ _ _ _ us hl => match us, hl with | [_], _ => rfl
  have F_nwr := fun_mk (st := sNwr) l_nwr c_nwr k_nwr
  have g_nwr : mg "names_with_repetition" = some (.ref _) := PySem.W.mg_of X G a_nwr
  have b_nwr := F_nwr.binds (ps := ["requirement"]) fun _ _ _ _ _ _ us hl => match us, hl with | [_], _ => rfl
  have F_nin := fun_mk (st := sNin) l_nin c_nin k_nin
  have g_nin : mg "names_in" = some (.ref _) := PySem.W.mg_of X G a_nin
  have b_nin := F_nin.binds (ps := ["requirement"]) fun _ _ _ _ _ _ us hl => match us, hl with | [_], _ => rfl
  have F_rb := fun_mk (st := sRb) l_rb c_rb k_rb
  have g_rb : mg "requirements_by_name" = some (.ref _) := PySem.W.mg_of X G a_rb
  have b_rb := F_rb.binds (ps := ["rows"]) fun _ _ _ _ _ _ us hl => match us, hl with | [_], _ => rfl
  have F_cu := fun_mk (st := sCu) l_cu c_cu k_cu
  have g_cu : mg "check_names_used" = some (.ref _) := PySem.W.mg_of X G a_cu
  have b_cu := F_cu.binds (ps := ["requirements"]) fun _ _ _ _ _ _ us hl => match us, hl with | [_], _ => rfl
  have F_nn := fun_mk (st := sNn) l_nn c_nn k_nn
  have M_nn : Meth K C "node_names" f_nn := ⟨a_nn, i_nn, k_nn⟩
  have b_nn := F_nn.binds (ps := ["self"]) fun _ _ _ _ _ _ us hl => match us, hl with | [_], _ => rfl
  have F_cn := fun_mk (st := sCn) l_cn c_cn k_cn
  have M_cn : Meth K C "check_nodes" f_cn := ⟨a_cn, i_cn, k_cn⟩
  have b_cn := F_cn.binds (ps := ["self", "names"]) fun _ _ _ _ _ _ us hl => match us, hl with | [_, _], _ => rfl
  have F_ro := fun_mk (st := sRo) l_ro c_ro k_ro
  have M_ro : Meth K C "requirement_of" f_ro := ⟨a_ro, i_ro, k_ro⟩
  have b_ro := F_ro.binds (ps := ["self", "name"]) fun _ _ _ _ _ _ us hl => match us, hl with | [_, _], _ => rfl
  have F_asc := fun_mk (st := sAs) l_asc c_asc k_asc
  have g_asc : mg "is_ascending" = some (.ref _) := PySem.W.mg_of X G a_asc
  have b_asc := F_asc.binds (ps := ["entries"]) fun _ _ _ _ _ _ us hl => match us, hl with | [_], _ => rfl
  have F_ba := fun_mk (st := sBa) l_ba c_ba k_ba
  have g_ba : mg "is_ballot" = some (.ref _) := PySem.W.mg_of X G a_ba
  have b_ba := F_ba.binds (ps := ["value"]) fun _ _ _ _ _ _ us hl => match us, hl with | [_], _ => rfl
  have F_ans := fun_mk (st := sAn) l_ans c_ans k_ans
  have g_ans : mg "is_answer" = some (.ref _) := PySem.W.mg_of X G a_ans
  have b_ans := F_ans.binds (ps := ["value"]) fun _ _ _ _ _ _ us hl => match us, hl with | [_], _ => rfl
  have F_msg := fun_mk (st := sMs) l_msg c_msg k_msg
  have g_msg : mg "is_message" = some (.ref _) := PySem.W.mg_of X G a_msg
  have b_msg := F_msg.binds (ps := ["network", "value"]) fun _ _ _ _ _ _ us hl => match us, hl with | [_, _], _ => rfl
  have F_hms := fun_mk (st := sHm) l_hms c_hms k_hms
  have g_hms : mg "honest_members" = some (.ref _) := PySem.W.mg_of X G a_hms
  have b_hms := F_hms.binds (ps := ["network", "faulty"]) fun _ _ _ _ _ _ us hl => match us, hl with | [_, _], _ => rfl
  have F_wst := fun_mk (st := sWs) l_wst c_wst k_wst
  have g_wst : mg "is_written_set" = some (.ref _) := PySem.W.mg_of X G a_wst
  have b_wst := F_wst.binds (ps := ["network", "value"]) fun _ _ _ _ _ _ us hl => match us, hl with | [_, _], _ => rfl
  have F_wrs := fun_mk (st := sWr) l_wrs c_wrs k_wrs
  have g_wrs : mg "is_written_reason" = some (.ref _) := PySem.W.mg_of X G a_wrs
  have b_wrs := F_wrs.binds (ps := ["network", "value"]) fun _ _ _ _ _ _ us hl => match us, hl with | [_, _], _ => rfl
  have F_ise := fun_mk (st := sEv) l_ise c_ise k_ise
  have g_ise : mg "is_event" = some (.ref _) := PySem.W.mg_of X G a_ise
  have b_ise := F_ise.binds (ps := ["network", "value"]) fun _ _ _ _ _ _ us hl => match us, hl with | [_, _], _ => rfl
  have F_pvo := fun_mk (st := sPv) l_pvo c_pvo k_pvo
  have g_pvo : mg "perform_vote" = some (.ref _) := PySem.W.mg_of X G a_pvo
  have b_pvo := F_pvo.binds (ps := ["members", "event"]) fun _ _ _ _ _ _ us hl => match us, hl with | [_, _], _ => rfl
  have F_pco := fun_mk (st := sPc) l_pco c_pco k_pco
  have g_pco : mg "perform_confirmation" = some (.ref _) := PySem.W.mg_of X G a_pco
  have b_pco := F_pco.binds (ps := ["members", "event"]) fun _ _ _ _ _ _ us hl => match us, hl with | [_, _], _ => rfl
  have F_mem := fun_mk (st := sMa) l_mem c_mem k_mem
  have g_mem : mg "members_after" = some (.ref _) := PySem.W.mg_of X G a_mem
  have b_mem := F_mem.binds (ps := ["network", "faulty", "events"]) fun _ _ _ _ _ _ us hl => match us, hl with | [_, _, _], _ => rfl
  have F_vhi := fun_mk (st := sVh) l_vhi c_vhi k_vhi
  have g_vhi : mg "is_valid_history" = some (.ref _) := PySem.W.mg_of X G a_vhi
  have b_vhi := F_vhi.binds (ps := ["network", "faulty", "events"]) fun _ _ _ _ _ _ us hl => match us, hl with | [_, _, _], _ => rfl
  have F_yhi := fun_mk (st := sYh) l_yhi c_yhi k_yhi
  have g_yhi : mg "is_complete_history" = some (.ref _) := PySem.W.mg_of X G a_yhi
  have b_yhi := F_yhi.binds (ps := ["network", "faulty", "events"]) fun _ _ _ _ _ _ us hl => match us, hl with | [_, _, _], _ => rfl
  have F_box := fun_mk (st := sBox) l_box c_box k_box
  have g_box : mg "_law_box" = some (.ref _) := PySem.W.mg_of X G a_box
  have b_box := F_box.binds (ps := ["_law_script"]) fun _ _ _ _ _ _ us hl => match us, hl with | [_], _ => rfl
  have F_mix := fun_mk (st := sMixed) l_mix c_mix k_mix
  have g_mix : mg "_law_mixed" = some (.ref _) := PySem.W.mg_of X G a_mix
  have b_mix := F_mix.binds (ps := ["_law_cell", "_law_k"]) fun _ _ _ _ _ _ us hl => match us, hl with | [_, _], _ => rfl
  have F_take := fun_mk (st := sTake) l_take c_take k_take
  have g_take : mg "_law_take" = some (.ref _) := PySem.W.mg_of X G a_take
  have b_take := F_take.binds (ps := ["_law_box_here", "_law_size"]) fun _ _ _ _ _ _ us hl => match us, hl with | [_, _], _ => rfl
  have F_nam := fun_mk (st := sNames) l_nam c_nam k_nam
  have g_nam : mg "_law_names" = some (.ref _) := PySem.W.mg_of X G a_nam
  have b_nam := F_nam.binds (ps := ["_law_box_here", "_law_many"]) fun _ _ _ _ _ _ us hl => match us, hl with | [_, _], _ => rfl
  have F_som := fun_mk (st := sSome) l_som c_som k_som
  have g_som : mg "_law_some" = some (.ref _) := PySem.W.mg_of X G a_som
  have b_som := F_som.binds (ps := ["_law_box_here", "_law_values"]) fun _ _ _ _ _ _ us hl => match us, hl with | [_, _], _ => rfl
  have F_cnt := fun_mk (st := sCount) l_cnt c_cnt k_cnt
  have g_cnt : mg "_law_count" = some (.ref _) := PySem.W.mg_of X G a_cnt
  have b_cnt := F_cnt.binds (ps := ["_law_box_here", "_law_many"]) fun _ _ _ _ _ _ us hl => match us, hl with | [_, _], _ => rfl
  have F_lis := fun_mk (st := sLis) l_lis c_lis k_lis
  have g_lis : mg "_law_listed" = some (.ref _) := PySem.W.mg_of X G a_lis
  have b_lis := F_lis.binds (ps := ["_law_parts"]) fun _ _ _ _ _ _ us hl => match us, hl with | [_], _ => rfl
  have F_req := fun_mk (st := sReq) l_req c_req k_req
  have g_req : mg "_law_requirement" = some (.ref _) := PySem.W.mg_of X G a_req
  have b_req := F_req.binds (ps := ["_law_box_here", "_law_names_here"]) fun _ _ _ _ _ _ us hl => match us, hl with | [_, _], _ => rfl
  have F_rows := fun_mk (st := sRows) l_rows c_rows k_rows
  have g_rows : mg "_law_rows" = some (.ref _) := PySem.W.mg_of X G a_rows
  have b_rows := F_rows.binds (ps := ["_law_box_here", "_law_most"]) fun _ _ _ _ _ _ us hl => match us, hl with | [_, _], _ => rfl
  have F_fau := fun_mk (st := sFau) l_fau c_fau k_fau
  have g_fau : mg "_law_faulty" = some (.ref _) := PySem.W.mg_of X G a_fau
  have b_fau := F_fau.binds (ps := ["_law_box_here", "_law_rows_here"]) fun _ _ _ _ _ _ us hl => match us, hl with | [_, _], _ => rfl
  have F_stm := fun_mk (st := sLst) l_stm c_stm k_stm
  have g_stm : mg "_law_statements" = some (.ref _) := PySem.W.mg_of X G a_stm
  have b_stm := F_stm.binds (ps := ["_law_box_here", "_law_ballots", "_law_many"]) fun _ _ _ _ _ _ us hl => match us, hl with | [_, _, _], _ => rfl
  have F_fms := fun_mk (st := sFm) l_fms c_fms k_fms
  have g_fms : mg "_law_false_message" = some (.ref _) := PySem.W.mg_of X G a_fms
  have b_fms := F_fms.binds (ps := ["_law_box_here", "_law_rows_here", "_law_sender", "_law_ballots"]) fun _ _ _ _ _ _ us hl => match us, hl with | [_, _, _, _], _ => rfl
  have F_lan := fun_mk (st := sAny) l_lan c_lan k_lan
  have g_lan : mg "_law_any" = some (.ref _) := PySem.W.mg_of X G a_lan
  have b_lan := F_lan.binds (ps := ["_law_box_here"]) fun _ _ _ _ _ _ us hl => match us, hl with | [_], _ => rfl
  have F_gar := fun_mk (st := sGa) l_gar c_gar k_gar
  have g_gar : mg "_law_garbage" = some (.ref _) := PySem.W.mg_of X G a_gar
  have b_gar := F_gar.binds (ps := ["_law_box_here", "_law_rows_here"]) fun _ _ _ _ _ _ us hl => match us, hl with | [_, _], _ => rfl
  have F_knw := fun_mk (st := sKn) l_knw c_knw k_knw
  have g_knw : mg "_law_known" = some (.ref _) := PySem.W.mg_of X G a_knw
  have b_knw := F_knw.binds (ps := ["_law_network", "_law_faulty_here", "_law_events", "_law_whole"]) fun _ _ _ _ _ _ us hl => match us, hl with | [_, _, _, _], _ => rfl
  have F_law := fun_mk (st := sLaw) l_law c_law k_law
  have g_law : mg "law" = some (.ref _) := PySem.W.mg_of X G a_law
  have b_law := F_law.binds (ps := ["_law_script"]) fun _ _ _ _ _ _ us hl => match us, hl with | [_], _ => rfl
  have F_ini : FunD K "__init__" "Network.__init__" (defArgs sNi) (defBody sNi) (defScope sNi) [.ref eA] [] f_ini (PySem.W.fnOf "__init__" "Network.__init__" (defArgs sNi) (defBody sNi) (defScope sNi) (.ref dT) kV_ini dc_ini pm_ini an_ini cd_ini ct_ini) :=
    ⟨⟨_, _, _, _, _, _, _, _, _, _, rfl, l_ini, c_ini, .inr ⟨by simp, dT, _, [.ref eA], nT, rfl, y_dT, rfl, .cons rfl .nil⟩, .inl rfl⟩, k_ini⟩
  obtain ⟨ds, vds, b_ini⟩ := F_ini.binds1 (ps := ["self", "rows"]) 2 1 (by simp) rfl (fun T kV doc pm an cdv ct us its h1 h2 => match us, its, h1, h2 with | [_, _], [_], _, _ => ⟨_, rfl, rfl⟩)
  have eds : ds = [] := by
    cases vds
    rfl
  subst eds
  have TW : OneU K mg CU CE f_ui := ⟨⟨⟨⟨nm_u, q_u, N_u, bs_u, bm_u, sn_u, sub_u, ab_u, col_u, dd_u, m0_u, m1_u, m2_u, m3_u, m5_u, x_u, r_u⟩, sa_u, ex_u, ty_u, kp_u⟩, ⟨ga_u, gg_u, ex_u, hd_u⟩, PySem.W.mg_of X G ag_u, in_u, ti_u⟩, PySem.W.mg_of X G ag_e, no_u, exm_by ex_u ic_u ty_u s_uu⟩
  have TP : PorT K mg CP := ⟨⟨p_pg, p_hd, p_po, p_sa⟩, p_n0, p_n1, p_n2, PySem.W.mg_of X G ag_p⟩
  have TM : MemT K mg CM := ⟨⟨m_pg, m_hd, m_po, m_sa⟩, m_n0, m_n1, m_n2, m_n3, m_n4, m_n5, PySem.W.mg_of X G ag_m⟩
  have hAns : ∀ H : Hp, SqT K H aA (anS.map V.str) := fun H => .inr ⟨_, #[.str "commit" tE, .str "abort" tF], nA, y_ant, rfl, rfl, by show 2 ≤ sizeLine; decide, .cons ⟨_, rfl⟩ (.cons ⟨_, rfl⟩ .nil)⟩
  have F_ui := fun_mk (st := sUi) l_ui c_ui k_ui
  have b_ui := F_ui.binds (ps := ["self", "name"]) fun _ _ _ _ _ _ us hl => match us, hl with | [_, _], _ => rfl
  have F_pri := fun_mk (st := sPi) l_pri c_pri k_pri
  have b_pri := F_pri.binds (ps := ["self", "requirement"]) fun _ _ _ _ _ _ us hl => match us, hl with | [_, _], _ => rfl
  have F_mri := fun_mk (st := sMi) l_mri c_mri k_mri
  have b_mri := F_mri.binds (ps := ["self", "name", "requirement"]) fun _ _ _ _ _ _ us hl => match us, hl with | [_, _, _], _ => rfl
  have F_hv := fun_mk (st := sHv) l_hv c_hv k_hv
  have b_hv := F_hv.binds (ps := ["self", "ballot"]) fun _ _ _ _ _ _ us hl => match us, hl with | [_, _], _ => rfl
  have F_ha := fun_mk (st := sHa) l_ha c_ha k_ha
  have b_ha := F_ha.binds (ps := ["self", "ballot"]) fun _ _ _ _ _ _ us hl => match us, hl with | [_, _], _ => rfl
  have F_cv := fun_mk (st := sCv) l_cv c_cv k_cv
  have b_cv := F_cv.binds (ps := ["self", "statement"]) fun _ _ _ _ _ _ us hl => match us, hl with | [_, _], _ => rfl
  have M_hv : Meth K CM "has_voted" f_hv := ⟨a_hv, i_hv, k_hv⟩
  have M_ha : Meth K CM "has_accepted" f_ha := ⟨a_ha, i_ha, k_ha⟩
  have M_cv : Meth K CM "cast_vote" f_cv := ⟨a_cv, i_cv, k_cv⟩
  refine ⟨PySem.W.fnOf "law" "law" (defArgs sLaw) (defBody sLaw) (defScope sLaw) .none kV_law dc_law pm_law an_law cd_law ct_law, fun s v => .of_eq rfl, fun base _ _ => ?_⟩
  have G_take : FnOk l.prog w K mg base CX0 2 _ _ _ spTake := ok_take (k := 0) F_take F_mix b_mix g_mix T0.len T0.max
  have G_nam : FnOk l.prog w K mg base CX0 3 _ _ _ spNames := ok_names F_nam F_take b_take g_take G_take T0.rng
  have G_som : FnOk l.prog w K mg base CX0 3 _ _ _ spSome := ok_some F_som F_take b_take g_take G_take T0.rng T0.len T0.lst
  have G_cnt : FnOk l.prog w K mg base CX0 3 _ _ _ spCount := ok_count F_cnt F_take b_take g_take G_take T0.min
  have G_lis : FnOk l.prog w K mg base CX0 3 _ _ _ spLis := ok_lis (k := 2) F_lis T0
  have G_req : FnOk l.prog w K mg base CX0 4 _ _ _ spReq := ok_req (k := 3) F_req F_take b_take g_take (G_take.mono (by decide)) F_som b_som g_som G_som F_cnt b_cnt g_cnt G_cnt F_lis b_lis g_lis G_lis (by decide) T0
  have G_box : FnOk l.prog w K mg base CX0 1 _ _ _ (spBox K) := ok_box (k := 0) F_box
  have G_nwr : FnOk l.prog w K mg base CX0 2 _ _ _ (spNwr fun _ => True) := ok_nwr_all F_nwr b_nwr g_nwr T0
  have G_ns : FnOk l.prog w K mg base CX0 2 _ _ _ (spNs K) := ok_ns (k := 1) F_ns T0.tup T0.srt T0.set
  have G_nin : FnOk l.prog w K mg base CX0 3 _ _ _ spNin := ok_nin F_nin F_ns b_ns g_ns F_nwr b_nwr g_nwr G_ns G_nwr
  have G_isn : FnOk l.prog w K mg base CX0 1 _ _ _ (spIn K) := ok_isname (k := 0) F_isn T
  have G_ct : FnOk l.prog w K mg base CX0 2 _ _ _ spCt := ok_counted (k := 0) F_ct T F_who b_who g_who
  have G_hd : FnOk l.prog w K mg base CX0 1 _ _ _ (spHd K) := ok_dup (k := 0) F_hd T
  have G_sr : FnOk l.prog w K mg base CX0 3 _ _ _ spSr := ok_simple (k := 2) F_sr T F_ct b_ct g_ct G_ct F_isn b_isn g_isn (G_isn.mono (by decide)) F_hd b_hd g_hd (G_hd.mono (by decide))
  have G_ir : FnOk l.prog w K mg base CX0 4 _ _ _ spIr := ok_isreq (k := 3) F_ir T F_ct b_ct g_ct (G_ct.mono (by decide)) F_isn b_isn g_isn (G_isn.mono (by decide)) F_sr b_sr g_sr G_sr F_hd b_hd g_hd (G_hd.mono (by decide)) F_nwr b_nwr g_nwr (G_nwr.mono (by decide))
  have G_somP : FnOk l.prog w K mg base CX0 3 _ _ _ (spSomeP K) := ok_someP F_som F_take b_take g_take G_take T0.rng T0.len T0.lst
  have G_out : FnOk l.prog w K mg base CX0 1 _ _ _ (spOut K) := ok_out (k := 0) F_out T
  have G_rb : FnOk l.prog w K mg base CX0 5 _ _ _ (spRb K) := ok_byname (k := 4) F_rb T F_isn b_isn g_isn (G_isn.mono (by decide)) F_ir b_ir g_ir (G_ir.mono (by decide))
  have G_cu : FnOk l.prog w K mg base CX0 5 _ _ _ spCu := ok_used (k := 4) F_cu T F_nin b_nin g_nin (G_nin.mono (by decide))
  have G_ini : FnOk l.prog w K mg base CX0 6 _ _ _ (spNi K C) := ok_netinit (k := 5) F_ini T TX F_rb b_rb g_rb (G_rb.mono (by decide)) F_cu b_cu g_cu (G_cu.mono (by decide))
  have G_nn : FnOk l.prog w K mg base CX0 1 _ _ _ (spNn C) := ok_nodenames (k := 0) F_nn T TX
  have G_cn : FnOk l.prog w K mg base CX0 1 _ _ _ (spCn K C) := ok_checknodes (k := 0) F_cn T TX
  have G_ro : FnOk l.prog w K mg base CX0 2 _ _ _ (spRo C) := ok_reqof (k := 1) F_ro T TX M_cn b_cn (G_cn.mono (by decide))
  have G_fau : FnOk l.prog w K mg base CX0 4 _ _ _ spFau := ok_faulty (k := 3) F_fau F_take b_take g_take (G_take.mono (by decide)) F_som b_som g_som (G_somP.mono (by decide)) T0
  have G_rowsG : FnOk l.prog w K mg base CX0 5 _ _ _ spRowsG := ok_rowsG (k := 4) F_rows F_take b_take g_take (G_take.mono (by decide)) F_nam b_nam g_nam (G_nam.mono (by decide)) F_req b_req g_req (G_req.mono (by decide)) T0
  have G_whoG : FnOk l.prog w K mg base CX0 1 _ _ _ spWh := ok_whole (k := 0) F_who T
  have G_ba : FnOk l.prog w K mg base CX0 2 _ _ _ spBa := ok_ballot (k := 1) F_ba T (PySem.W.mg_of X G y_big) ⟨_, rfl⟩ F_isn b_isn g_isn (G_isn.mono (by decide)) F_who b_who g_who (G_whoG.mono (by decide))
  have G_ans : FnOk l.prog w K mg base CX0 1 _ _ _ spAn := ok_answer (k := 0) F_ans (PySem.W.mg_of X G y_an) hAns
  have G_msg : FnOk l.prog w K mg base CX0 1 _ _ _ spMs := ok_msg (k := 0) F_msg T
  have G_witD : FnOk l.prog w K mg base CX0 1 _ _ _ spWiD := ok_within (k := 0) F_wit T
  have G_asc : FnOk l.prog w K mg base CX0 1 _ _ _ spAs0 := ok_asc (k := 0) F_asc T
  have G_wst : FnOk l.prog w K mg base CX0 2 _ _ _ (spWs C) := ok_wset (k := 1) F_wst T TX M_nn b_nn (G_nn.mono (by decide)) F_wit b_wit g_wit (G_witD.mono (by decide)) F_asc b_asc g_asc (G_asc.mono (by decide))
  have G_wrs : FnOk l.prog w K mg base CX0 1 _ _ _ spWr := ok_wreason (k := 0) F_wrs T
  have G_ise : FnOk l.prog w K mg base CX0 3 _ _ _ (spEv C) := ok_isev (k := 2) F_ise T TX M_nn b_nn (G_nn.mono (by decide)) F_msg b_msg g_msg (G_msg.mono (by decide)) F_ba b_ba g_ba (G_ba.mono (by decide)) F_ans b_ans g_ans (G_ans.mono (by decide)) F_wrs b_wrs g_wrs (G_wrs.mono (by decide)) F_wst b_wst g_wst (G_wst.mono (by decide))
  have G_pri : FnOk l.prog w K mg base CX0 1 _ _ _ (spPi CP) := ok_pori (k := 0) F_pri TP
  have G_mri : FnOk l.prog w K mg base CX0 3 _ _ _ (spMi CM CP) := ok_memi (k := 1) F_mri TM TP ⟨p_mk, a_pri, i_pri, p_kc⟩ b_pri (G_pri.mono (by decide))
  have G_hv : FnOk l.prog w K mg base CX0 1 _ _ _ (spHv K CM CP) := ok_hasv (k := 0) F_hv T TN TM TP (PySem.W.mg_of X G y_an) hAns
  have G_ha : FnOk l.prog w K mg base CX0 1 _ _ _ (spHv K CM CP) := ok_hasa (k := 0) F_ha TM
  have G_cv : FnOk l.prog w K mg base CX0 1 _ _ _ (spCv K CM CP) := ok_cast (k := 0) F_cv TM TP
  have G_hms : FnOk l.prog w K mg base CX0 5 _ _ _ (spHm K C CM CP) := ok_hm (k := 3) F_hms T TX TM M_nn b_nn (G_nn.mono (by decide)) F_out b_out g_out (G_out.mono (by decide)) M_ro b_ro (G_ro.mono (by decide)) ⟨m_mk, a_mri, i_mri, m_kc⟩ b_mri (G_mri.mono (by decide))
  have G_pvo : FnOk l.prog w K mg base CX0 2 _ _ _ (spPv K CM CP) := ok_pvote (k := 1) F_pvo T TM M_hv b_hv (G_hv.mono (by decide)) M_ha b_ha (G_ha.mono (by decide)) M_cv b_cv (G_cv.mono (by decide))
  have G_pco : FnOk l.prog w K mg base CX0 1 _ _ _ (spPc K CM CP) := ok_pconf (k := 0) F_pco TM TP
  have G_mem : FnOk l.prog w K mg base CX0 6 _ _ _ (spMa K C) := ok_ma (k := 5) F_mem T TX F_hms b_hms g_hms (G_hms.mono (by decide)) F_ise b_ise g_ise (G_ise.mono (by decide)) F_pvo b_pvo (G_pvo.mono (by decide)) F_pco b_pco (G_pco.mono (by decide)) (PySem.W.mg_of X G y_pf) ⟨_, _, _, y_pd, y_pk, y_p1, rfl⟩ ⟨_, _, _, y_pd, y_pk, y_p2, rfl⟩
  have G_vhi : FnOk l.prog w K mg base CX0 7 _ _ _ (spVh K C) := ok_vh (k := 6) F_vhi TX M_cn b_cn (G_cn.mono (by decide)) F_mem b_mem g_mem (G_mem.mono (by decide))
  have G_yhi : FnOk l.prog w K mg base CX0 7 _ _ _ (spVh K C) := ok_yh (k := 6) F_yhi TX M_cn b_cn (G_cn.mono (by decide)) F_mem b_mem g_mem (G_mem.mono (by decide))
  have G_ui : FnOk l.prog w K mg base CX0 1 _ _ _ (spEx1 "name" CU) := ok_ui (k := 0) F_ui TW.U.oex TW.uN
  have G_cnX : FnOk l.prog w K mg base (L2.CX l.prog w) 3 _ _ _ (spCnX K C CU) := ok_cnX (k := 1) F_cn TX TW.U b_ui (G_ui.mono (by decide))
  have G_vhX : FnOk l.prog w K mg base (L2.CX l.prog w) 4 _ _ _ (spHiX K C CU) := ok_vhX (k := 3) F_vhi TX M_cn b_cn (G_cnX.mono (by decide))
  have G_yhX : FnOk l.prog w K mg base (L2.CX l.prog w) 4 _ _ _ (spHiX K C CU) := ok_yhX (k := 3) F_yhi TX M_cn b_cn (G_cnX.mono (by decide))
  have G_stm : FnOk l.prog w K mg base CX0 3 _ _ _ spLst := ok_lst (k := 2) F_stm T0 F_take b_take g_take (G_take.mono (by decide))
  have G_fms : FnOk l.prog w K mg base CX0 5 _ _ _ spFm := ok_fm (k := 4) F_fms T0 F_take b_take g_take (G_take.mono (by decide)) F_req b_req g_req (G_req.mono (by decide)) F_stm b_stm g_stm (G_stm.mono (by decide))
  have G_lan : FnOk l.prog w K mg base CX0 3 _ _ _ spAny := ok_any (k := 2) F_lan T0 F_take b_take g_take (G_take.mono (by decide))
  have G_gar : FnOk l.prog w K mg base CX0 6 _ _ _ spGa := ok_ga (k := 5) F_gar T0 F_take b_take g_take (G_take.mono (by decide)) F_fms b_fms g_fms (G_fms.mono (by decide))
  have G_knw : FnOk l.prog w K mg base CX0 5 _ _ _ (spKn K C) := ok_kn (k := 4) F_knw TW F_yhi b_yhi g_yhi (G_yhX.mono (by decide)) F_vhi b_vhi g_vhi (G_vhX.mono (by decide))
  exact ok_law (k := 6) F_law T TN TX F_box b_box g_box (G_box.mono (by decide)) F_take b_take g_take (G_take.mono (by decide)) F_rows b_rows g_rows (G_rowsG.mono (by decide)) ⟨w_mk, a_ini, i_ini, w_kc⟩ b_ini (G_ini.mono (by decide)) F_fau b_fau g_fau (G_fau.mono (by decide)) F_gar b_gar g_gar (G_gar.mono (by decide)) F_lan b_lan g_lan (G_lan.mono (by decide)) F_vhi b_vhi g_vhi (G_vhi.mono (by decide)) F_yhi b_yhi g_yhi (G_yhi.mono (by decide)) F_knw b_knw g_knw (G_knw.mono (by decide))
end Moot
open PySem PySem.W PyProof.Rows
set_option maxRecDepth 100000 in
set_option maxHeartbeats 0 in
theorem PySem.Challenge.cw_oathmoot_k53_histories_of_any_value_holds : PySem.Challenge.rw_oathmoot_k53_histories_of_any_value.Holds := by
  w_on; o_law; k_head; (case hw => w_witness2)
  k_fill
  refine L2.walk_of (l := PySem.Challenge.rw_oathmoot_k53_histories_of_any_value) (n := 63) (k := 8) (x := "_law_script") (CX := fun _ => L2.CX0) (sp := fun w => Moot.spLaw _) rfl (by decide) rfl ⟨rfl, by decide, by decide⟩ (fun w h Y => PySem.W.kIn_of Y) ?F (fun _ _ a ns hl _ hS => ⟨a, ns, rfl, hS, hl, fun _ => rfl⟩) (fun _ _ _ _ _ h => h)
  case F =>
    intro w mg fa h KX G hmg
    refine' Moot.all_mk KX G hmg ?aC ?ag_u ?x_u ?r_u ?sa_u ?ga_u ?gg_u ?ex_u ?ty_u ?kp_u ?hd_u ?ic_u ?no_u ?in_u ?ti_u ?l_ui ?c_ui ?k_ui ?ag_e ?s_uu ?ag_p ?p_pg ?p_hd ?p_po ?p_sa ?p_mk ?p_kc ?p_n0 ?p_n1 ?p_n2 ?a_pri ?i_pri ?l_pri ?c_pri ?k_pri ?ag_m ?m_pg ?m_hd ?m_po ?m_sa ?m_mk ?m_kc ?m_n0 ?m_n1 ?m_n2 ?m_n3 ?m_n4 ?m_n5 ?a_mri ?i_mri ?l_mri ?c_mri ?k_mri ?a_hv ?i_hv ?l_hv ?c_hv ?k_hv ?a_ha ?i_ha ?l_ha ?c_ha ?k_ha ?a_cv ?i_cv ?l_cv ?c_cv ?k_cv ?y_big ?y_an ?y_ant ?y_pf ?y_pd ?y_pk ?y_p1 ?y_p2 ?a_ns ?l_ns ?c_ns ?k_ns ?a_wit ?l_wit ?c_wit ?k_wit ?a_out ?l_out ?c_out ?k_out ?a_isn ?l_isn ?c_isn ?k_isn ?a_who ?l_who ?c_who ?k_who ?a_ct ?l_ct ?c_ct ?k_ct ?a_hd ?l_hd ?c_hd ?k_hd ?a_sr ?l_sr ?c_sr ?k_sr ?a_ir ?l_ir ?c_ir ?k_ir ?a_nwr ?l_nwr ?c_nwr ?k_nwr ?a_nin ?l_nin ?c_nin ?k_nin ?a_rb ?l_rb ?c_rb ?k_rb ?a_cu ?l_cu ?c_cu ?k_cu ?a_nn ?i_nn ?l_nn ?c_nn ?k_nn ?a_cn ?i_cn ?l_cn ?c_cn ?k_cn ?a_ro ?i_ro ?l_ro ?c_ro ?k_ro ?a_asc ?l_asc ?c_asc ?k_asc ?a_ba ?l_ba ?c_ba ?k_ba ?a_ans ?l_ans ?c_ans ?k_ans ?a_msg ?l_msg ?c_msg ?k_msg ?a_hms ?l_hms ?c_hms ?k_hms ?a_wst ?l_wst ?c_wst ?k_wst ?a_wrs ?l_wrs ?c_wrs ?k_wrs ?a_ise ?l_ise ?c_ise ?k_ise ?a_pvo ?l_pvo ?c_pvo ?k_pvo ?a_pco ?l_pco ?c_pco ?k_pco ?a_mem ?l_mem ?c_mem ?k_mem ?a_vhi ?l_vhi ?c_vhi ?k_vhi ?a_yhi ?l_yhi ?c_yhi ?k_yhi ?a_box ?l_box ?c_box ?k_box ?a_mix ?l_mix ?c_mix ?k_mix ?a_take ?l_take ?c_take ?k_take ?a_nam ?l_nam ?c_nam ?k_nam ?a_som ?l_som ?c_som ?k_som ?a_cnt ?l_cnt ?c_cnt ?k_cnt ?a_lis ?l_lis ?c_lis ?k_lis ?a_req ?l_req ?c_req ?k_req ?a_rows ?l_rows ?c_rows ?k_rows ?a_fau ?l_fau ?c_fau ?k_fau ?a_stm ?l_stm ?c_stm ?k_stm ?a_fms ?l_fms ?c_fms ?k_fms ?a_lan ?l_lan ?c_lan ?k_lan ?a_gar ?l_gar ?c_gar ?k_gar ?a_knw ?l_knw ?c_knw ?k_knw ?a_law ?l_law ?c_law ?k_law ?a_ini ?i_ini ?l_ini ?c_ini ?k_ini ?y_dT ?y_let ?y_lon ?y_mn ?y_md ?w_pg ?w_hd ?w_po ?w_sa ?w_mk ?w_kc ?w_nR ?z_isi ?z_str ?z_len ?z_tup ?z_lst ?z_srt ?z_set ?z_rng ?z_int ?z_bool ?z_sum ?z_min ?z_max ?z_all ?z_any ?z_dict
    (case aC => k_is)
    (case ag_u => k_is); (case x_u => k_is); (case r_u => decide +kernel); (case sa_u => k_is); (case ga_u => k_is); (case gg_u => k_is)
    (case ex_u => k_is); (case ty_u => k_is); (case kp_u => k_is); (case hd_u => k_is); (case ic_u => k_is); (case no_u => k_is)
    (case in_u => k_is); (case ti_u => k_is); (case l_ui => k_is); (case c_ui => k_is); (case k_ui => k_is); (case ag_e => k_is)
    (case s_uu => first | rfl | k_is); (case ag_p => k_is); (case p_pg => k_is); (case p_hd => k_is); (case p_po => k_is); (case p_sa => k_is)
    (case p_mk => k_is); (case p_kc => k_is); (case p_n0 => k_is); (case p_n1 => k_is); (case p_n2 => k_is); (case a_pri => k_is)
    (case i_pri => k_is); (case l_pri => k_is); (case c_pri => k_is); (case k_pri => k_is); (case ag_m => k_is); (case m_pg => k_is)
    (case m_hd => k_is); (case m_po => k_is); (case m_sa => k_is); (case m_mk => k_is); (case m_kc => k_is); (case m_n0 => k_is)
    (case m_n1 => k_is); (case m_n2 => k_is); (case m_n3 => k_is); (case m_n4 => k_is); (case m_n5 => k_is); (case a_mri => k_is)
    (case i_mri => k_is); (case l_mri => k_is); (case c_mri => k_is); (case k_mri => k_is); (case a_hv => k_is); (case i_hv => k_is)
    (case l_hv => k_is); (case c_hv => k_is); (case k_hv => k_is); (case a_ha => k_is); (case i_ha => k_is); (case l_ha => k_is)
    (case c_ha => k_is); (case k_ha => k_is); (case a_cv => k_is); (case i_cv => k_is); (case l_cv => k_is); (case c_cv => k_is)
    (case k_cv => k_is); (case y_big => k_is); (case y_an => k_is); (case y_ant => k_is); (case y_pf => k_is); (case y_pd => k_is)
    (case y_pk => k_keys)
    (case a_ns => k_is); (case l_ns => k_is); (case c_ns => k_is); (case k_ns => k_is); (case a_wit => k_is); (case l_wit => k_is); (case c_wit => k_is)
    (case k_wit => k_is); (case a_out => k_is); (case l_out => k_is); (case c_out => k_is); (case k_out => k_is); (case a_isn => k_is); (case l_isn => k_is); (case c_isn => k_is)
    (case k_isn => k_is); (case a_who => k_is); (case l_who => k_is); (case c_who => k_is); (case k_who => k_is); (case a_ct => k_is); (case l_ct => k_is); (case c_ct => k_is)
    (case k_ct => k_is); (case a_hd => k_is); (case l_hd => k_is); (case c_hd => k_is); (case k_hd => k_is); (case a_sr => k_is); (case l_sr => k_is); (case c_sr => k_is)
    (case k_sr => k_is); (case a_ir => k_is); (case l_ir => k_is); (case c_ir => k_is); (case k_ir => k_is); (case a_nwr => k_is); (case l_nwr => k_is); (case c_nwr => k_is)
    (case k_nwr => k_is); (case a_nin => k_is); (case l_nin => k_is); (case c_nin => k_is); (case k_nin => k_is); (case a_rb => k_is); (case l_rb => k_is); (case c_rb => k_is)
    (case k_rb => k_is); (case a_cu => k_is); (case l_cu => k_is); (case c_cu => k_is); (case k_cu => k_is); (case a_nn => k_is); (case i_nn => k_is); (case l_nn => k_is)
    (case c_nn => k_is); (case k_nn => k_is); (case a_cn => k_is); (case i_cn => k_is); (case l_cn => k_is); (case c_cn => k_is); (case k_cn => k_is); (case a_ro => k_is)
    (case i_ro => k_is); (case l_ro => k_is); (case c_ro => k_is); (case k_ro => k_is); (case a_asc => k_is); (case l_asc => k_is); (case c_asc => k_is); (case k_asc => k_is)
    (case a_ba => k_is); (case l_ba => k_is); (case c_ba => k_is); (case k_ba => k_is); (case a_ans => k_is); (case l_ans => k_is); (case c_ans => k_is); (case k_ans => k_is)
    (case a_msg => k_is); (case l_msg => k_is); (case c_msg => k_is); (case k_msg => k_is); (case a_hms => k_is); (case l_hms => k_is); (case c_hms => k_is); (case k_hms => k_is)
    (case a_wst => k_is); (case l_wst => k_is); (case c_wst => k_is); (case k_wst => k_is); (case a_wrs => k_is); (case l_wrs => k_is); (case c_wrs => k_is); (case k_wrs => k_is)
    (case a_ise => k_is); (case l_ise => k_is); (case c_ise => k_is); (case k_ise => k_is); (case a_pvo => k_is); (case l_pvo => k_is); (case c_pvo => k_is); (case k_pvo => k_is)
    (case a_pco => k_is); (case l_pco => k_is); (case c_pco => k_is); (case k_pco => k_is); (case a_mem => k_is); (case l_mem => k_is); (case c_mem => k_is); (case k_mem => k_is)
    (case a_vhi => k_is); (case l_vhi => k_is); (case c_vhi => k_is); (case k_vhi => k_is); (case a_yhi => k_is); (case l_yhi => k_is); (case c_yhi => k_is); (case k_yhi => k_is)
    (case a_box => k_is); (case l_box => k_is); (case c_box => k_is); (case k_box => k_is); (case a_mix => k_is); (case l_mix => k_is); (case c_mix => k_is); (case k_mix => k_is)
    (case a_take => k_is); (case l_take => k_is); (case c_take => k_is); (case k_take => k_is); (case a_nam => k_is); (case l_nam => k_is); (case c_nam => k_is); (case k_nam => k_is)
    (case a_som => k_is); (case l_som => k_is); (case c_som => k_is); (case k_som => k_is); (case a_cnt => k_is); (case l_cnt => k_is); (case c_cnt => k_is); (case k_cnt => k_is)
    (case a_lis => k_is); (case l_lis => k_is); (case c_lis => k_is); (case k_lis => k_is); (case a_req => k_is); (case l_req => k_is); (case c_req => k_is); (case k_req => k_is)
    (case a_rows => k_is); (case l_rows => k_is); (case c_rows => k_is); (case k_rows => k_is); (case a_fau => k_is); (case l_fau => k_is); (case c_fau => k_is); (case k_fau => k_is)
    (case a_stm => k_is); (case l_stm => k_is); (case c_stm => k_is); (case k_stm => k_is); (case a_fms => k_is); (case l_fms => k_is); (case c_fms => k_is); (case k_fms => k_is)
    (case a_lan => k_is); (case l_lan => k_is); (case c_lan => k_is); (case k_lan => k_is); (case a_gar => k_is); (case l_gar => k_is); (case c_gar => k_is); (case k_gar => k_is)
    (case a_knw => k_is); (case l_knw => k_is); (case c_knw => k_is); (case k_knw => k_is); (case a_law => k_is); (case l_law => k_is); (case c_law => k_is); (case k_law => k_is)
    (case a_ini => k_is); (case i_ini => k_is); (case l_ini => k_is); (case c_ini => k_is); (case k_ini => k_is); (case y_dT => k_is); (case y_let => k_is); (case y_lon => k_is)
    (case y_mn => k_is); (case y_md => k_is); (case w_pg => k_is); (case w_hd => k_is); (case w_po => k_is); (case w_sa => k_is); (case w_mk => k_is); (case w_kc => k_is)
    (case w_nR => k_is); (case z_isi => k_is); (case z_str => k_is); (case z_len => k_is); (case z_tup => k_is); (case z_lst => k_is); (case z_srt => k_is); (case z_set => k_is)
    (case z_rng => k_is); (case z_int => k_is); (case z_bool => k_is); (case z_sum => k_is); (case z_min => k_is); (case z_max => k_is); (case z_all => k_is); (case z_any => k_is)
    (case z_dict => k_is)
    (case y_p1 => k_is); (case y_p2 => k_is)
