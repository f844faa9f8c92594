import PyProof.Rows.All
import Wide.All
import OpenK.AllK
import Wide.FinOn
import HandS.ForMost
import HandS.Deep
import HandS.More
import HandS.IsInst
import HandS.Flow
import PyProof.ToksMono
import HandS.Replace
import PyProof.Rows.SetFrom
import HandS.List
import HandS.Set
import PyProof.SetRoads
import HandS.TupSets
import KE.KeyNested
import HandS.Codes
import HandS.Walk
import PyProof.TupleOfGen
import HandS.DictComp
import HandS.Conv
import HandS.Defaults
import HandS.Star
import HandS.ListItems
import HandS.DictTup
import KE.KDictExact
import KE.KDictList
import HandS.Dict
import HandS.TryOnly
import HandS.OwnEq
import HandS.DeepEq
import HandS.Words
import PyProof.Methods
import HandS.Exc
import HandS.TryMany
import HandS.ExcInit
import HandS.ExcField
import HandS.ExcIs
import HandS.WordsExc
import PyProof.P3Eq
import KE.KRevSl
import KE.SortData
import HandS.SortRule
import HandS.TupAny
import HandS.EndTab
import PySem.Challenge.RW_oathmoot_k06_networks_made
set_option Elab.async false
set_option linter.unusedVariables false
set_option maxRecDepth 100000
set_option maxHeartbeats 8000000
/-! Lists and tuples whose texts are known to bear a token. -/
namespace Moot
open PySem PySem.Spec PyProof.Rows L2
/-- a text with a token, or no text -/
def GdV : Value → Prop
  | .str _ t => t ≠ 0
  | _ => True
def GdS (us : List Value) : Prop := ∀ u ∈ us, GdV u
theorem GdS.append {us vs : List Value} (a : GdS us) (b : GdS vs) : GdS (us ++ vs) := fun u m => (List.mem_append.mp m).elim (a u) (b u)
theorem GdS.one {u : Value} (h : GdV u) : GdS [u] := fun v m => by
  rw [List.mem_singleton.mp m]
  exact h
theorem GdS.take {us : List Value} (a : GdS us) (n : Nat) : GdS (us.take n) := fun u m => a u (List.mem_of_mem_take m)
theorem GdS.drop {us : List Value} (a : GdS us) (n : Nat) : GdS (us.drop n) := fun u m => a u (List.mem_of_mem_drop m)
theorem GdS.erase {us : List Value} (a : GdS us) (n : Nat) : GdS (us.eraseIdx n) := fun u m => a u (List.mem_of_mem_eraseIdx m)
/-- no text at all -/
theorem gd_refs : ∀ {xs : List V} {us : List Value}, Vals xs us → (∀ x ∈ xs, ∃ a, x = V.ref a) → GdS us
  | _, _, .nil, _ => fun u m => by cases m
  | _, _, .cons r t, h => fun u m => by
    rcases List.mem_cons.mp m with e | m
    · obtain ⟨a, rfl⟩ := h _ List.mem_cons_self
      cases r
      rw [e]
      trivial
    · exact gd_refs t (fun x mx => h x (List.mem_cons_of_mem _ mx)) u m
/-- the list's object, its items xs, each text with a token -/
def GdL (o : Obj) (xs : List V) : Prop := ∃ (its : List Value) (n : Nat), o = { cls := .type "list", data := .seq its.toArray n } ∧ Vals xs its ∧ GdS its
/-- the tuple's object -/
def GdT (o : Obj) (xs : List V) : Prop := ∃ (its : List Value) (n : Nat), o.cls = .type "tuple" ∧ o.data = .seq its.toArray n ∧ Vals xs its ∧ GdS its
/-- a list known so -/
def GLs (H : Hp) (l : Addr) (xs : List V) : Prop := ∃ o, GdL o xs ∧ H l = some (.frz o (.lst xs))
def GTp (H : Hp) (l : Addr) (xs : List V) : Prop := ∃ o, GdT o xs ∧ H l = some (.frz o (.tup xs))
theorem GLs.seq {K : PySem.W.Frag} {H : Hp} {l : Addr} {xs : List V} (h : GLs H l xs) : SqL K H l xs := let ⟨o, _, e⟩ := h; .inl (.inr ⟨o, e⟩)
theorem GTp.seq {K : PySem.W.Frag} {H : Hp} {l : Addr} {xs : List V} (h : GTp H l xs) : SqT K H l xs := let ⟨o, _, e⟩ := h; .inl (.inr ⟨o, e⟩)
/-- it was not locked when the def began -/
def Nf (X : Cx) (l : Addr) : Prop := ∀ o u, X.H_0 l ≠ some (.frz o u)
section
variable {X : Cx} {pins : List (Addr × Obj)} {σ : List (Option V)} {H : Hp} {s : Shared} {l : Addr} {xs ys : List V}
/-- a list is told of in another way -/
theorem inv_recast {A B : HO} (I : Inv X pins σ H s) (h : H l = some A) (hA : (∃ xs, A = .lst xs) ∨ ∃ o xs, A = .frz o (.lst xs)) (nf : Nf X l) (new : ObjOk X.prog X.w (upd H l B) s.heap l B) : Inv X pins σ (upd H l B) s := by
  have nt : ∀ b ys, H b = some (.tup ys) → b ≠ l := fun b ys e z => by
    rw [z, h] at e
    rcases hA with ⟨_, rfl⟩ | ⟨_, _, rfl⟩ <;> cases e
  have no : ∀ b y, H b = some (.own y) → b ≠ l := fun b y e z => by
    rw [z, h] at e
    rcases hA with ⟨_, rfl⟩ | ⟨_, _, rfl⟩ <;> cases e
  have nb : ∀ b ps, H b = some (.tbl ps) → b ≠ l := fun b ps e z => by
    rw [z, h] at e
    rcases hA with ⟨_, rfl⟩ | ⟨_, _, rfl⟩ <;> cases e
  have nn : ∀ b, H b = none → b ≠ l := fun b e z => by
    rw [z, h] at e
    cases e
  have hok : HOk X.prog X.w (upd H l B) s.heap := fun b u q => by
    by_cases e : b = l
    · subst e
      rw [upd_same] at q
      cases q
      exact new
    · rw [upd_ne e] at q
      exact (I.hok b u q).stay (fun _ _ _ r => r) (fun c r => by rw [upd_ne (no c b r)]; exact r) fun c zs r => by rw [upd_ne (nt c zs r)]; exact r
  have base : Un X.fs X.ex X.H_0 (upd H l B) X.s_0.heap s.heap := ⟨I.base.keep, I.base.slot, fun b o e n hx => by
      have z := I.base.free b o e n hx
      rw [upd_ne (nn b z)]
      exact z, I.base.there, fun b zs e => by
      have z := I.base.tups b zs e
      rw [upd_ne (nt b zs z)]
      exact z, fun b o u e => by
      by_cases q : b = l
      · subst q
        exact absurd e (nf o u)
      · rw [upd_ne q]
        exact I.base.frzs b o u e, fun b ps e => by
      obtain ⟨more, z⟩ := I.base.tbls b ps e
      exact ⟨more, by rw [upd_ne (nb b _ z)]; exact z⟩⟩
  exact ⟨I.ok, I.os, I.bare, base, I.loc, I.cell, by rw [upd_ne (nn _ I.free)]; exact I.free, fun x c e => by rw [upd_ne (nn _ (I.freeC x c e))]; exact I.freeC x c e,
    fun p hp => let ⟨a, b, c⟩ := I.pin p hp; ⟨a, by rw [upd_ne (nn _ b)]; exact b, c⟩, hok, I.len⟩
theorem inv_melt {o : Obj} (I : Inv X pins σ H s) (h : H l = some (.frz o (.lst xs))) (nf : Nf X l) : Inv X pins σ (upd H l (.lst xs)) s := by
  obtain ⟨_, z, its, n, r, e⟩ := I.hok l _ h
  exact inv_recast I h (.inr ⟨_, _, rfl⟩) nf ⟨z, its, n, r, e⟩
theorem inv_lock {o : Obj} (I : Inv X pins σ H s) (h : H l = some (.lst xs)) (nf : Nf X l) (e : s.heap.get? l = some o) : Inv X pins σ (upd H l (.frz o (.lst xs))) s := by
  obtain ⟨z, its, n, r, e'⟩ := I.hok l _ h
  exact inv_recast I h (.inl ⟨_, rfl⟩) nf ⟨e, z, its, n, r, e'⟩
/-- a known list is rewritten -/
theorem inv_reset {o : Obj} {its its' : List Value} {n : Nat} {f : Array Value → Array Value} {t' : Nat} (I : Inv X pins σ H s) (h : H l = some (.frz o (.lst xs))) (nf : Nf X l)
    (e : s.heap.get? l = some { cls := .type "list", data := .seq its.toArray n }) (hf : f its.toArray = its'.toArray) (hv : Vals ys its') (hz : ys.length ≤ sizeLine) (g : GdS its') :
    ∃ o', GdL o' ys ∧ Inv X pins σ (upd H l (.frz o' (.lst ys))) { s with heap := s.heap.update l (Obj.mapSeq f), toks := t' } := by
  have I1 := inv_melt I h nf
  have I2 := I1.lset (t' := t') upd_same e hf hv hz
  have q := PySem.IsL.update e f
  rw [hf] at q
  have I3 := inv_lock I2 upd_same nf q
  rw [upd_upd, upd_upd] at I3
  exact ⟨_, ⟨its', _, rfl, hv, g⟩, I3⟩
/-- xs.insert(i, y), y no text, into a known list -/
theorem mt_insertG : MtR X "list.insert" (fun x vs H Q => ∃ (l : Addr) (xs : List V) (i : Int) (a : Addr), x = .ref l ∧ vs = [.int i, .ref a] ∧ GLs H l xs ∧ Nf X l ∧ xs.length < sizeLine ∧ 0 ≤ i ∧ i < 2 ^ 63 ∧
    ∀ o', GdL o' (xs.take i.toNat ++ [.ref a] ++ xs.drop i.toNat) → Q .non (upd H l (.frz o' (.lst (xs.take i.toNat ++ [.ref a] ++ xs.drop i.toNat))))) := by
  intro pins s σ H x vs v us Q I rx rv h
  obtain ⟨l, xs, i, a, rfl, rfl, ⟨o, ⟨its, n, rfl, r, g⟩, hH⟩, nf, hz, h0, h1, q⟩ := h
  cases rx
  obtain ⟨u1, u2, rfl, r1, r2⟩ := rv.two
  obtain ⟨t, rfl⟩ := r1
  cases r2
  have e := (I.hok l _ hH).1
  have hl := r.length
  refine call_meets F.slot_list_insert ⟨_, e, rfl⟩ F.entry_list_insert (F.args_list_insert_3 _ _ _) (AutoSeq1.list_insert_list_int_val_1 l its.toArray n i t (.ref a) (by simp [fitsIndex_of h0 h1]) (by rw [List.size_toArray]; omega)) ⟨e, ?_⟩
  have rel : Vals (xs.take i.toNat ++ [.ref a] ++ xs.drop i.toNat) (its.take i.toNat ++ [.ref a] ++ its.drop i.toNat) := ((r.take i.toNat).append (Paired.cons (show RelV (.ref a) (.ref a) from rfl) .nil)).append (r.drop i.toNat)
  have gd : GdS (its.take i.toNat ++ [.ref a] ++ its.drop i.toNat) := ((g.take _).append (GdS.one (u := .ref a) trivial)).append (g.drop _)
  have z : (xs.take i.toNat ++ [V.ref a] ++ xs.drop i.toNat).length ≤ sizeLine := by
    rw [List.length_append, List.length_append, List.length_take, List.length_drop, List.length_singleton]
    omega
  have hf : (fun xs : Array Value => have k := if i < 0 then (i + (xs.size : Int)).toNat else min i.toNat xs.size; (xs.extract 0 k).push (.ref a) ++ xs.extract k) its.toArray = (its.take i.toNat ++ [Value.ref a] ++ its.drop i.toNat).toArray := by
    dsimp only
    rw [PySem.W.kl_ins_eq, if_neg (by omega), List.size_toArray, PySem.W.kmk_take_min, PySem.W.kmk_drop_min, List.append_assoc]
    rfl
  obtain ⟨o', g', I'⟩ := inv_reset (f := fun xs : Array Value => have k := if i < 0 then (i + (xs.size : Int)).toNat else min i.toNat xs.size; (xs.extract 0 k).push (.ref a) ++ xs.extract k) (t' := s.toks) I hH nf e hf rel z gd
  exact ⟨.non, _, I', rfl, q _ g'⟩
/-- list(xs) of a known list is a known list -/
theorem call_listG : CallR X (.type "list") (fun xs H Q => ∃ p ys, xs = [.ref p] ∧ GLs H p ys ∧ ∀ l o, H l = none → GdL o ys → Q (.ref l) (upd H l (.frz o (.lst ys)))) := by
  intro pins s σ H xs us Q I r h
  obtain ⟨p, ys, rfl, ⟨o, ⟨its, n, rfl, r', g⟩, hH⟩, q⟩ := h
  obtain ⟨u, rfl, rx⟩ := vals1 r
  cases rx
  obtain ⟨e, hz, _⟩ := I.hok p _ hH
  have hlen := r'.length
  refine call_list_seq p (.inl rfl) e rfl rfl (fun h' c' kp e' => ?_) (by simp only [List.size_toArray] <;> omega)
  refine ⟨.ref s.heap.objs.size, _, I.laid (t' := s.toks) kp (Nat.le_refl _) (show ObjOk X.prog X.w _ h' _ (.frz _ (.lst ys)) from ⟨e', hz, its, c', r', e'⟩), rfl, q _ _ (I.hok.fresh (Nat.le_refl _)) ⟨its, c', rfl, r', g⟩⟩
/-- tuple(xs) of a known list, or of a list without texts, is a known tuple -/
theorem call_tupleG : CallR X (.type "tuple") (fun xs H Q => ∃ p ys, xs = [.ref p] ∧ (GLs H p ys ∨ (SqL X.K H p ys ∧ ∀ x ∈ ys, ∃ a, x = V.ref a)) ∧ ∀ l o, H l = none → GdT o ys → Q (.ref l) (upd H l (.frz o (.tup ys)))) := by
  intro pins s σ H xs us Q I r h
  obtain ⟨p, ys, rfl, hq, q⟩ := h
  obtain ⟨u, rfl, rx⟩ := vals1 r
  cases rx
  have key : ∃ its : List Value, Vals ys its ∧ GdS its ∧ s.heap.IsList p its.toArray ∧ ys.length ≤ sizeLine := by
    rcases hq with ⟨o, ⟨its, n, rfl, r', g⟩, hH⟩ | ⟨hq, refs⟩
    · obtain ⟨e, hz, _⟩ := I.hok p _ hH
      exact ⟨its, r', g, ⟨_, e, rfl, n, rfl⟩, hz⟩
    · obtain ⟨its, r', pl, hz⟩ := I.list hq
      exact ⟨its, r', gd_refs r' refs, pl.isList, hz⟩
  obtain ⟨its, r', g, il, hz⟩ := key
  have hlen := r'.length
  refine call_tuple_list il (fun h' kp => ?_) (by simp only [List.size_toArray] <;> omega)
  have I1 : Inv X pins σ H { s with heap := h' } := I.kept (t' := s.toks) kp
  have I2 : Inv X pins σ (upd H h'.objs.size (.frz { cls := .type "tuple", data := .seq its.toArray } (.tup ys))) { s with heap := h'.push { cls := .type "tuple", data := .seq its.toArray } } :=
    I1.laid (t' := s.toks) (fun b o e => Heap.get?_push_of_some _ e) (Nat.le_refl _) (show ObjOk X.prog X.w _ _ _ (.frz _ (.tup ys)) from ⟨Heap.get?_push_size _ rfl, hz, its, r', IsTup.new _ _⟩)
  exact ⟨.ref h'.objs.size, _, I2, rfl, q _ _ (I1.hok.fresh (Nat.le_refl _)) ⟨its, 0, rfl, rfl, r', g⟩⟩
end
end Moot
/-! Expressions whose texts bear tokens; comprehensions that keep them. -/
namespace Moot
open PySem PySem.Spec PyProof.Rows L2
theorem thnT {α : Type} {M : Model} {A : Around} {c : Sem α} {Q R : α → Shared → Prop} {E : Value → Shared → Prop} {s : Shared} (h : wpAny M A c Q E s) (f : ∀ a s', s.toks ≤ s'.toks → Q a s' → R a s') : wpAny M A c R E s :=
  wpAny_mono (PySem.wpAny_toks h) (fun a s' z => f a s' z.1 z.2) fun _ _ z => z.2
/-- what comes of an expression, a text bearing a token -/
def GP (X : Cx) (pins : List (Addr × Obj)) (σ : L2.St) (Q : VK) (u : Value) (s' : Shared) : Prop := ∃ v H', Inv X pins σ H' s' ∧ RelV v u ∧ GdV u ∧ Q v H'
structure PEK (n : Nat) (X : Cx) (e : Expr) (t : TE) : Prop where
  run : ∀ (pins : List (Addr × Obj)) (s : Shared) (σ : L2.St) (H : Hp) (Q : VK), n ≤ s.toks → Inv X pins σ H s → t σ H Q → wpAny (model X.prog X.w) X.A (eval e X.env) (GP X pins σ Q) X.xe s
section
variable {X : Cx}
/-- a sign of a text -/
theorem pek_ixStr {a b : Expr} {ta tb : TE} {pos : Pos} (ha : PE X a ta) (hb : PE X b tb) (hs : PlainIx b) : PEK 1 X (.Subscript a b pos) (tOp rIxS ta tb) := by
  refine ⟨fun pins s σ H Q k0 I h => Subscript_ (thnT (ha.run pins s σ H _ I h) fun v s1 k1 ⟨x, H1, I1, r1, q1⟩ => thnT (hb.run pins s1 σ H1 _ I1 q1) fun u s2 k2 ⟨y, H2, I2, r2, q2⟩ => ?_)⟩
  obtain ⟨z, i, c, rfl, rfl, hz, he, q⟩ := q2
  obtain ⟨t, rfl⟩ := r1
  obtain ⟨t', rfl⟩ := r2
  obtain ⟨j, h1, h2, h3, h4, h5⟩ := atI_get he
  have hl : z.cps.toList.length = z.length := by simp [Str.length]
  rw [hl] at h1 h4 h5
  have hn := line63
  have lo : decide (i < -(2 ^ 63 : Int)) = false := decide_eq_false (by omega)
  have hi : decide (i ≥ 2 ^ 63) = false := decide_eq_false (by omega)
  refine tail_any (typeIs_str s2 z t) slot_str_getitem.lookup (getItem_str (c := c) (by rw [lo, hi]; rfl) (by rw [h1]; simpa using h2) ?_) (hs _ _)
  exact ⟨.str ⟨#[c]⟩, H2, I2.tok _, ⟨_, rfl⟩, (show s2.toks ≠ 0 by omega), q⟩
/-- xs.pop(i) of a known list -/
theorem pek_popG {nn : Nat} {o e : Expr} {to : TE} {t : TA} {apos cpos : Pos} (ho : PE X o to) (ha : PA X [e] t) (hbase : attributeBase o "pop" X.env (eval o X.env) = eval o X.env := by rfl)
    (hfew : ((backTo cpos (starEach [e] X.env)).all (fun x => !x.1) && (backToKw cpos (keywordEach [] X.env)).all (fun x => x.1.isSome) && decide ([e].length + ([] : List Keyword).length + (if ([] : List Keyword).isEmpty then 0 else 1) < 30)) = true := by rfl)
    (hline : (apos.endLine == cpos.line) = true := by rfl) (hs : starEach [e] X.env = [(false, eval e X.env)] := by rfl) :
    PEK nn X (.Call (.Attribute o "pop" apos) [e] [] cpos) (fun σ H Q => to σ H fun x H1 => tyV X.K "list" x H1 ∧ t σ H1 fun vs H2 => ∃ l xs i k y, x = .ref l ∧ vs = [.int i] ∧ GLs H2 l xs ∧ Nf X l ∧ -(2 ^ 63) ≤ i ∧ i < 2 ^ 63 ∧ seqIndex? i xs.length = some k ∧ xs[k]? = some y ∧
      ∀ o', GdL o' (xs.eraseIdx k) → Q y (upd H2 l (.frz o' (.lst (xs.eraseIdx k))))) := by
  refine ⟨fun pins s σ H Q k0 I h => ?_⟩
  refine wpAny_Call_method_late hbase hfew hline rfl (thn (ho.run pins s σ H _ I h) fun v s1 ⟨x, H1, I1, r1, ty, q1⟩ => ?_)
  obtain ⟨h1, h2⟩ := tyV_is I1 r1 ty
  refine ⟨"list", "list.pop", F.plainAttrs_list, F.slot_list_pop, F.type_list_pop, h1, h2, ?_⟩
  have hA := ha.run cpos pins s1 σ H1 _ I1 q1
  rw [hs] at hA ⊢
  refine Calls.callWith_builtin rfl (Calls.evalArgs_plain (thn hA fun us s2 ⟨vs, H2, I2, r2, q2⟩ => ?_))
  obtain ⟨l, xs, i, k, y, rfl, rfl, ⟨ob, ⟨its, n, rfl, r, g⟩, hH⟩, nf, b1, b2, hk, hy, q⟩ := q2
  cases r1
  obtain ⟨u, rfl, ru⟩ := r2.one
  obtain ⟨tk, rfl⟩ := ru
  obtain ⟨hget, hz, _⟩ := I2.hok l _ hH
  have hl := r.length
  obtain ⟨uy, hw, ry⟩ := r.get hy
  refine call_meets F.slot_list_pop ⟨_, hget, rfl⟩ F.entry_list_pop (F.args_list_pop_2 _ _)
    (MeetsSeq.list_pop_at l its.toArray n i tk k uy (fitsIndex_both b1 b2) (by rw [List.size_toArray, ← hl]; exact hk) (by rw [← Array.getElem?_toList]; exact hw) (by rw [List.size_toArray]; omega)) ⟨hget, ?_⟩
  have hf : its.toArray.eraseIdxIfInBounds k = (its.eraseIdx k).toArray := by rw [List.eraseIdxIfInBounds_toArray]
  obtain ⟨o', g', I'⟩ := inv_reset (f := fun a : Array Value => a.eraseIdxIfInBounds k) (t' := s2.toks) I2 hH nf hget hf (r.eraseIdx k) (by have := len_erase xs k; omega) (g.erase k)
  exact ⟨y, _, I', ry, g uy (List.mem_of_getElem? hw), q _ g'⟩
/-- sep.join(xs) of a known list of texts -/
theorem pek_join {x : Str} {a : Expr} {ta : TE} {j : Nat} {c1 apos cpos : Pos} (ha : PEK 1 X a ta) (hbase : attributeBase (.Constant (.str x) j c1) "join" X.env (eval (.Constant (.str x) j c1) X.env) = eval (.Constant (.str x) j c1) X.env := by rfl)
    (hfew : ((backTo cpos (starEach [a] X.env)).all (fun x => !x.1) && (backToKw cpos (keywordEach [] X.env)).all (fun x => x.1.isSome) && decide ([a].length + ([] : List Keyword).length + (if ([] : List Keyword).isEmpty then 0 else 1) < 30)) = true := by rfl)
    (hline : (apos.endLine == cpos.line) = true := by rfl) (hs : starEach [a] X.env = [(false, eval a X.env)] := by rfl) {pins : List (Addr × Obj)} {s : Shared} {σ : L2.St} {H : Hp} {Q : VK} (I : Inv X pins σ H s)
    (h : ta σ H fun v H1 => ∃ p ys, v = .ref p ∧ GLs H1 p (ys.map V.str) ∧ (ys.map (·.length)).sum + ys.length * x.length ≤ 16777216 ∧ Q (.str (Txt.join x ys)) H1) :
    wpAny (model X.prog X.w) X.A (eval (.Call (.Attribute (.Constant (.str x) j c1) "join" apos) [a] [] cpos) X.env) (fun u s' => 1 ≤ s'.toks ∧ GP X pins σ Q u s') X.xe s := by
  refine wpAny_Call_method_late hbase hfew hline rfl (Calls.Constant_str ?_)
  refine ⟨"str", "str.join", F.plainAttrs_str, F.slot_str_join, F.type_str_join, typeIs_str _ _ _, (fun _ e => nomatch e), ?_⟩
  rw [hs]
  refine Calls.callWith_builtin rfl (Calls.evalArgs_plain ?_)
  show wpAny _ _ (spliced ((false, eval a X.env) :: [])) _ _ _
  refine Calls.spliced_cons (thnT (ha.run pins _ σ H _ (show 1 ≤ s.toks + 1 by omega) (I.tok (s.toks + 1)) h) fun v s1 k1 ⟨y, H1, I1, r1, _, q1⟩ => Calls.spliced_nil ?_)
  have k1 : s.toks + 1 ≤ s1.toks := k1
  obtain ⟨p, ys, rfl, ⟨o, ⟨its, n, rfl, rv, g⟩, hH⟩, hz, q⟩ := q1
  cases r1
  obtain ⟨hget, _⟩ := I1.hok p _ hH
  obtain ⟨l, hv, ht⟩ := strsAre_values (strs_of_vals rv)
  subst hv
  subst ht
  have hok := joinOk_of (sep := x) hz
  unfold JoinOk at hok
  rw [Bool.not_eq_true'] at hok
  have fin : ∀ t k, t ≠ 0 → 1 ≤ k → (1 ≤ ({ s1 with toks := k } : Shared).toks ∧ GP X pins σ Q (.str (Txt.join x (l.map (·.1))) t) { s1 with toks := k }) := fun t k h1 h2 => ⟨h2, .str (Txt.join x (l.map (·.1))), H1, I1.tok k, ⟨t, rfl⟩, h1, q⟩
  refine call_meets F.slot_str_join (typeIs_str _ _ _) F.entry_str_join (F.args_str_join_2 _ _) (meets_str_join_list x _ p l hok) ⟨⟨_, hget, rfl, n, rfl⟩, ?_⟩
  have len := joinFit_length hok
  match l, len, fin, g with
  | [], len, fin, g => exact ⟨len, fin _ _ (show s1.toks ≠ 0 by omega) (show 1 ≤ s1.toks + 1 by omega)⟩
  | [p], len, fin, g => exact fin p.2 s1.toks (g (.str p.1 p.2) List.mem_cons_self) (by omega)
  | _ :: _ :: _, len, fin, g => exact ⟨len, fin _ _ (show s1.toks ≠ 0 by omega) (show 1 ≤ s1.toks + 1 by omega)⟩
end
end Moot
/-! A list comprehension whose new list is known to the object, its texts bearing tokens. -/
namespace Moot
open PySem PySem.Spec PyProof.Rows L2
/-- a walk whose items are of a kind besides -/
def ItemG (P : Program) (w : World) (K : PySem.W.Frag) (tg : Expr) (J : It) (fp : List Addr) (it : Addr) (tn : Nat → Heap → Prop) (nn : Nat) (GU : Value → Prop) : Prop :=
  ∀ (Y : Cx), Y.prog = P → Y.w = w → Y.K = K → Y.calm = true → ∀ (i : Nat) (pins : List (Addr × Obj)) (s : Shared) (σ : L2.St) (H : Hp) (E : Value → Shared → Prop), nn ≤ s.toks → Inv Y pins σ H s → (∀ b ∈ fp, FpOk Y pins H b) → tn i s.heap → J.go i H →
    wpAny (model P w) Y.A (pyNext (.ref it)) (fun r s1 => ∃ u, r = some u ∧
      wpAny (model P w) Y.A (letOwnedTupleGo tg (.ref it) u) (fun _ s2 => ∃ x H', Inv Y pins σ H' s2 ∧ RelV x u ∧ GU u ∧ J.yld i H x H' ∧ tn (i + 1) s2.heap ∧ ∀ b ∈ fp, H' b = none) E s1) E s
def PIEG (X : Cx) (pins : List (Addr × Obj)) (σ : L2.St) (tg : Expr) (nn : Nat) (GU : Value → Prop) (R : It → Hp → Prop) (itv : Value) (s2 : Shared) : Prop :=
  ∃ (it : Addr) (fp : List Addr) (tn : Nat → Heap → Prop) (J : It) (H' : Hp), itv = .ref it ∧ Inv X pins σ H' s2 ∧ Turn X.prog X.w X.K tg J fp it tn ∧ ItemG X.prog X.w X.K tg J fp it tn nn GU ∧ tn 0 s2.heap ∧ (∀ b ∈ fp, FpOk X pins H' b) ∧ R J H'
structure PIG (nn : Nat) (X : Cx) (tg iter : Expr) (GU : Value → Prop) (wi : TI) : Prop where
  run : ∀ (pins : List (Addr × Obj)) (s : Shared) (σ : L2.St) (H : Hp) (R : It → Hp → Prop), Inv X pins σ H s → wi σ H R →
    wpAny (model X.prog X.w) X.A (eval iter X.env) (fun v s1 => wpAny (model X.prog X.w) X.A (pyIter v) (PIEG X pins σ tg nn GU R) X.xe s1) X.xe s
theorem pig_of {nn : Nat} {X : Cx} {tg iter : Expr} {wi : TI} (h : PI X tg iter wi) : PIG nn X tg iter (fun _ => True) wi := by
  refine ⟨fun pins s σ H R I q => thn (h.run pins s σ H R I q) fun v s1 h1 => thn h1 fun itv s2 h2 => ?_⟩
  obtain ⟨it, fp, tn, J, H', e, I', T, st, fo, r⟩ := h2
  refine ⟨it, fp, tn, J, H', e, I', T, ?_, st, fo, r⟩
  intro Y e1 e2 e3 hc i pins s σ H E _ I f t g
  exact thn (T.item Y e1 e2 e3 hc i pins s σ H E I f t g) fun r s1 ⟨u, hu, z⟩ => ⟨u, hu, thn z fun _ s2 ⟨x, H', a, b, c, d, e⟩ => ⟨x, H', a, b, trivial, c, d, e⟩⟩
theorem wipe_in {σ : L2.St} {i : Nat} (hi : i < σ.length) : ∀ {vs : List Nat}, i ∈ vs → (wipe σ vs)[i]? = some none
  | [], h => by cases h
  | v :: vs, h => by
    unfold wipe
    by_cases e : v = i
    · subst e
      rw [List.getElem?_set_self (by rw [wipe_length]; exact hi)]
    · rw [List.getElem?_set_ne e]
      exact wipe_in hi ((List.mem_cons.mp h).resolve_left fun z => e z.symm)
theorem wipe_twice (σ : L2.St) (vs : List Nat) : wipe (wipe σ vs) vs = wipe σ vs := by
  refine List.ext_getElem? fun i => ?_
  by_cases m : i ∈ vs
  · by_cases hi : i < σ.length
    · rw [wipe_in hi m, wipe_in (by rw [wipe_length]; exact hi) m]
    · rw [List.getElem?_eq_none (by rw [wipe_length, wipe_length]; omega), List.getElem?_eq_none (by rw [wipe_length]; omega)]
  · rw [wipe_out m]
/-- one turn of the block: the target, the tests, the item -/
def TurnOk (nn : Nat) (Y : Cx) (tg : Expr) (ifs : List Expr) (elt : Expr) (GU : Value → Prop) (vs : List Nat) (tv : V → L2.St → Hp → Addr → (Hp → Prop) → Prop) : Prop :=
  ∀ (pins : List (Addr × Obj)) (s : Shared) (σ : L2.St) (H : Hp) (x : V) (u : Value) (D : Addr) (Nx : Hp → Prop), nn ≤ s.toks → Inv Y pins σ H s → RelV x u → GU u → tv x σ H D Nx →
    wpAny (model Y.prog Y.w) Y.A (assign tg Y.env u) (fun _ s2 => wpAny (model Y.prog Y.w) Y.A (forIn ifs true fun c r => if r = true then do let ok ← isTrue c Y.env (eval c Y.env); pure (ForInStep.yield ok) else pure (ForInStep.yield r)) (fun b s3 =>
      if b = true then wpAny (model Y.prog Y.w) Y.A (eval elt Y.env) (fun z s4 => ∃ (σ4 : L2.St) (y : V) (H4 : Hp) (acc : List V), Inv Y pins σ4 H4 s4 ∧ wipe σ4 vs = wipe σ vs ∧ RelV y z ∧ GdV z ∧ GLs H4 D acc ∧ acc.length < sizeLine ∧
        ∀ o', GdL o' (acc ++ [y]) → Nx (upd H4 D (.frz o' (.lst (acc ++ [y]))))) (fun _ _ => False) s3
      else ∃ (σ3 : L2.St) (H3 : Hp), Inv Y pins σ3 H3 s3 ∧ wipe σ3 vs = wipe σ vs ∧ Nx H3) (fun _ _ => False) s2) (fun _ _ => False) s
/-- the reading: D the new list -/
def tLcG (wi : TI) (tv : V → L2.St → Hp → Addr → (Hp → Prop) → Prop) (vs : List Nat) : TE := fun σ H Q => wi σ H fun J H1 => ∀ D, H1 D = none → ∀ o0, GdL o0 [] → ∃ W : Nat → Nat → Hp → Prop, (∃ m, W 0 m (upd H1 D (.frz o0 (.lst [])))) ∧ ∀ i m H, W i m H →
  (J.stop i H ∧ Q (.ref D) H) ∨ (J.go i H ∧ ∃ Nx : Hp → Prop, (∀ H', Nx H' → ∃ m', m' < m ∧ W (i + 1) m' H') ∧ ∀ x H', J.yld i H x H' → tv x (wipe σ vs) H' D Nx)
/-- an item more in the known list -/
theorem app_g {X : Cx} {pins : List (Addr × Obj)} {σ : L2.St} {H : Hp} {s : Shared} {E : Value → Shared → Prop} {D : Addr} {xs : List V} {y : V} {v : Value} {Q : Value → Shared → Prop} (I : Inv X pins σ H s) (g : GLs H D xs) (nf : Nf X D) (hz : xs.length < sizeLine) (r : RelV y v) (gv : GdV v)
    (h : ∀ s' o', s'.toks = s.toks → GdL o' (xs ++ [y]) → Inv X pins σ (upd H D (.frz o' (.lst (xs ++ [y])))) s' → Q .none s') : wpAny (model X.prog X.w) X.A (call (.builtin "list.append") [.ref D, v]) Q E s := by
  obtain ⟨o, ⟨its, n, rfl, ri, gi⟩, hH⟩ := g
  obtain ⟨hget, _⟩ := I.hok D _ hH
  have hl := ri.length
  refine append_at (hsz := by rw [List.size_toArray]; omega) hget fun h' sb ho' => ?_
  have I1 := inv_melt I hH nf
  have rv : Vals (xs ++ [y]) (its ++ [v]) := ri.append (.cons r .nil)
  have e' : h'.get? D = some { cls := .type "list", data := .seq (its ++ [v]).toArray (n + 1) } := by
    rw [ho']
    simp
  have I2 : Inv X pins σ (upd (upd H D (.lst xs)) D (.lst (xs ++ [y]))) { s with heap := h' } := I1.write (t' := s.toks) (by rw [upd_same]; trivial) (.inl rfl) (fun b u hb q => (sb.2 b hb).trans q) ⟨_, ho'⟩ ⟨by rw [List.length_append]; exact hz, its ++ [v], n + 1, rv, e'⟩
  have I3 := inv_lock I2 upd_same nf e'
  rw [upd_upd, upd_upd] at I3
  exact h _ _ rfl ⟨its ++ [v], n + 1, rfl, rv, gi.append (GdS.one gv)⟩ I3
section
variable {X : Cx}
theorem lcG_core {nn : Nat} {pins : List (Addr × Obj)} {s : Shared} {σ : L2.St} {H : Hp} {Q : VK} {elt tg iter : Expr} {ifs : List Expr} {scope : Scope} {own : List (Str × Nat)} {pos pos' : Pos} {wi : TI} {GU : Value → Prop} {tv : V → L2.St → Hp → Addr → (Hp → Prop) → Prop} {use : Option (Value → Sem Unit)} {Qf : Value → Shared → Prop}
    (hc : X.calm = true) (hN : X.N.Nodup) (k0 : nn ≤ s.toks) (I : Inv X pins σ H s) (hi : PIG nn X tg iter GU wi) (ok : BlkOk X.N X.env.scope scope own)
    (ht : ∀ (s : Shared) (H : Hp) (C : Addr) (cl : List (Str × Addr)) (fp : List Addr), TurnOk nn (X.blk s H scope (compEnvC scope cl C X.env) fp) tg ifs elt GU (own.map (·.2)) tv)
    (hs : ∀ x, foldedSetIterable iter X.env x = pure x) (h : tLcG wi tv (own.map (·.2)) σ H Q)
    (fin : ∀ D C s' m H', nn ≤ s'.toks → Inv X pins σ H' s' → Q (.ref D) H' → s'.heap.Ns C m → FpOk X pins H' C → compPost (model X.prog X.w) X.A X.xe use Qf (.ref D) C (.ok .next) s') :
    wpAny (model X.prog X.w) X.A (comprehension (.ListComp elt [⟨tg, iter, ifs, 0⟩] scope pos) scope X.env pos' (newList []) false (eval iter X.env) use) Qf X.xe s := by
  have frees : ∀ y ∈ scope.names, y.2 = .free → ∃ c, X.env.cells.lookup y.1 = some c := fun y hy e => (ok.free y hy e).elim (fun k => I.ok.has _ (.inl k)) fun k => I.ok.has _ (.inr k)
  refine wpAny_comprehension_free (use := use) rfl hs (closure_ok frees) ok.kind (fun y hy e => by rw [ok.uniq y hy, e]) (thnT (hi.run pins s σ H _ I h) fun xv s1 k1 hx => thnT hx fun itv s2 k2 h2 => ?_)
  obtain ⟨it, fp, tn, J, H2, rfl, I2, T, G, st2, f2, q⟩ := h2
  refine wpAny_newObj_type (newEnv_comp ?_) (by show 0 ≤ sizeLine; decide)
  obtain ⟨D, hD⟩ : ∃ D, s2.heap.objs.size = D := ⟨_, rfl⟩
  rw [hD]
  have nD : H2 D = none := I2.hok.fresh (Nat.le_of_eq hD)
  obtain ⟨s3, es3⟩ : ∃ s3 : Shared, ({ s2 with heap := s2.heap.push { cls := .type "list", data := .seq ([] : List Value).toArray } } : Shared) = s3 := ⟨_, rfl⟩
  have heap3 : s3.heap = s2.heap.push { cls := .type "list", data := .seq ([] : List Value).toArray } := by rw [← es3]
  have tok3 : s3.toks = s2.toks := by rw [← es3]
  have at3 : s3.heap.get? D = some { cls := .type "list", data := .seq ([] : List Value).toArray } := by
    rw [heap3, ← hD]
    exact Heap.get?_push_size _ rfl
  have I3 : Inv X pins σ (upd H2 D (.lst [])) s3 := by
    rw [← es3]
    rw [← es3] at at3
    exact I2.laid (t' := s2.toks) (fun b o e => Heap.get?_push_of_some _ e) (Nat.le_of_eq hD) ⟨Nat.zero_le _, [], 0, .nil, at3⟩
  have lt2 : ∀ b ∈ fp, b < s2.heap.objs.size := fun b hb => let ⟨_, e, _⟩ := T.obj _ _ st2 b hb; Heap.lt_size e
  have neD : ∀ b ∈ fp, b ≠ D := fun b hb => by
    rw [← hD]
    exact Nat.ne_of_lt (lt2 b hb)
  have f3 : ∀ b ∈ fp, FpOk X pins (upd H2 D (.lst [])) b ∧ b < s3.heap.objs.size := fun b hb =>
    ⟨⟨by rw [upd_ne (neD b hb)]; exact (f2 b hb).1, (f2 b hb).2⟩, by rw [heap3, Heap.size_push]; exact Nat.lt_succ_of_lt (lt2 b hb)⟩
  have st3 : tn 0 s3.heap := T.keep _ _ _ st2 fun b _ o e => by
    rw [heap3]
    exact Heap.get?_push_of_some _ e
  have I4 := block_start I3 ok hN f3
  have tu := ht s3 (upd H2 D (.lst [])) s3.heap.objs.size (cellsFrom (s3.heap.objs.size + 1) scope.names (cloFrom X.env.cells scope.names [])) fp
  obtain ⟨W, ⟨m0, w0⟩, turn⟩ := q D nD { cls := .type "list", data := .seq ([] : List Value).toArray } ⟨[], 0, rfl, .nil, fun u m => by cases m⟩
  rw [es3]
  show codeAny _ _ (.compStart (.ListComp elt [⟨tg, iter, ifs, 0⟩] scope pos) 0 (.ref it) (.ref D) (compEnvC scope (cellsFrom (s3.heap.objs.size + 1) scope.names (cloFrom X.env.cells scope.names [])) s3.heap.objs.size X.env)) (compPost (model X.prog X.w) X.A X.xe use Qf (.ref D) s3.heap.objs.size) { s3 with heap := pushCells (s3.heap.push { cls := .type "dict", data := .dict #[] }) scope.names }
  obtain ⟨ce, hce⟩ : ∃ ce, compEnvC scope (cellsFrom (s3.heap.objs.size + 1) scope.names (cloFrom X.env.cells scope.names [])) s3.heap.objs.size X.env = ce := ⟨_, rfl⟩
  have cL : ce.locals = s3.heap.objs.size := by rw [← hce]; rfl
  rw [hce] at I4 tu ⊢
  obtain ⟨s4, es4⟩ : ∃ s4 : Shared, ({ s3 with heap := pushCells (s3.heap.push { cls := .type "dict", data := .dict #[] }) scope.names } : Shared) = s4 := ⟨_, rfl⟩
  rw [es4] at I4 ⊢
  have keep4 : ∀ b o, s3.heap.get? b = some o → s4.heap.get? b = some o := fun b o e => by
    rw [← es4]
    exact pushCells_keeps _ _ _ _ (Heap.get?_push_of_some _ e)
  have tok4 : s4.toks = s3.toks := by rw [← es4]
  have st4 : tn 0 s4.heap := T.keep _ _ _ st3 fun b _ o e => keep4 b o e
  obtain ⟨H3, eH3⟩ : ∃ H3, upd H2 D (.lst []) = H3 := ⟨_, rfl⟩
  have atD : H3 D = some (.lst []) := by rw [← eH3]; exact upd_same
  have toF : upd H2 D (.frz { cls := .type "list", data := .seq ([] : List Value).toArray } (.lst [])) = upd H3 D (.frz { cls := .type "list", data := .seq ([] : List Value).toArray } (.lst [])) := by rw [← eH3, upd_upd]
  rw [toF] at w0
  rw [eH3] at I3 I4 tu f3
  have nf : Nf (X.blk s3 H3 scope ce fp) D := fun o u e => by
    have e : H3 D = some (.frz o u) := e
    rw [atD] at e
    cases e
  have I4f := inv_lock I4 atD nf (keep4 _ _ at3)
  have nfp : ∀ b ∈ fp, (upd H3 D (.frz { cls := .type "list", data := .seq ([] : List Value).toArray } (.lst []))) b = none := fun b hb => by
    rw [upd_ne (neD b hb)]
    exact (f3 b hb).1.1
  have own' : ∀ {σ' : L2.St} {H' : Hp} {s' : Shared}, Inv (X.blk s3 H3 scope ce fp) [] σ' H' s' → (∀ b ∈ fp, H' b = none) → ∀ b ∈ fp, FpOk (X.blk s3 H3 scope ce fp) [] H' b := fun {σ' H' s'} I' hn b hb =>
    ⟨hn b hb, (I'.ok.exf b hb).1, I'.ok.exfs b hb, .inl hb, fun x c e => (I'.ok.exf b hb).2 x c e, fun p hp => absurd (show p ∈ ([] : List (Addr × Obj)) ++ [] from hp) (by simp)⟩
  have loop : codeAny (model X.prog X.w) X.A (.compLoop (.ListComp elt [⟨tg, iter, ifs, 0⟩] scope pos) 0 (.ref it) (.ref D) ce) (compPost (model X.prog X.w) X.A X.xe use Qf (.ref D) s3.heap.objs.size) s4 := by
    refine compLoop_any (fun n s' => nn ≤ s'.toks ∧ ∃ i H', Inv (X.blk s3 H3 scope ce fp) [] (wipe σ (own.map (·.2))) H' s' ∧ tn i s'.heap ∧ (∀ b ∈ fp, H' b = none) ∧ W i n H') ?_ m0 ⟨by omega, 0, _, I4f, st4, nfp, w0⟩
    rintro n s5 ⟨k5, i, H5, I5, st5, n5, w5⟩
    rcases turn i n H5 w5 with ⟨stop, qq⟩ | ⟨go, Nx, hNx, step⟩
    · refine thnF (wpAny_mono (PySem.wpAny_toks (T.done (X.blk s3 H3 scope ce fp) rfl rfl rfl hc i [] s5 _ H5 (fun _ _ => False) I5 (own' I5 n5) st5 stop)) (fun _ _ z => z) fun _ _ z => z.2) fun r s6 ⟨k6, hr, I6⟩ => ?_
      subst hr
      have back : Inv X pins σ H5 s6 := I3.call' (ch := fp) I6.os I6.base I6.hok I6.bare fun b hb => ⟨(f3 b hb).1.2.2.2.1, (f3 b hb).1.2.1, (f3 b hb).1.2.2.2.2.1, (f3 b hb).1.2.2.2.2.2⟩
      have none5 : H5 s3.heap.objs.size = none := by
        have z : H5 ce.locals = none := I6.free
        rwa [cL] at z
      obtain ⟨m, hm, _⟩ := I6.loc
      have hm : s6.heap.Ns ce.locals m := hm
      rw [cL] at hm
      exact fin D s3.heap.objs.size s6 m H5 (by omega) back qq hm (I3.fpOk (Nat.le_refl _) none5)
    · refine thnF (wpAny_mono (PySem.wpAny_toks (G (X.blk s3 H3 scope ce fp) rfl rfl rfl hc i [] s5 _ H5 (fun _ _ => False) k5 I5 (own' I5 n5) st5 go)) (fun _ _ z => z) fun _ _ z => z.2) fun r s6 ⟨k6, u, hr, h6⟩ => ?_
      subst hr
      refine thnF (wpAny_mono (PySem.wpAny_toks h6) (fun _ _ z => z) fun _ _ z => z.2) fun _ s7 ⟨k7, x, H7, I7, r7, gu, y7, st7, n7⟩ => ?_
      have I7' := I7.pinned (own' I7 n7) (T.obj _ _ st7)
      have endT : ∀ {s' : Shared} {σ' : L2.St} {H' : Hp}, nn ≤ s'.toks → Inv (X.blk s3 H3 scope ce fp) ([] ++ pinsAt fp s7.heap) σ' H' s' → wipe σ' (own.map (·.2)) = wipe (wipe σ (own.map (·.2))) (own.map (·.2)) → Nx H' →
          ∃ m, m < n ∧ nn ≤ s'.toks ∧ ∃ i H', Inv (X.blk s3 H3 scope ce fp) [] (wipe σ (own.map (·.2))) H' s' ∧ tn i s'.heap ∧ (∀ b ∈ fp, H' b = none) ∧ W i m H' := fun {s' σ' H'} k' I' hw nx => by
        obtain ⟨m', hm, w'⟩ := hNx H' nx
        have pin' : ∀ b ∈ fp, ∀ o, s7.heap.get? b = some o → s'.heap.get? b = some o ∧ H' b = none := fun b hb o e =>
          have z := I'.pin (b, o) (List.mem_append_right _ (List.mem_append_right _ (mem_pinsAt hb e)))
          ⟨z.1, z.2.1⟩
        have ww : wipe (wipe σ (own.map (·.2))) (own.map (·.2)) = wipe σ (own.map (·.2)) := wipe_twice _ _
        rw [ww] at hw
        have hl : (wipe σ (own.map (·.2))).length = σ'.length := by rw [← hw, wipe_length]
        refine ⟨m', hm, k', i + 1, H', (I'.unpinned (pins := [])).weak hl (fun j v e => ?_), T.keep _ _ _ st7 fun b hb o e => (pin' b hb o e).1, fun b hb => ?_, w'⟩
        · rw [← hw] at e
          exact (wipe_some e).1
        · obtain ⟨o, e, _⟩ := T.obj _ _ st7 b hb
          exact (pin' b hb o e).2
      have one := tu _ s7 _ H7 x u D Nx (by omega) I7' r7 gu (step x H7 y7)
      refine thnF (wpAny_mono (PySem.wpAny_toks one) (fun _ _ z => z) fun _ _ z => z.2) fun _ s8 ⟨k8, q8⟩ => ?_
      refine thnF (wpAny_mono (PySem.wpAny_toks q8) (fun _ _ z => z) fun _ _ z => z.2) fun b s9 ⟨k9, q9⟩ => ?_
      cases b with
      | false =>
        simp only [Bool.false_eq_true, if_false] at q9 ⊢
        obtain ⟨σ9, H9, I9, hw9, nx⟩ := q9
        exact endT (by omega) I9 hw9 nx
      | true =>
        simp only [if_true] at q9 ⊢
        refine thnF (wpAny_mono (PySem.wpAny_toks q9) (fun _ _ z => z) fun _ _ z => z.2) fun z s10 ⟨k10, σ10, y, H10, acc, I10, hw10, r10, g10, gl, hz10, nx⟩ => ?_
        exact app_g (X := X.blk s3 H3 scope ce fp) I10 gl nf hz10 r10 g10 fun s11 o' k11 g11 I11 => endT (by omega) I11 hw10 (nx o' g11)
  exact codeAny_compStart_list loop (T.self X.A 0 _ _ _ st4 loop)
end
end Moot
/-! A run has one end: two things that are true of a run's end are true together. -/
namespace Moot
open PySem
theorem runs_one {M : Model} {Γ : Ctx} {p : Pos} {t : Sem Fin} {fs : List Frame} {s s' : Shared} {e : End} (h : Runs M Γ p t fs s e s') : ∀ {e2 : End} {s2 : Shared}, Runs M Γ p t fs s e2 s2 → e = e2 ∧ s' = s2 := by
  induction h with
  | done => intro e2 s2 g; cases g; exact ⟨rfl, rfl⟩
  | raise => intro e2 s2 g; cases g; exact ⟨rfl, rfl⟩
  | again _ _ ih => intro e2 s2 g; cases g with | again _ g => exact ih g
  | rule _ ih => intro e2 s2 g; cases g with | rule g => exact ih g
  | «at» _ ih => intro e2 s2 g; cases g with | «at» g => exact ih g
  | load ho _ ih =>
    intro e2 s2 g
    cases g with
    | load ho' g =>
      rw [ho] at ho'
      cases ho'
      exact ih g
  | update _ _ ih => intro e2 s2 g; cases g with | update _ g => exact ih g
  | loadIfAlive _ ih => intro e2 s2 g; cases g with | loadIfAlive g => exact ih g
  | point _ ih => intro e2 s2 g; cases g with | point g => exact ih g
  | alloc _ ih => intro e2 s2 g; cases g with | alloc g => exact ih g
  | fresh _ ih => intro e2 s2 g; cases g with | fresh g => exact ih g
  | ask _ ih => intro e2 s2 g; cases g with | ask g => exact ih g
  | choose _ _ ih => intro e2 s2 g; cases g with | choose _ g => exact ih g
  | os _ ih => intro e2 s2 g; cases g with | os g => exact ih g
  | handled _ ih => intro e2 s2 g; cases g with | handled g => exact ih g
  | genState hs _ ih =>
    intro e2 s2 g
    cases g with
    | genState hs' g =>
      rw [hs] at hs'
      cases hs'
      exact ih g
  | stack _ ih => intro e2 s2 g; cases g with | stack g => exact ih g
  | thread _ ih => intro e2 s2 g; cases g with | thread g => exact ih g
  | newGen _ ih => intro e2 s2 g; cases g with | newGen g => exact ih g
  | call _ _ ih1 ih2 =>
    intro e2 s2 g
    cases g with
    | call g1 g2 =>
      obtain ⟨a, b⟩ := ih1 g1
      cases a
      subst b
      exact ih2 g2
    | callSusp g1 => exact nomatch (ih1 g1).1
  | callSusp _ ih1 =>
    intro e2 s2 g
    cases g with
    | call g1 g2 => exact nomatch (ih1 g1).1
    | callSusp g1 =>
      obtain ⟨a, b⟩ := ih1 g1
      cases a
      exact ⟨rfl, b⟩
  | yield => intro e2 s2 g; cases g; exact ⟨rfl, rfl⟩
  | resumeFresh hg _ _ _ ih1 ih2 =>
    intro e2 s2 g
    cases g with
    | resumeFresh hg' g1 _ g2 =>
      rw [hg] at hg'
      cases hg'
      obtain ⟨a, b⟩ := ih1 g1
      subst a b
      exact ih2 g2
    | resumeSuspended hg' _ _ _ => rw [hg] at hg'; cases hg'
    | resumeJustStarted _ hv _ => exact absurd rfl hv
    | resumeRunning hg' _ => rw [hg] at hg'; cases hg'
    | resumeFinished hg' _ => rw [hg] at hg'; cases hg'
  | resumeSuspended hg _ _ _ ih1 ih2 =>
    intro e2 s2 g
    cases g with
    | resumeSuspended hg' g1 _ g2 =>
      rw [hg] at hg'
      cases hg'
      obtain ⟨a, b⟩ := ih1 g1
      subst a b
      exact ih2 g2
    | resumeFresh hg' _ _ _ => rw [hg] at hg'; cases hg'
    | resumeJustStarted hg' _ _ => rw [hg] at hg'; cases hg'
    | resumeThrowFresh hg' _ => rw [hg] at hg'; cases hg'
    | resumeRunning hg' _ => rw [hg] at hg'; cases hg'
    | resumeFinished hg' _ => rw [hg] at hg'; cases hg'
  | resumeJustStarted hg hv _ ih =>
    intro e2 s2 g
    cases g with
    | resumeFresh _ _ _ _ => exact absurd rfl hv
    | resumeSuspended hg' _ _ _ => rw [hg] at hg'; cases hg'
    | resumeJustStarted _ _ g => exact ih g
    | resumeRunning hg' _ => rw [hg] at hg'; cases hg'
    | resumeFinished hg' _ => rw [hg] at hg'; cases hg'
  | resumeThrowFresh hg _ ih =>
    intro e2 s2 g
    cases g with
    | resumeSuspended hg' _ _ _ => rw [hg] at hg'; cases hg'
    | resumeThrowFresh _ g => exact ih g
    | resumeRunning hg' _ => rw [hg] at hg'; cases hg'
    | resumeFinished hg' _ => rw [hg] at hg'; cases hg'
  | resumeRunning hg _ ih =>
    intro e2 s2 g
    cases g with
    | resumeFresh hg' _ _ _ => rw [hg] at hg'; cases hg'
    | resumeSuspended hg' _ _ _ => rw [hg] at hg'; cases hg'
    | resumeJustStarted hg' _ _ => rw [hg] at hg'; cases hg'
    | resumeThrowFresh hg' _ => rw [hg] at hg'; cases hg'
    | resumeRunning _ g => exact ih g
    | resumeFinished hg' _ => rw [hg] at hg'; cases hg'
  | resumeFinished hg _ ih =>
    intro e2 s2 g
    cases g with
    | resumeFresh hg' _ _ _ => rw [hg] at hg'; cases hg'
    | resumeSuspended hg' _ _ _ => rw [hg] at hg'; cases hg'
    | resumeJustStarted hg' _ _ => rw [hg] at hg'; cases hg'
    | resumeThrowFresh hg' _ => rw [hg] at hg'; cases hg'
    | resumeRunning hg' _ => rw [hg] at hg'; cases hg'
    | resumeFinished _ g => exact ih g
  | segRet _ _ ih1 ih2 =>
    intro e2 s2 g
    cases g with
    | segRet g1 g2 =>
      obtain ⟨a, b⟩ := ih1 g1
      cases a
      subst b
      exact ih2 g2
    | segSuspOut _ g1 => exact nomatch (ih1 g1).1
    | segSuspGen _ g1 _ _ => exact nomatch (ih1 g1).1
  | segGen _ _ ih1 ih2 =>
    intro e2 s2 g
    cases g with
    | segGen g1 g2 =>
      obtain ⟨a, b⟩ := ih1 g1
      cases a
      subst b
      exact ih2 g2
    | segSuspOut _ g1 => exact nomatch (ih1 g1).1
    | segSuspGen _ g1 _ _ => exact nomatch (ih1 g1).1
  | segSuspOut hs _ ih1 =>
    intro e2 s2 g
    cases g with
    | segRet g1 _ => exact nomatch (ih1 g1).1
    | segGen g1 _ => exact nomatch (ih1 g1).1
    | segSuspOut _ g1 =>
      obtain ⟨a, b⟩ := ih1 g1
      cases a
      exact ⟨rfl, b⟩
    | segSuspGen hs' _ _ _ => rw [hs] at hs'; cases hs'
  | segSuspGen hs _ _ _ ih1 ih2 =>
    intro e2 s2 g
    cases g with
    | segRet g1 _ => exact nomatch (ih1 g1).1
    | segGen g1 _ => exact nomatch (ih1 g1).1
    | segSuspOut hs' _ => rw [hs] at hs'; cases hs'
    | segSuspGen hs' g1 _ g2 =>
      rw [hs] at hs'
      cases hs'
      obtain ⟨a, b⟩ := ih1 g1
      cases a
      subst b
      exact ih2 g2
theorem returns_one {M : Model} {Γ : Ctx} {p : Pos} {s s1 s2 : Shared} {r1 r2 : Result} (h : Returns M Γ p s r1 s1) (g : Returns M Γ p s r2 s2) : r1 = r2 ∧ s1 = s2 := by
  obtain ⟨a, b⟩ := runs_one h g
  cases a
  exact ⟨rfl, b⟩
theorem wakes_one {M : Model} {Γ : Ctx} {p : Pos} {g : Nat} {r : Resume} {s s1 s2 : Shared} {a b : GenResult} (h : Wakes M Γ p g r s a s1) (h2 : Wakes M Γ p g r s b s2) : a = b ∧ s1 = s2 := by
  unfold Wakes at h h2
  split at h
  · exact h.elim
  · rename_i e
    simp only [e] at h2
    split at h
    · obtain ⟨e1, t1, x1, _, rfl, rfl⟩ := h
      obtain ⟨e2, t2, x2, _, rfl, rfl⟩ := h2
      obtain ⟨u, v⟩ := runs_one x1 x2
      subst u v
      exact ⟨rfl, rfl⟩
    · rename_i hne
      split at h2
      · rename_i z
        first
          | (injection z with z; exact (hne z).elim)
          | exact (hne rfl).elim
      · exact ⟨h.1.trans h2.1.symm, h.2.trans h2.2.symm⟩
      · rename_i z; cases z
    · exact ⟨h.1.trans h2.1.symm, h.2.trans h2.2.symm⟩
  · rename_i e
    simp only [e] at h2
    obtain ⟨e1, t1, x1, _, rfl, rfl⟩ := h
    obtain ⟨e2, t2, x2, _, rfl, rfl⟩ := h2
    obtain ⟨u, v⟩ := runs_one x1 x2
    subst u v
    exact ⟨rfl, rfl⟩
  · rename_i e
    simp only [e] at h2
    exact ⟨h.1.trans h2.1.symm, h.2.trans h2.2.symm⟩
  · rename_i e
    simp only [e] at h2
    exact ⟨h.1.trans h2.1.symm, h.2.trans h2.2.symm⟩
theorem wp_both {α : Type} (M : Model) (Γ : Ctx) (t : Sem α) : ∀ (Q R : α → Pos → Shared → Prop) (E F : Value → Pos → Shared → Prop) (p : Pos) (s : Shared), Sem.wp M Γ t Q E p s → Sem.wp M Γ t R F p s →
    Sem.wp M Γ t (fun a p' s' => Q a p' s' ∧ R a p' s') (fun e p' s' => E e p' s' ∧ F e p' s') p s := by
  induction t with
  | pure a => intro Q R E F p s h g; exact ⟨h, g⟩
  | raise e => intro Q R E F p s h g; exact ⟨h, g⟩
  | unsupported _ => intro Q R E F p s h g; exact h
  | finish _ => intro Q R E F p s h g; exact h
  | rule _ k ih => intro Q R E F p s h g; exact ih () Q R E F p s h g
  | «at» p' k ih => intro Q R E F p s h g; exact ih () Q R E F p' s h g
  | load a _ k ih =>
    intro Q R E F p s h g
    obtain ⟨o, ho, h⟩ := h
    obtain ⟨o', ho', g⟩ := g
    rw [ho] at ho'
    cases ho'
    exact ⟨o, ho, ih o Q R E F p s h g⟩
  | update a _ f k ih => intro Q R E F p s h g; exact ⟨h.1, ih () Q R E F p _ h.2 g.2⟩
  | loadIfAlive a k ih => intro Q R E F p s h g; exact ih _ Q R E F p s h g
  | point _ k ih => intro Q R E F p s h g; exact ih () Q R E F p s h g
  | register _ _ => intro Q R E F p s h g; exact h
  | alloc o k ih => intro Q R E F p s h g; exact ih _ Q R E F p _ h g
  | fresh k ih => intro Q R E F p s h g; exact ih _ Q R E F p _ h g
  | ask k ih => intro Q R E F p s h g; exact ih _ Q R E F p s h g
  | choose src m k ih => intro Q R E F p s h g; exact ⟨h.1, ih _ Q R E F p _ h.2 g.2⟩
  | os q _ k ih => intro Q R E F p s h g; exact ih _ Q R E F p _ h g
  | call c hd _ _ k ih =>
    intro Q R E F p s h g
    obtain ⟨r, s', hr, h⟩ := h
    obtain ⟨r2, s2, hr2, g⟩ := g
    obtain ⟨a, b⟩ := returns_one hr hr2
    subst a b
    exact ⟨r, s', hr, ih r Q R E F p s' h g⟩
  | handled own k ih => intro Q R E F p s h g; exact ih _ Q R E F p s h g
  | genState x k ih =>
    intro Q R E F p s h g
    obtain ⟨st, hs, h⟩ := h
    obtain ⟨st', hs', g⟩ := g
    rw [hs] at hs'
    cases hs'
    exact ⟨st, hs, ih _ Q R E F p s h g⟩
  | newGen c k ih => intro Q R E F p s h g; exact ih _ Q R E F p _ h g
  | resume x r _ k ih =>
    intro Q R E F p s h g
    obtain ⟨res, s', hw, h⟩ := h
    obtain ⟨res2, s2, hw2, g⟩ := g
    obtain ⟨a, b⟩ := wakes_one hw hw2
    subst a b
    exact ⟨res, s', hw, ih res Q R E F p s' h g⟩
  | yield _ _ _ _ => intro Q R E F p s h g; exact h
  | stack k ih => intro Q R E F p s h g; exact ih _ Q R E F p s h g
  | fork _ _ => intro Q R E F p s h g; exact h
  | thread k ih => intro Q R E F p s h g; exact ih _ Q R E F p s h g
  | await _ _ _ _ _ => intro Q R E F p s h g; exact h
theorem wpAny_both {α : Type} {M : Model} {A : Around} {t : Sem α} {Q R : α → Shared → Prop} {E F : Value → Shared → Prop} {s : Shared} (h : wpAny M A t Q E s) (g : wpAny M A t R F s) : wpAny M A t (fun a s' => Q a s' ∧ R a s') (fun e s' => E e s' ∧ F e s') s :=
  fun Γ p hΓ => wp_both M Γ t _ _ _ _ p s (h Γ p hΓ) (g Γ p hΓ)
end Moot
/-! Comprehensions as values; names drawn letter by letter. -/
namespace Moot
open PySem PySem.Spec PyProof.Rows L2
section
variable {X : Cx}
/-- the turn by its three rules -/
def tvOf (g : TG) (te : TE) (vs : List Nat) : V → L2.St → Hp → Addr → (Hp → Prop) → Prop := fun x σ H D Nx => g x σ H fun σ2 H2 => wipe σ2 vs = wipe σ vs ∧ te σ2 H2 fun y H4 =>
  ∃ acc, GLs H4 D acc ∧ acc.length < sizeLine ∧ ∀ o', GdL o' (acc ++ [y]) → Nx (upd H4 D (.frz o' (.lst (acc ++ [y]))))
theorem turn_of {nn : Nat} {Y : Cx} {tg elt : Expr} {g : TG} {te : TE} {vs : List Nat} (xe : Y.xe = fun _ _ => False) (hg : PG Y tg g) (he : PEK nn Y elt te) : TurnOk nn Y tg [] elt (fun _ => True) vs (tvOf g te vs) := by
  intro pins s σ H x u D Nx k0 I r _ h
  have h1 := hg.run pins s σ H x u _ I r h
  rw [xe] at h1
  refine thnT h1 fun _ s2 k2 ⟨σ2, H2, I2, hw, q2⟩ => wpAny_tests_nil ?_
  rw [if_pos rfl]
  have h2 := he.run pins s2 σ2 H2 _ (by omega) I2 q2
  rw [xe] at h2
  exact thn h2 fun z s4 ⟨y, H4, I4, r4, g4, acc, a1, a2, a3⟩ => ⟨σ2, y, H4, acc, I4, hw, r4, g4, a1, a2, a3⟩
/-- as a value -/
theorem pek_lcG {nn : Nat} {elt tg iter : Expr} {ifs : List Expr} {scope : Scope} {own : List (Str × Nat)} {pos : Pos} {wi : TI} {GU : Value → Prop} {tv : V → L2.St → Hp → Addr → (Hp → Prop) → Prop} (hc : X.calm = true) (hN : X.N.Nodup) (hi : PIG nn X tg iter GU wi) (ok : BlkOk X.N X.env.scope scope own)
    (ht : ∀ (s : Shared) (H : Hp) (C : Addr) (cl : List (Str × Addr)) (fp : List Addr), TurnOk nn (X.blk s H scope (compEnvC scope cl C X.env) fp) tg ifs elt GU (own.map (·.2)) tv) (hs : ∀ x, foldedSetIterable iter X.env x = pure x := by intro _; rfl) :
    PEK nn X (.ListComp elt [⟨tg, iter, ifs, 0⟩] scope pos) (tLcG wi tv (own.map (·.2))) := by
  refine ⟨fun pins s σ H Q k0 I h => ?_⟩
  rw [eval_ListComp]
  refine lcG_core hc hN k0 I hi ok ht hs h fun D C s' m H' _ I' q hn f => ⟨m, hn, fun h'' sb => ?_⟩
  obtain ⟨f0, f1, f2, f3, f4, f5⟩ := f
  exact ⟨.ref D, H', I'.turned (t' := s'.toks) (fun b o hb e => (sb.2 b hb).trans e) f0 f1 f3 f4 f5, rfl, trivial, q⟩
/-- where nothing is asked of the tokens given out -/
theorem PEK.pe {e : Expr} {t : TE} (h : PEK 0 X e t) : PE X e t := ⟨fun pins s σ H Q I q => thn (h.run pins s σ H Q (Nat.zero_le _) I q) fun _ _ ⟨v, H', a, b, _, d⟩ => ⟨v, H', a, b, d⟩⟩
/-- a text's signs, each with a token -/
theorem pig_str {tg e : Expr} {te : TE} (he : PE X e te) : PIG 1 X tg e GdV (iStr te) := by
  refine ⟨fun pins s σ H R I h => thn (he.run pins s σ H _ I h) fun v s1 ⟨y, H1, I1, r1, x, ex, q⟩ => ?_⟩
  subst ex
  obtain ⟨t, rfl⟩ := r1
  have items : ∀ (P : Program) (w : World) (K : PySem.W.Frag) (it : Addr) (ty : String), (ty = "str_ascii_iterator" ∨ ty = "str_iterator") → ItemG P w K tg (Its x) [it] it (fun i h => h.IsStrIter it ty x t i) 1 GdV := by
    intro P w K it ty hty Y e1 e2 e3 hc i pins s σ H E k0 I hf st go
    subst e1 e2 e3
    obtain ⟨f0, f1, f2, f3, f4, f5⟩ := hf it (by simp)
    have hno : ["enumerate", "zip", "dict_itemiterator", "dict_reverseitemiterator", "odict_iterator", "itertools.zip_longest", "itertools.pairwise"].contains ty = false := by
      rcases hty with e | e <;> rw [e] <;> decide
    have go : i < x.cps.size := go
    have fin : ∀ h', h'.IsStrIter it ty x t (i + 1) → Heap.SameBut it s.heap h' → (fun (r : Option Value) (s1 : Shared) => ∃ u, r = some u ∧ wpAny (model Y.prog Y.w) Y.A (letOwnedTupleGo tg (.ref it) u) (fun _ s2 => ∃ x' H', Inv Y pins σ H' s2 ∧ RelV x' u ∧ GdV u ∧ (Its x).yld i H x' H' ∧ s2.heap.IsStrIter it ty x t (i + 1) ∧ ∀ b ∈ [it], H' b = none) E s1)
        (some (.str ⟨#[x.cps[i]]⟩ s.toks)) { s with heap := h', toks := s.toks + 1 } := fun h' st' sb => by
      have I1 : Inv Y pins σ H { s with heap := h', toks := s.toks + 1 } := I.turned (fun b o hb e => (sb.2 b hb).trans e) f0 f1 f3 f4 f5
      obtain ⟨oi, e, cc, dd⟩ := id st'
      exact ⟨_, rfl, go_of (s := { s with heap := h', toks := s.toks + 1 }) e cc dd hno ⟨.str ⟨#[x.cps[i]]⟩, H, I1, ⟨_, rfl⟩, (show s.toks ≠ 0 by omega), ⟨rfl, _, by simp [go], rfl⟩, st', fun b hb => (hf b hb).1⟩⟩
    rcases hty with e | e
    · subst e
      exact wpAny_pyNext_ascii_item st (c := x.cps[i]) (by simp [go]) fin
    · subst e
      exact wpAny_pyNext_wide_item st (c := x.cps[i]) (by simp [go]) fin
  have one : ∀ (o : Obj) (ty : String), (ty = "str_ascii_iterator" ∨ ty = "str_iterator") → (s1.heap.push o).IsStrIter s1.heap.objs.size ty x t 0 → PIEG X pins σ tg 1 GdV R (.ref s1.heap.objs.size) { s1 with heap := s1.heap.push o } := fun o ty hty st => by
    refine ⟨s1.heap.objs.size, [s1.heap.objs.size], _, Its x, H1, rfl, I1.kept (t' := s1.toks) fun b ob e => Heap.get?_push_of_some _ e, turn_str _ x t ty hty.symm.symm, items _ _ _ _ ty hty, st, fun b hb => ?_, q⟩
    have e : b = s1.heap.objs.size := by simpa using hb
    subst e
    exact I1.fpOk (Nat.le_refl _) (I1.hok.fresh (Nat.le_refl _))
  cases ha : x.cps.all (· < 128)
  · exact wpAny_pyIter_wide ha (one _ "str_iterator" (.inr rfl) ⟨_, Heap.get?_push_size _ rfl, rfl, rfl⟩)
  · exact wpAny_pyIter_ascii ha (one _ "str_ascii_iterator" (.inl rfl) ⟨_, Heap.get?_push_size _ rfl, rfl, rfl⟩)
end
end Moot
namespace Moot
open PySem PySem.Spec PyProof.Rows L2
theorem inV_txt (z : Str) (xs : List Str) : inV (.str z) (xs.map V.str) = decide (z ∈ xs) := by
  unfold inV
  rw [List.any_map, Bool.eq_iff_iff, List.any_eq_true, decide_eq_true_eq]
  constructor
  · rintro ⟨y, m, e⟩
    have : y = z := by simpa [eqV] using e
    exact this ▸ m
  · intro m
    exact ⟨z, m, by simp [eqV]⟩
theorem flat_txts (xs : List Str) : (xs.map V.str).all flatV = true := by
  rw [List.all_map]
  exact List.all_eq_true.mpr fun _ _ => rfl
section
variable {Y : Cx} {pins : List (Addr × Obj)} {σ : L2.St} {H : Hp} {s : Shared}
/-- a local's own value -/
theorem raw_local {y : Str} {pos : Pos} {m : Str → Option Value} {u : Value} {Q E : Value → Shared → Prop} (ok : Y.Ok) (hk : Y.env.scope.names.lookup y = some .local) (hn : s.heap.Ns Y.env.locals m) (hm : m y = some u) (h : Q u s)
    (hd : (y == ("__debug__" : Str)) = false := by decide) : wpAny (model Y.prog Y.w) Y.A (eval (.Name y pos) Y.env) Q E s := wpAny_Name (wpAny_loadName_local ok.kind hk hn hm h) hd
/-- a local is stored: which value it has is known -/
theorem store_both {i : Nat} {y : Str} {v : V} {u : Value} {E : Value → Shared → Prop} (I : Inv Y pins σ H s) (hN : Y.N.Nodup) (hi : Y.N[i]? = some y) (hk : Y.env.scope.names.lookup y = some .local) (r : RelV v u) :
    wpAny (model Y.prog Y.w) Y.A (storeName Y.env y u) (fun _ s' => Inv Y pins (σ.set i (some v)) H s' ∧ ∃ m, s'.heap.Ns Y.env.locals m ∧ m y = some u) E s := by
  obtain ⟨m, hn, _⟩ := I.loc
  have hcls : (Y.env.scope.kind == .class || (Y.env.scope.kind == .module && Y.env.locals != Y.env.globals)) = false := by rw [I.ok.kind]; rfl
  exact wpAny_mono (wpAny_both (store_ok (Q := fun _ s' => Inv Y pins (σ.set i (some v)) H s') (E := E) I hN hi (.inl hk) r (fun _ I' => I') (.inr hk))
    (wpAny_storeName_local (Q := fun _ s' => ∃ m, s'.heap.Ns Y.env.locals m ∧ m y = some u) (E := E) hk hn (fun h' hn' _ => ⟨_, hn', by simp⟩) hcls)) (fun _ _ z => z) fun _ _ z => z.1
/-- y not in f, y a local text, f a list of texts: nothing changes -/
theorem raw_notin {j : Nat} {y f z : Str} {t : Tok} {l : Addr} {zs : List Str} {p2 p3 p4 : Pos} {whole : Sem Value} {m : Str → Option Value} {Q : Bool → Shared → Prop} {E : Value → Shared → Prop} (I : Inv Y pins σ H s) (hk : Y.env.scope.names.lookup y = some .local) (hn : s.heap.Ns Y.env.locals m) (hm : m y = some (.str z t))
    (hj : Y.N[j]? = some f) (hf : Vis Y.env.scope f) (hσ : σ[j]? = some (some (.ref l))) (hl : SqL Y.K H l (zs.map V.str)) (h : Q (!decide (z ∈ zs)) s)
    (hdy : (y == ("__debug__" : Str)) = false := by decide) (hdf : (f == ("__debug__" : Str)) = false := by decide) (hcf : (f == ("__classdict__" : Str)) = false := by decide) :
    wpAny (model Y.prog Y.w) Y.A (isTrue (.Compare (.Name y p2) [.NotIn] [.Name f p3] p4) Y.env whole) Q E s := by
  refine wpAny_isTrue_Compare1 (raw_local I.ok hk hn hm (raw_name hj hf I hσ (fun u r => ?_) hdf hcf) hdy) rfl
  cases r
  obtain ⟨its, r, pl, hz⟩ := I.list hl
  refine SeqAt.notIn_listAt (eqU (.str z)) pl.isList (fun w hw => mem_eqAt (x := .str z) ⟨t, rfl⟩ rfl r (flat_txts zs) w (by simpa using hw)) (wpAny_truthy_bool ?_)
  rw [show its.toArray.any (eqU (.str z)) = its.any (eqU (.str z)) by simp, any_eqU r (flat_txts zs), show ((zs.map V.str).any fun y => eqV y (V.str z)) = decide (z ∈ zs) from inV_txt z zs]
  exact h
/-- [y for y in .. if y not in f] -/
def tvNotIn (K : PySem.W.Frag) (i j : Nat) : V → L2.St → Hp → Addr → (Hp → Prop) → Prop := fun x σ H D Nx => ∃ (z : Str) (l : Addr) (zs : List Str), x = .str z ∧ (σ.set i (some x))[j]? = some (some (.ref l)) ∧ SqL K H l (zs.map V.str) ∧
  (z ∈ zs → Nx H) ∧ (z ∉ zs → ∃ acc, GLs H D acc ∧ acc.length < sizeLine ∧ ∀ o', GdL o' (acc ++ [.str z]) → Nx (upd H D (.frz o' (.lst (acc ++ [.str z])))))
theorem turn_notin {nn i j : Nat} {y f : Str} {p1 p2 p3 p4 p5 : Pos} (hN : Y.N.Nodup) (hi : Y.N[i]? = some y) (hk : Y.env.scope.names.lookup y = some .local) (hj : Y.N[j]? = some f) (hf : Vis Y.env.scope f)
    (hdy : (y == ("__debug__" : Str)) = false := by decide) (hdf : (f == ("__debug__" : Str)) = false := by decide) (hcf : (f == ("__classdict__" : Str)) = false := by decide) :
    TurnOk nn Y (.Name y p1) [.Compare (.Name y p2) [.NotIn] [.Name f p3] p4] (.Name y p5) GdV [i] (tvNotIn Y.K i j) := by
  intro pins s σ H x u D Nx _ I r g h
  obtain ⟨z, l, zs, rfl, hσ, hl, q1, q2⟩ := h
  obtain ⟨t, rfl⟩ := r
  refine wpAny_assign_Name (thn (store_both I hN hi hk (v := .str z) ⟨t, rfl⟩) fun _ s2 ⟨I2, m, hn, hm⟩ => wpAny_tests_one (raw_notin I2 hk hn hm hj hf hσ hl ?_ hdy hdf hcf))
  have ws : wipe (σ.set i (some (.str z))) [i] = wipe σ [i] := by
    show (σ.set i (some (.str z))).set i none = σ.set i none
    rw [List.set_set]
  by_cases c : z ∈ zs
  · rw [decide_eq_true c]
    exact (if_neg (by decide)).mpr ⟨_, H, I2, ws, q1 c⟩
  · rw [decide_eq_false c]
    obtain ⟨acc, a1, a2, a3⟩ := q2 c
    exact (if_pos rfl).mpr (raw_local I2.ok hk hn hm ⟨_, .str z, H, acc, I2, ws, ⟨t, rfl⟩, g, a1, a2, a3⟩ hdy)
end
end Moot
namespace Moot
open PySem PySem.Spec PyProof.Rows L2
section
variable {X : Cx}
/-- behind the name: it, or the first letter that is free, is put behind the others -/
def Put (i jf : Nat) (tl : TE) (X : Cx) (D : Ends) (σ : L2.St) (z : Str) (H1 : Hp) : Prop := ∃ (l : Addr) (zs : List Str), (σ.set i (some (.str z)))[jf]? = some (some (.ref l)) ∧ GLs H1 l (zs.map V.str) ∧ Nf X l ∧ zs.length < sizeLine ∧
  (z ∉ zs → ∀ o', GdL o' (zs.map V.str ++ [.str z]) → D.nx (σ.set i (some (.str z))) (upd H1 l (.frz o' (.lst (zs.map V.str ++ [.str z]))))) ∧
  (z ∈ zs → tl (σ.set i (some (.str z))) H1 fun v H2 => ∃ (D2 : Addr) (c : Str) (r : List V), v = .ref D2 ∧ GLs H2 D2 (.str c :: r) ∧ GLs H2 l (zs.map V.str) ∧
    ∀ o', GdL o' (zs.map V.str ++ [.str c]) → D.nx (σ.set i (some (.str z))) (upd H2 l (.frz o' (.lst (zs.map V.str ++ [.str c])))))
def tJoinPut (i jf : Nat) (ta tl : TE) (X : Cx) : TS := fun D σ H => ta σ H fun v H1 => ∃ (p : Addr) (ys : List Str), v = .ref p ∧ GLs H1 p (ys.map V.str) ∧ (ys.map (·.length)).sum + ys.length * Str.empty.length ≤ 16777216 ∧ Put i jf tl X D σ (Txt.join Str.empty ys) H1
theorem pss_joinPut {i jf : Nat} {nm f : Str} {a L : Expr} {ta tl : TE} {j j2 : Nat} {pa c1 apos cpos posA q1 q2 q3 q4 q5 q6 q7 q8 q9 q10 posB : Pos} (hN : X.N.Nodup) (hi : X.N[i]? = some nm) (hk : X.env.scope.names.lookup nm = some .local) (hj : X.N[jf]? = some f) (hf : Vis X.env.scope f)
    (ha : PEK 1 X a ta) (hL : PEK 1 X L tl)
    (hsA : swapsWith (.Call (.Attribute (.Constant (.str Str.empty) j c1) "join" apos) [a] [] cpos) (some (.Name nm pa)) posA.line X.env = pure false := by rfl)
    (hsB : swapsWith (.Call (.Attribute (.Name f q1) "append" q2) [.IfExp (.Compare (.Name nm q3) [.NotIn] [.Name f q4] q5) (.Name nm q6) (.Subscript L (.Constant (.int 0) j2 q7) q8) q9] [] q10) none posB.line X.env = pure false := by rfl)
    (hb1 : attributeBase (.Constant (.str Str.empty) j c1) "join" X.env (eval (.Constant (.str Str.empty) j c1) X.env) = eval (.Constant (.str Str.empty) j c1) X.env := by rfl)
    (hf1 : ((backTo cpos (starEach [a] X.env)).all (fun x => !x.1) && (backToKw cpos (keywordEach [] X.env)).all (fun x => x.1.isSome) && decide ([a].length + ([] : List Keyword).length + (if ([] : List Keyword).isEmpty then 0 else 1) < 30)) = true := by rfl)
    (hl1 : (apos.endLine == cpos.line) = true := by rfl) (hs1 : starEach [a] X.env = [(false, eval a X.env)] := by rfl)
    (hb2 : attributeBase (.Name f q1) "append" X.env (eval (.Name f q1) X.env) = eval (.Name f q1) X.env := by rfl)
    (hf2 : ((backTo q10 (starEach [.IfExp (.Compare (.Name nm q3) [.NotIn] [.Name f q4] q5) (.Name nm q6) (.Subscript L (.Constant (.int 0) j2 q7) q8) q9] X.env)).all (fun x => !x.1) && (backToKw q10 (keywordEach [] X.env)).all (fun x => x.1.isSome) && decide ([Expr.IfExp (.Compare (.Name nm q3) [.NotIn] [.Name f q4] q5) (.Name nm q6) (.Subscript L (.Constant (.int 0) j2 q7) q8) q9].length + ([] : List Keyword).length + (if ([] : List Keyword).isEmpty then 0 else 1) < 30)) = true := by rfl)
    (hl2 : (q2.endLine == q10.line) = true := by rfl)
    (hs2 : starEach [.IfExp (.Compare (.Name nm q3) [.NotIn] [.Name f q4] q5) (.Name nm q6) (.Subscript L (.Constant (.int 0) j2 q7) q8) q9] X.env = [(false, eval (.IfExp (.Compare (.Name nm q3) [.NotIn] [.Name f q4] q5) (.Name nm q6) (.Subscript L (.Constant (.int 0) j2 q7) q8) q9) X.env)] := by rfl)
    (hix : PlainIx (.Constant (.int 0) j2 q7) := by exact fun _ _ => rfl)
    (hdy : (nm == ("__debug__" : Str)) = false := by decide) (hdf : (f == ("__debug__" : Str)) = false := by decide) (hcf : (f == ("__classdict__" : Str)) = false := by decide) :
    PSs X [.Assign [.Name nm pa] (.Call (.Attribute (.Constant (.str Str.empty) j c1) "join" apos) [a] [] cpos) posA,
      .Expr (.Call (.Attribute (.Name f q1) "append" q2) [.IfExp (.Compare (.Name nm q3) [.NotIn] [.Name f q4] q5) (.Name nm q6) (.Subscript L (.Constant (.int 0) j2 q7) q8) q9] [] q10) posB] (tJoinPut i jf ta tl X) := by
  refine ⟨fun pins s σ H D I h => ?_⟩
  refine wpAny_execs_cons (wpAny_Assign_Name (thn (pek_join (Q := fun v H1 => match v with | .str z => Put i jf tl X D σ z H1 | _ => False) ha hb1 hf1 hl1 hs1 I h) fun u s1 ⟨k1, v, H1, I1, r1, g1, q1⟩ => ?_) hsA)
  cases v with
  | str z =>
    obtain ⟨t, rfl⟩ := r1
    obtain ⟨l, zs, hσ, gl, nf, few, out, inn⟩ := q1
    refine thnT (store_both I1 hN hi hk (v := .str z) ⟨t, rfl⟩) fun _ s2 k2 ⟨I2, m, hn, hm⟩ => ?_
    show wpAny _ _ (execs [_] _) _ _ s2
    refine wpAny_execs_cons (wpAny_Expr_any ?_ I2.quiet hsB)
    show wpAny _ _ (eval _ _) (fun _ s' => wpAny _ _ (execs [] _) _ _ s') _ s2
    refine wpAny_Call_method_late hb2 hf2 hl2 rfl (raw_name hj hf I2 hσ (fun u r => ?_) hdf hcf)
    cases r
    obtain ⟨h1, h2⟩ := tyV_is (T := "list") I2 (show RelV (.ref l) (.ref l) from rfl) (.inl ⟨rfl, _, gl.seq⟩)
    refine ⟨"list", "list.append", F.plainAttrs_list, F.slot_list_append, F.type_list_append, h1, h2, ?_⟩
    rw [hs2]
    refine Calls.callWith_builtin rfl (Calls.evalArgs_plain ?_)
    show wpAny _ _ (spliced ((false, eval _ X.env) :: [])) _ _ _
    refine Calls.spliced_cons (wpAny_IfExp (raw_notin I2 hk hn hm hj hf hσ gl.seq ?_ hdy hdf hcf))
    have lz : (zs.map V.str).length < sizeLine := by rw [List.length_map]; exact few
    by_cases c : z ∈ zs
    · rw [decide_eq_true c]
      refine (if_neg (by decide)).mpr (Subscript_ (thnT (hL.run pins s2 _ H1 _ (by omega) I2 (inn c)) fun v3 s3 k3 ⟨x3, H3, I3, r3, _, D2, cc, r, e3, gD, gl3, q3⟩ => wpAny_Constant_int ?_))
      subst e3
      cases r3
      obtain ⟨oD, ⟨its, n, rfl, rv, gi⟩, hD⟩ := gD
      obtain ⟨getD, _⟩ := I3.hok D2 _ hD
      cases rv with
      | cons rc rr =>
        obtain ⟨tc, rfl⟩ := rc
        rename_i us
        refine item_listR (s := { s3 with toks := s3.toks + 1 }) (items := (Value.str cc tc :: us).toArray) ⟨_, getD, rfl, n, rfl⟩ (Int.le_refl 0) (by decide) rfl (Calls.spliced_nil ?_) (hix _ _)
        refine app_g (I3.tok (s3.toks + 1)) gl3 nf lz (y := .str cc) ⟨tc, rfl⟩ (gi _ List.mem_cons_self) fun s' o' _ g' I' => wpAny_execs_nil ⟨_, _, I', q3 o' g'⟩
    · rw [decide_eq_false c]
      refine (if_pos rfl).mpr (raw_local I2.ok hk hn hm (Calls.spliced_nil ?_) hdy)
      exact app_g I2 gl nf lz (y := .str z) ⟨t, rfl⟩ g1 fun s' o' _ g' I' => wpAny_execs_nil ⟨_, _, I', out c o' g'⟩
  | _ => exact q1.elim
end
end Moot
namespace Moot
open PySem PySem.Spec PyProof.Rows L2
section
variable {X : Cx}
/-- from here on an empty list is known to the object -/
theorem pss_known {rest : List Stmt} {u : TS} (h : PSs X rest u) : PSs X rest (fun D σ H => ∃ l, H l = some (.lst []) ∧ Nf X l ∧ ∀ o, GdL o [] → u D σ (upd H l (.frz o (.lst [])))) := by
  refine ⟨fun pins s σ H D I q => ?_⟩
  obtain ⟨l, hl, nf, q⟩ := q
  obtain ⟨_, its, n, r, e⟩ := I.hok l _ hl
  cases r
  exact h.run pins s σ _ D (inv_lock I hl nf e) (q _ ⟨[], n, rfl, .nil, fun u m => by cases m⟩)
end
end Moot
namespace Moot
open PySem PySem.Spec PyProof.Rows L2
section
variable {tv : V → L2.St → Hp → Addr → (Hp → Prop) → Prop} {vs : List Nat} {σ : L2.St} {H1 : Hp} {D : Addr} {Qd : Hp → Prop} {o0 : Obj}
/-- a known comprehension over a walk of n things -/
theorem lcG_by {J : It} {n : Nat} (Pv : Nat → Hp → Prop) (h0 : Pv 0 (upd H1 D (.frz o0 (.lst [])))) (go : ∀ i H, i < n → Pv i H → J.go i H) (stop : ∀ H, Pv n H → J.stop n H)
    (hs : ∀ i x H H', i < n → Pv i H → J.yld i H x H' → tv x (wipe σ vs) H' D (Pv (i + 1))) (hd : ∀ H, Pv n H → Qd H) :
    ∃ W : Nat → Nat → Hp → Prop, (∃ m, W 0 m (upd H1 D (.frz o0 (.lst [])))) ∧ ∀ i m H, W i m H → (J.stop i H ∧ Qd H) ∨ (J.go i H ∧ ∃ Nx : Hp → Prop, (∀ H', Nx H' → ∃ m', m' < m ∧ W (i + 1) m' H') ∧ ∀ x H', J.yld i H x H' → tv x (wipe σ vs) H' D Nx) := by
  refine ⟨fun i m H => m = n - i ∧ i ≤ n ∧ Pv i H, ⟨n, by simp, Nat.zero_le _, h0⟩, ?_⟩
  rintro i m H ⟨rfl, hi, p⟩
  by_cases lt : i < n
  · exact .inr ⟨go i H lt p, Pv (i + 1), fun H' p' => ⟨n - (i + 1), by omega, rfl, lt, p'⟩, fun x H' y => hs i x H H' lt p y⟩
  · have e : i = n := by omega
    subst e
    exact .inl ⟨stop H p, hd H p⟩
theorem lcG_range {lo : Int} {n : Nat} (Pv : Nat → Hp → Prop) (h0 : Pv 0 (upd H1 D (.frz o0 (.lst [])))) (hs : ∀ i H, i < n → Pv i H → tv (.int (lo + i)) (wipe σ vs) H D (Pv (i + 1))) (hd : ∀ H, Pv n H → Qd H) :
    ∃ W : Nat → Nat → Hp → Prop, (∃ m, W 0 m (upd H1 D (.frz o0 (.lst [])))) ∧ ∀ i m H, W i m H → ((Itr lo n).stop i H ∧ Qd H) ∨ ((Itr lo n).go i H ∧ ∃ Nx : Hp → Prop, (∀ H', Nx H' → ∃ m', m' < m ∧ W (i + 1) m' H') ∧ ∀ x H', (Itr lo n).yld i H x H' → tv x (wipe σ vs) H' D Nx) :=
  lcG_by Pv h0 (fun _ _ lt _ => lt) (fun _ _ => Nat.le_refl _) (fun i x H H' lt p y => by
    obtain ⟨e, y⟩ := y
    subst e y
    exact hs i _ lt p) hd
theorem lcG_str {z : Str} (Pv : Nat → Hp → Prop) (h0 : Pv 0 (upd H1 D (.frz o0 (.lst [])))) (hs : ∀ i c H, z.cps[i]? = some c → Pv i H → tv (.str ⟨#[c]⟩) (wipe σ vs) H D (Pv (i + 1))) (hd : ∀ H, Pv z.cps.size H → Qd H) :
    ∃ W : Nat → Nat → Hp → Prop, (∃ m, W 0 m (upd H1 D (.frz o0 (.lst [])))) ∧ ∀ i m H, W i m H → ((Its z).stop i H ∧ Qd H) ∨ ((Its z).go i H ∧ ∃ Nx : Hp → Prop, (∀ H', Nx H' → ∃ m', m' < m ∧ W (i + 1) m' H') ∧ ∀ x H', (Its z).yld i H x H' → tv x (wipe σ vs) H' D Nx) :=
  lcG_by Pv h0 (fun _ _ lt _ => lt) (fun _ _ => Nat.le_refl _) (fun i x H H' lt p y => by
    obtain ⟨e, c, hc, y⟩ := y
    subst e y
    exact hs i c _ hc p) hd
end
end Moot
/-! Lists that change, each text in them with a token. -/
namespace Moot
open PySem PySem.Spec PyProof.Rows L2
def TLx (l : Addr) (xs : List V) : HO := .ext fun h => xs.length ≤ sizeLine ∧ ∃ (its : List Value) (n : Nat), Vals xs its ∧ GdS its ∧ h.get? l = some { cls := .type "list", data := .seq its.toArray n }
theorem tlx_ok {P : Program} {w : World} {H : Hp} {h : Heap} {l : Addr} {xs : List V} {its : List Value} {n : Nat} (z : xs.length ≤ sizeLine) (r : Vals xs its) (g : GdS its) (e : h.get? l = some { cls := .type "list", data := .seq its.toArray n }) : ObjOk P w H h l (TLx l xs) := by
  refine ⟨⟨z, its, n, r, g, e⟩, ⟨_, e⟩, ?_⟩
  rintro h1 h2 ⟨z, its, n, r, g, e⟩ k
  exact ⟨z, its, n, r, g, k _ e⟩
section
variable {X : Cx}
/-- list(xs) of a known list -/
theorem call_listX : CallR X (.type "list") (fun xs H Q => ∃ p ys, xs = [.ref p] ∧ GLs H p ys ∧ ∀ l, H l = none → Q (.ref l) (upd H l (TLx l ys))) := by
  intro pins s σ H xs us Q I r h
  obtain ⟨p, ys, rfl, ⟨o, ⟨its, n, rfl, r', g⟩, hH⟩, q⟩ := h
  obtain ⟨u, rfl, rx⟩ := vals1 r
  cases rx
  obtain ⟨e, hz, _⟩ := I.hok p _ hH
  have hlen := r'.length
  refine call_list_seq p (.inl rfl) e rfl rfl (fun h' c' kp e' => ?_) (by simp only [List.size_toArray] <;> omega)
  exact ⟨.ref s.heap.objs.size, _, I.laid (t' := s.toks) kp (Nat.le_refl _) (tlx_ok hz r' g e'), rfl, q _ (I.hok.fresh (Nat.le_refl _))⟩
/-- len(xs) of such a list -/
def rLenX : List V → Hp → VK → Prop := fun vs H Q => ∃ (l : Addr) (xs : List V), vs = [.ref l] ∧ H l = some (TLx l xs) ∧ Q (.int xs.length) H
theorem call_lenX : CallR X (.builtin "len") rLenX := by
  intro pins s σ H vs us Q I r h
  obtain ⟨l, xs, rfl, hl, q⟩ := h
  obtain ⟨u, rfl, rx⟩ := vals1 r
  cases rx
  obtain ⟨⟨z, its, n, rv, _, e⟩, _⟩ := I.hok l _ hl
  have lens := rv.length
  have hn := line63
  refine len_list (items := its.toArray) ⟨_, e, rfl, n, rfl⟩ (by simp only [List.size_toArray]; omega) ⟨.int xs.length, H, I.tok _, ⟨_, by rw [List.size_toArray, lens]⟩, q⟩
/-- xs.pop(i) of such a list -/
theorem pek_popX {nn : Nat} {o e : Expr} {to : TE} {t : TA} {apos cpos : Pos} (ho : PE X o to) (ha : PA X [e] t) (hbase : attributeBase o "pop" X.env (eval o X.env) = eval o X.env := by rfl)
    (hfew : ((backTo cpos (starEach [e] X.env)).all (fun x => !x.1) && (backToKw cpos (keywordEach [] X.env)).all (fun x => x.1.isSome) && decide ([e].length + ([] : List Keyword).length + (if ([] : List Keyword).isEmpty then 0 else 1) < 30)) = true := by rfl)
    (hline : (apos.endLine == cpos.line) = true := by rfl) (hs : starEach [e] X.env = [(false, eval e X.env)] := by rfl) :
    PEK nn X (.Call (.Attribute o "pop" apos) [e] [] cpos) (fun σ H Q => to σ H fun x H1 => ∃ l ys, x = .ref l ∧ H1 l = some (TLx l ys) ∧ t σ H1 fun vs H2 => ∃ xs i k y, vs = [.int i] ∧ H2 l = some (TLx l xs) ∧ -(2 ^ 63) ≤ i ∧ i < 2 ^ 63 ∧ seqIndex? i xs.length = some k ∧ xs[k]? = some y ∧
      Q y (upd H2 l (TLx l (xs.eraseIdx k)))) := by
  refine ⟨fun pins s σ H Q k0 I h => ?_⟩
  refine wpAny_Call_method_late hbase hfew hline rfl (thn (ho.run pins s σ H _ I h) fun v s1 ⟨x, H1, I1, r1, l, ys, ex, hl1, q1⟩ => ?_)
  subst ex
  cases r1
  obtain ⟨⟨_, _, _, _, _, e1⟩, _⟩ := I1.hok l _ hl1
  refine ⟨"list", "list.pop", F.plainAttrs_list, F.slot_list_pop, F.type_list_pop, ⟨_, e1, rfl⟩, (fun a e2 => by cases e2; exact ⟨_, e1, rfl⟩), ?_⟩
  have hA := ha.run cpos pins s1 σ H1 _ I1 q1
  rw [hs] at hA ⊢
  refine Calls.callWith_builtin rfl (Calls.evalArgs_plain (thn hA fun us s2 ⟨vs, H2, I2, r2, q2⟩ => ?_))
  obtain ⟨xs, i, k, y, rfl, hH, b1, b2, hk, hy, q⟩ := q2
  obtain ⟨u, rfl, ru⟩ := r2.one
  obtain ⟨tk, rfl⟩ := ru
  obtain ⟨⟨hz, its, n, r, g, hget⟩, _⟩ := I2.hok l _ hH
  have hl := r.length
  obtain ⟨uy, hw, ry⟩ := r.get hy
  refine call_meets F.slot_list_pop ⟨_, hget, rfl⟩ F.entry_list_pop (F.args_list_pop_2 _ _)
    (MeetsSeq.list_pop_at l its.toArray n i tk k uy (fitsIndex_both b1 b2) (by rw [List.size_toArray, ← hl]; exact hk) (by rw [← Array.getElem?_toList]; exact hw) (by rw [List.size_toArray]; omega)) ⟨hget, ?_⟩
  have hf : its.toArray.eraseIdxIfInBounds k = (its.eraseIdx k).toArray := by rw [List.eraseIdxIfInBounds_toArray]
  have at' := PySem.IsL.update hget (fun a : Array Value => a.eraseIdxIfInBounds k)
  rw [hf] at at'
  have I' : Inv X pins σ (upd H2 l (TLx l (xs.eraseIdx k))) { s2 with heap := s2.heap.update l (Obj.mapSeq fun a : Array Value => a.eraseIdxIfInBounds k), toks := s2.toks } :=
    I2.write (x := l) (e := l) (by rw [hH]; exact trivial) (.inl rfl) (fun b' u hb hu => (Heap.get?_update_other s2.heap _ (Ne.symm hb)).trans hu) ⟨_, at'⟩ (tlx_ok (by have := len_erase xs k; omega) (r.eraseIdx k) (g.erase k) at')
  exact ⟨y, _, I', ry, g uy (List.mem_of_getElem? hw), q⟩
/-- xs + ys, each a list in any way -/
theorem op_catS : OpR X (binaryOp .Add) (fun x y H Q => ∃ l b xs zs, x = .ref l ∧ y = .ref b ∧ Rd H l (.lst xs) ∧ Rd H b (.lst zs) ∧ xs.length + zs.length ≤ sizeLine ∧ ∀ p, H p = none → Q (.ref p) (upd H p (.lst (xs ++ zs)))) := by
  intro pins s σ H x y v u Q I rx ry h
  obtain ⟨l, b, xs, zs, rfl, rfl, hl, hb, hz, q⟩ := h
  cases rx
  cases ry
  obtain ⟨_, its, n, r, e⟩ := hl.ok I.hok
  obtain ⟨_, its2, n2, r2, e2⟩ := hb.ok I.hok
  have l1 := r.length
  have l2 := r2.length
  refine PySem.P.add_list e e2 ?_ (by rw [List.size_toArray, List.size_toArray]; omega)
  have ea : its.toArray ++ its2.toArray = (its ++ its2).toArray := by simp
  rw [ea]
  exact ⟨.ref _, _, I.lnew (t' := s.toks) (r.append r2) (by rw [List.length_append]; omega), rfl, q _ I.fresh⟩
theorem GLs.rd {H : Hp} {l : Addr} {xs : List V} (h : GLs H l xs) : Rd H l (.lst xs) := let ⟨o, _, e⟩ := h; .inr ⟨o, e⟩
end
end Moot
/-! Sets of keys of any one kind, filled and then walked in whatever order the world has. -/
namespace Moot
open PySem PySem.Spec PyProof.Rows L2
section
variable {P : Program} {w : World} {T : Type} [DecidableEq T]
/-- what is known of a set's entries and of its table -/
structure Laid (knd : KeyKind P w T) (S : T → Bool) (es : Array (Int × Value)) (t : SetTable) : Prop where
  el : ElemsOf knd es.toList
  mem : ∀ k, S k = true ↔ ∃ e ∈ es.toList, knd.is k e.2 = true
  one : es.toList.Pairwise fun e f => ∀ k, knd.is k e.2 = true → knd.is k f.2 = true → False
  few : es.size < scanBound
  fit : t.fits es.size = true
  ris : Ris t.place.toList
  led : w.params.followText "set-order" = true ∨ t.led = true
/-- a set of n keys stands at a, S tells which -/
def Stands (knd : KeyKind P w T) (h : Heap) (a : Addr) (S : T → Bool) (n : Nat) : Prop :=
  ∃ o es ep t, h.get? a = some o ∧ o.ExactSet ∧ o.data = .set es ep t ∧ es.size = n ∧ Laid knd S es t
variable {knd : KeyKind P w T} {S : T → Bool} {es es' : Array (Int × Value)} {t t' : SetTable}
/-- entries in another order, in a table that still rises -/
theorem Laid.moved (L : Laid knd S es t) (p : es'.toList.Perm es.toList) (f : t'.fits es'.size = true) (r : Ris t'.place.toList) (l : t'.led = t.led) : Laid knd S es' t' := by
  have z : es'.size = es.size := by
    have q := p.length_eq
    simpa using q
  refine ⟨L.el.perm p, fun k => (L.mem k).trans ⟨?_, ?_⟩, ?_, by rw [z]; exact L.few, f, r, ?_⟩
  · rintro ⟨e, m, i⟩
    exact ⟨e, p.mem_iff.mpr m, i⟩
  · rintro ⟨e, m, i⟩
    exact ⟨e, p.mem_iff.mp m, i⟩
  · exact (p.pairwise_iff fun {e f} q k a b => q k b a).mpr L.one
  · rw [l]
    exact L.led
/-- a key more -/
theorem Laid.more (L : Laid knd S es t) {k : T} {x : Value} (hk : knd.is k x = true) (hx : x.scannable = true) (new : ∀ e ∈ es.toList, knd.is k e.2 = false)
    (p : es'.toList.Perm (es.push (knd.hash k, x)).toList) (room : es.size + 1 < scanBound) (f : t'.fits es'.size = true) (r : Ris t'.place.toList) (l : t'.led = t.led) :
    Laid knd (fun j => S j || decide (j = k)) es' t' := by
  rw [Array.toList_push] at p
  have z : es'.size = es.size + 1 := by
    have q := p.length_eq
    simpa using q
  have inj : ∀ j, knd.is j x = true → j = k := fun j h => knd.inj x j k h hk
  refine ⟨(L.el.push hk hx).perm p, fun j => ?_, ?_, by rw [z]; exact room, f, r, by rw [l]; exact L.led⟩
  · rw [Bool.or_eq_true, decide_eq_true_eq, L.mem j]
    constructor
    · rintro (⟨e, m, i⟩ | rfl)
      · exact ⟨e, p.mem_iff.mpr (List.mem_append_left _ m), i⟩
      · exact ⟨_, p.mem_iff.mpr (List.mem_append_right _ List.mem_cons_self), hk⟩
    · rintro ⟨e, m, i⟩
      rcases List.mem_append.mp (p.mem_iff.mp m) with m | m
      · exact .inl ⟨e, m, i⟩
      · rw [List.mem_singleton.mp m] at i
        exact .inr (inj j i)
  · refine (p.pairwise_iff fun {e f} q k a b => q k b a).mpr ?_
    refine List.pairwise_append.mpr ⟨L.one, List.pairwise_singleton _ _, fun e m e2 m2 j a b => ?_⟩
    rw [List.mem_singleton.mp m2] at b
    have c := new e m
    rw [inj j b] at a
    rw [a] at c
    cases c
section
variable {A : Around} {E : Value → Shared → Prop} {s : Shared} {a : Addr} {n : Nat} {k : T} {x : Value}
/-- the table with one mark taken off is as good -/
theorem Laid.off (L : Laid knd S es t) (b : Bool) : Laid knd S es (if b = true then t else { t with plain := false }) := by
  cases b with
  | true => exact L
  | false => exact ⟨L.el, L.mem, L.one, L.few, SetTable.fits_plain_off L.fit, L.ris, L.led⟩
/-- entries are stored, and laid anew where the table has grown too full -/
theorem stow {g : Bool → Sem Unit} (quiet : ∀ (b : Bool) (s₁ : Shared) (Q₁ : Unit → Shared → Prop), Q₁ () s₁ → wpAny (model P w) A (g b) Q₁ E s₁)
    {o : Obj} {es₀ : Array (Int × Value)} {ep : Nat} {t₀ : SetTable} (ho : s.heap.get? a = some o) (hex : o.ExactSet) (hd : o.data = .set es₀ ep t₀) (L : Laid knd S es t) {full : Bool} {Q : Option Bool → Shared → Prop}
    (q : ∀ h', Heap.SameBut a s.heap h' → Stands knd h' a S es.size → Q (some true) { s with heap := h' }) :
    wpAny (model P w) A (storeSet a es t >>= fun _ => if full = true then (match relayAll t es (SetTable.grown es.size) with | (es2, t2, gave) => g gave >>= fun _ => storeSet a es2 t2 >>= fun _ => pure (some true)) else pure (some true)) Q E s := by
  have first := store_at (es' := es) (t' := t) ho hd
  have same := Heap.SameBut.update s.heap a (Obj.putSet es t)
  apply wpAny_bind
  apply wpAny_storeSet_of ho hd _ (fits_of_scanBound L.few)
  cases full with
  | false => exact wpAny_pure (q _ same ⟨_, es, _, t, first, hex, rfl, rfl, L⟩)
  | true =>
    have p := relayAll_perm t es (SetTable.grown es.size)
    have L2 := L.moved p (relayAll_fits t es _) (relayAll_ris t es _) (relayAll_led t es _)
    have z : (relayAll t es (SetTable.grown es.size)).1.size = es.size := by simpa using p.length_eq
    rw [if_pos rfl]
    revert L2 z
    rcases relayAll t es (SetTable.grown es.size) with ⟨es2, t2, gave⟩
    intro L2 z
    apply wpAny_bind
    apply quiet
    apply wpAny_bind
    apply wpAny_storeSet_of first rfl _ (fits_of_scanBound L2.few)
    exact wpAny_pure (q _ (same.trans (Heap.SameBut.update _ a _)) ⟨_, es2, _, t2, store_at first rfl, hex, rfl, z, L2⟩)
theorem add_key {Q : Bool → Shared → Prop} (R : Stands knd s.heap a S n) (hk : knd.is k x = true) (hx : x.scannable = true) (room : n + 1 < scanBound)
    (q : ∀ h', Heap.SameBut a s.heap h' → Stands knd h' a (fun j => S j || decide (j = k)) (if S k = true then n else n + 1) → Q (!S k) { s with heap := h' }) :
    wpAny (model P w) A (setAddHashed a x (knd.hash k)) Q E s := by
  obtain ⟨o, es, ep, t, ho, hex, hd, rfl, L⟩ := R
  unfold setAddHashed setAddHashedIn
  apply wpAny_holding
  apply wpAny_bind
  apply wpAny_setState_of ho hd L.fit
  show wpAny _ _ (if byScan x es = true then _ else _) _ _ _
  rw [byScan_of hx L.few L.el, if_pos rfl]
  unfold setAddByScan
  apply wpAny_bind
  apply wpAny_bind
  apply wpAny_rule
  apply wpAny_bind
  apply wpAny_setScan_of hk ho hd L.fit L.el
  cases met : List.findIdx? (fun e => knd.is k e.2) es.toList with
  | some j =>
    obtain ⟨lt, hit, _⟩ := List.findIdx?_eq_some_iff_getElem.mp met
    have old : S k = true := (L.mem k).mpr ⟨_, List.getElem_mem lt, hit⟩
    have same : (fun j => S j || decide (j = k)) = S := funext fun i => by
      by_cases e : i = k
      · rw [e, old, Bool.true_or]
      · rw [decide_eq_false e, Bool.or_false]
    have r := q s.heap (Heap.SameBut.refl a s.heap)
    rw [same, old] at r
    exact wpAny_pure (wpAny_pure (r ⟨o, es, ep, t, ho, hex, hd, rfl, L⟩))
  | none =>
    have new : ∀ e ∈ es.toList, knd.is k e.2 = false := List.findIdx?_eq_none_iff.mp met
    have no : S k = false := by
      cases c : S k with
      | false => rfl
      | true =>
        obtain ⟨e, m, i⟩ := (L.mem k).mp c
        rw [new e m] at i
        cases i
    have p := layNew_perm t es (knd.hash k) x
    have L1 := L.more hk hx new p room (layNew_fits t es (knd.hash k) x) (layNew_ris t es (knd.hash k) x L.ris) (layNew_led t es (knd.hash k) x)
    have z : (layNew t es (knd.hash k) x).1.size = es.size + 1 := by simpa using p.length_eq
    rw [no] at q
    dsimp only
    clear p
    generalize layNew t es (knd.hash k) x = Z at L1 z ⊢
    obtain ⟨es1, t1, dm, gave⟩ := Z
    dsimp only at L1 z ⊢
    have fin : ∀ h', Heap.SameBut a s.heap h' → Stands knd h' a (fun j => S j || decide (j = k)) es1.size → Q true { s with heap := h' } := fun h' sb r => q h' sb (z ▸ r)
    apply wpAny_bind
    have calm : ∀ {s₁ : Shared} {Q₁ : Unit → Shared → Prop}, Q₁ () s₁ → ∀ b : Bool, wpAny (model P w) A (match b with | true => rule "set.scan.the-table-gave-way" | false => pure ()) Q₁ E s₁ := fun h b => by
      cases b with
      | true => exact wpAny_rule h
      | false => exact wpAny_pure h
    refine calm ?_ gave
    have step : ∀ b : Bool, _ := fun b => stow (A := A) (E := E) (s := s) (Q := fun r s₁ => wpAny (model P w) A (match r with | some added => pure added | none => setAddHashedIn a x (knd.hash k) 99999) Q E s₁)
      (fun b s₁ Q₁ h => calm h b) ho hex hd (L1.off b) (full := !dm && (if b = true then t1 else { t1 with plain := false }).tooFull) fun h' sb r => wpAny_pure (fin h' sb r)
    split
    · rw [hashByValue_scannable 8 hx]
      exact wpAny_bind (wpAny_pure (step _))
    · exact wpAny_bind (wpAny_pure (step true))
end
end
end Moot
namespace Moot
open PySem PySem.Spec PyProof.Rows L2
section
variable {P : Program} {w : World} {T : Type} [DecidableEq T] {knd : KeyKind P w T} {A : Around} {E : Value → Shared → Prop} {s : Shared}
/-- the new set, empty -/
def setNew (w : World) : Obj := { cls := .type "set", dict := none, data := .set #[] 0 (.fresh 0 0 (!w.params.followText "set-order")) }
theorem setNew_stands (h : Heap) : Stands knd (h.push (setNew w)) h.objs.size (fun _ => false) 0 := by
  refine ⟨setNew w, #[], 0, _, Heap.get?_push_size _ rfl, ⟨rfl, rfl, rfl⟩, rfl, rfl, ?_⟩
  refine ⟨fun e m => by simp at m, fun k => by simp, by simp, by decide, rfl, List.Pairwise.nil, ?_⟩
  show _ ∨ (!w.params.followText "set-order") = true
  cases w.params.followText "set-order" <;> simp
/-- set.__new__(set, x) -/
theorem new_of (x : Value) {Q : Value → Shared → Prop} (q : Q (.ref s.heap.objs.size) { s with heap := s.heap.push (setNew w) }) :
    codeAny (model P w) A (.call (.builtin "set.__new__") ⟨[.type "set", x], []⟩) (wants Q E) s := by
  apply codeAny_of_tree
  show wpAny _ A.in1 (checkBuiltinCall "set.__new__" ⟨[.type "set", x], []⟩ >>= fun _ => again (.builtin "set.__new__" ⟨[.type "set", x], []⟩)) _ _ s
  apply wpAny_bind
  apply wpAny_of_eq (PySem.F.newCall_set_1 x)
  refine wpAny_pure ⟨plainId_quiet PySem.F.plain_set_new _, codeAny_builtin PySem.F.entry_set_new ?_⟩
  rw [Around.under_plainId PySem.F.plain_set_new _]
  unfold Builtin.«set.__new__» Builtin.Frozenset.newClass
  have self := sub_set_self
  rcases s with ⟨hp, gs, dr, tk, os⟩
  dsimp only at q ⊢
  wp_walk
  apply wpAny_askSetting
  apply wpAny_pure
  show wpAny _ _ (newObj (Value.type "set") (.set #[] 0 (SetTable.fresh 0 0 !w.params.followText "set-order"))) _ _ _
  unfold newObj
  exact wpAny_bind (wpAny_alloc (wpAny_pure (wpAny_pure q)))
/-- the same set in a heap that keeps it -/
theorem Stands.kept {h h' : Heap} {a : Addr} {S : T → Bool} {n : Nat} (R : Stands knd h a S n) (k : ∀ o, h.get? a = some o → h'.get? a = some o) : Stands knd h' a S n := by
  obtain ⟨o, es, ep, t, ho, r⟩ := R
  exact ⟨o, es, ep, t, k o ho, r⟩
theorem Stands.says {h : Heap} {a : Addr} {S S' : T → Bool} {n n' : Nat} (R : Stands knd h a S n) (e : ∀ k, S k = S' k) (en : n = n') : Stands knd h a S' n' := by
  have f : S = S' := funext e
  subst f en
  exact R
section
variable {R : Result → Shared → Prop} {I : Addr} {fp wr : List Addr} {G : Array GenState → Array GenState → Prop} {n : Nat} {Pv : Nat → Value → Prop} {St : Nat → Shared → Prop}
/-- each thing that an iterator yields goes into the set -/
theorem fill (W : WalksS P w A.in1 I fp wr G n Pv St) {a : Addr} (out : a ∉ fp) {xs : List T} (len : xs.length = n) (few : n + 1 < scanBound)
    (val : ∀ i v, Pv i v → ∃ k, xs[i]? = some k ∧ knd.is k v = true ∧ v.scannable = true) :
    ∀ (left i m : Nat) (s : Shared), i + left = n → m ≤ i → St i s → Stands knd s.heap a (fun k => decide (k ∈ xs.take i)) m →
      (∀ s' m', Moved (a :: wr) G s s' → m' ≤ n → Stands knd s'.heap a (fun k => decide (k ∈ xs)) m' → R (.ok (.ret .none)) s') →
      codeAny (model P w) A (.builtin "set.update.loop" ⟨[.ref a, .ref I], []⟩) R s := by
  have outw : a ∉ wr := fun h => out (W.sub _ h)
  have wider : ∀ b ∈ wr, b ∈ a :: wr := fun b h => List.mem_cons_of_mem _ h
  intro left
  induction left with
  | zero =>
    intro i m s e hm st X r
    obtain rfl : i = n := e
    apply codeAny_builtin PyProof.Rows.F.entry_set_update_loop
    rw [Around.under_plainId PyProof.Rows.F.plain_set_update_loop _]
    show wpAny _ A.in1 (pyNext (.ref I) >>= _) _ _ s
    apply wpAny_bind
    refine W.done s _ _ st fun s' mv => wpAny_pure ?_
    refine r s' m (mv.mono wider) hm ((X.kept fun o => mv.heap a o outw).says (fun k => ?_) rfl)
    rw [List.take_of_length_le (Nat.le_of_eq len)]
  | succ left ih =>
    intro i m s e hm st X r
    have lt : i < n := by omega
    apply codeAny_builtin PyProof.Rows.F.entry_set_update_loop
    rw [Around.under_plainId PyProof.Rows.F.plain_set_update_loop _]
    show wpAny _ A.in1 (pyNext (.ref I) >>= _) _ _ s
    apply wpAny_bind
    refine W.item i s _ _ lt st fun v s' pv st' mv => ?_
    obtain ⟨k, hk, isk, sc⟩ := val i v pv
    have X' := X.kept fun o => mv.heap a o outw
    show wpAny _ A.in1 (holding [v] (setAdd a v) >>= _) _ _ s'
    apply wpAny_bind
    apply wpAny_holding
    unfold setAdd
    apply wpAny_holding
    apply wpAny_bind
    apply knd.pyHash isk
    refine add_key (s := { s' with toks := s'.toks + 1 }) X' isk sc (by omega) fun h' sb Y => ?_
    have Z : Stands knd h' a (fun k => decide (k ∈ xs.take (i + 1))) (if decide (k ∈ xs.take i) = true then m else m + 1) := Y.says (fun j => by
      rw [List.take_add_one, hk]
      simp [List.mem_append]) rfl
    have hm' : (if decide (k ∈ xs.take i) = true then m else m + 1) ≤ i + 1 := by
      split <;> omega
    refine wpAny_pure ⟨plainId_quiet PyProof.Rows.F.plain_set_update_loop _, ?_⟩
    refine ih (i + 1) _ _ (by omega) hm' (W.frame _ s' _ _ st' (Nat.le_succ _) fun b hb o e => ?_) Z fun s'' m' mv' hm'' X'' => ?_
    · rw [sb.2 b fun c => out (c ▸ hb)]
      exact e
    · refine r s'' m' (Moved.trans W.gtrans ((mv.mono wider).then_heap (Nat.le_succ _) fun b o nb e => ?_) mv') hm'' X''
      rw [sb.2 b fun c => nb (c ▸ List.mem_cons_self)]
      exact e
end
end
end Moot
namespace Moot
open PySem PySem.Spec PyProof.Rows L2
section
variable {P : Program} {w : World} {T : Type} [DecidableEq T] {knd : KeyKind P w T} {A : Around} {E : Value → Shared → Prop} {s : Shared}
/-- what set(xs) leaves -/
def Filled (knd : KeyKind P w T) (xs : List T) (s s' : Shared) : Prop :=
  ∃ (h' : Heap) (tk m : Nat), s' = { s with heap := h', toks := tk } ∧ m ≤ xs.length ∧ Stands knd h' s.heap.objs.size (fun k => decide (k ∈ xs)) m ∧ ∀ b o, s.heap.get? b = some o → h'.get? b = some o
/-- set.__init__ of the new set, over a list -/
theorem init_list {l : Addr} {vs : List Value} {xs : List T} (calm : A.handled = none) (hl : s.heap.IsList l vs.toArray) (len : xs.length = vs.length) (few : vs.length + 1 < scanBound)
    (val : ∀ (i : Nat) v, vs[i]? = some v → ∃ k, xs[i]? = some k ∧ knd.is k v = true ∧ v.scannable = true) :
    codeAny (model P w) A (.call (.builtin "set.__init__") ⟨[.ref s.heap.objs.size, .ref l], []⟩) (wants (fun r s' => r = .none ∧ Filled knd xs s s') E) { s with heap := s.heap.push (setNew w) } := by
  have at0 : (s.heap.push (setNew w)).get? s.heap.objs.size = some (setNew w) := Heap.get?_push_size _ rfl
  have ty : Shared.TypeIs { s with heap := s.heap.push (setNew w) } (.ref s.heap.objs.size) "set" := ⟨_, at0, rfl⟩
  refine codeAny_call_builtin PySem.F.called_set.init.plain PySem.F.entry_set_init (check_set_init_1 ty ?_)
  have hl1 : (s.heap.push (setNew w)).IsList l vs.toArray := hl.push _
  have hlo := hl1
  obtain ⟨⟨oc, od, oda, osl⟩, ol, hc, nl, hda⟩ := hlo
  dsimp only at hc hda
  subst hc hda
  have n1 := PySem.F.sub_list_set
  have n2 := PySem.F.sub_list_frozenset
  have n3 : (Value.type "list" == Value.type "dict") = false := by decide
  unfold Builtin.«set.__init__» noKeywords Builtin.Frozenset.updateFrom
  generalize it : pyIter = iter
  wp_walk
  subst it
  apply wpAny_pyIter_list hl1
  apply wpAny_bind
  apply wpAny_runValue
  have size1 : (s.heap.push (setNew w)).objs.size = s.heap.objs.size + 1 := size_push' _ _
  have low : l < s.heap.objs.size := by
    obtain ⟨o, ho, _⟩ := hl
    exact Heap.lt_size ho
  have calm2 : A.in1.in1.handled = none := calm
  have ne : l ≠ (s.heap.push (setNew w)).objs.size := by
    rw [size1]
    exact Nat.ne_of_lt (Nat.lt_succ_of_lt low)
  have out : s.heap.objs.size ∉ [(s.heap.push (setNew w)).objs.size, l] := by
    rw [size1]
    intro m
    rcases List.mem_cons.mp m with c | c
    · exact Nat.ne_of_lt (Nat.lt_succ_self _) c
    · exact Nat.ne_of_gt low (List.mem_singleton.mp c)
  have walk := (Walks.list (prog := P) (w := w) calm2 _ l ne vs.toArray).toS
  refine fill (knd := knd) (xs := xs) walk out (by rw [len]; simp) (by simpa using few) (fun i v h => ?_) vs.toArray.size 0 0 _ (by simp) (Nat.le_refl _) ?_ ?_ fun s' m mv hm X => ?_
  · exact val i v (by simpa using h)
  · exact ⟨⟨_, Heap.get?_push_size _ rfl, rfl, rfl⟩, hl1.push _⟩
  · exact ((setNew_stands s.heap).kept fun o => Heap.get?_push_of_some _).says (fun k => by simp) rfl
  · apply wpAny_pure
    refine wpAny_pure ⟨rfl, s'.heap, s'.toks, m, ?_, by rw [len]; simpa using hm, X, fun b o e => ?_⟩
    · rcases s' with ⟨h', g', d', t', o'⟩
      obtain rfl : g' = s.gens := mv.gens
      obtain rfl : d' = s.drawn := mv.drawn
      obtain rfl : o' = s.os := mv.os
      rfl
    · have lt := Heap.lt_size e
      refine mv.heap b o (fun c => ?_) (Heap.get?_push_of_some _ (Heap.get?_push_of_some _ e))
      rcases List.mem_cons.mp c with c | c
      · exact Nat.ne_of_lt lt c
      · refine Nat.ne_of_lt (Nat.lt_succ_of_lt lt) (Eq.trans (List.mem_singleton.mp c) size1)
/-- set(xs) of a list -/
theorem set_list {l : Addr} {vs : List Value} {xs : List T} (calm : A.handled = none) (hl : s.heap.IsList l vs.toArray) (len : xs.length = vs.length) (few : vs.length + 1 < scanBound)
    (val : ∀ (i : Nat) v, vs[i]? = some v → ∃ k, xs[i]? = some k ∧ knd.is k v = true ∧ v.scannable = true) {Q : Value → Shared → Prop} (q : ∀ s', Filled knd xs s s' → Q (.ref s.heap.objs.size) s') :
    wpAny (model P w) A (call (.type "set") [.ref l]) Q E s := by
  obtain ⟨c, tl, mro⟩ := PySem.F.called_set.mro
  have made := PySem.F.called_set.made
  have sub := PySem.F.called_set.sub
  have f1 := PySem.F.called_set.notType
  have f2 := PySem.F.called_set.canCreate
  have f3 := PySem.F.typeCall_set_1 (.ref l)
  apply wpAny_call
  apply codeAny_of_tree
  show wpAny _ _ (callAny (.type "set") _) _ _ _
  refine wpAny_pure ⟨Code.quiet_builtin _ (by decide +kernel), ?_⟩
  apply codeAny_builtin PySem.F.entry_type_call
  rw [Around.under_plain (weight_type_call_type "set" [.ref l] []) rfl]
  repeat (any_goals (first | assumption | wp_step))
  refine codeAny_mono (new_of (.ref l) (E := E) (Q := fun x s₁ => x = .ref s.heap.objs.size ∧ s₁ = { s with heap := s.heap.push (setNew w) }) ⟨rfl, rfl⟩) ?_
  rintro (e | f) s₁ h
  · exact h
  · cases f with
    | ret x =>
      obtain ⟨rfl, rfl⟩ := h
      have ty : Shared.TypeIs { s with heap := s.heap.push (setNew w) } (.ref s.heap.objs.size) "set" := ⟨_, Heap.get?_push_size _ rfl, rfl⟩
      have g1 := PySem.F.called_set.init.lookup
      have g2 := PySem.F.called_set.init.bind (.ref s.heap.objs.size)
      repeat (any_goals (first | assumption | wp_step))
      refine codeAny_mono (init_list (A := A.in1) (E := E) (knd := knd) calm hl len few val) ?_
      rintro (e | f) s₂ h
      · exact h
      · cases f with
        | ret r =>
          obtain ⟨rfl, F⟩ := h
          exact wpAny_pure (wpAny_pure (q s₂ F))
        | _ => exact h.elim
    | _ => exact h.elim
end
end Moot
namespace Moot
open PySem PySem.Spec PyProof.Rows L2
section
variable {P : Program} {w : World} {A : Around} {E : Value → Shared → Prop} {s : Shared}
/-- the text of an entry -/
def txt (v : Value) : Str := match v with | .str x _ => x | _ => Str.empty
theorem txts_are : ∀ {vs : List Value}, (∀ v ∈ vs, ∃ x t, v = Value.str x t) → StrsAre vs (vs.map txt)
  | [], _ => .nil
  | v :: vs, h => by
    obtain ⟨x, t, rfl⟩ := h v List.mem_cons_self
    exact .cons x t (txts_are fun u m => h u (List.mem_cons_of_mem _ m))
theorem entry_txt {e : Int × Value} (h : ∃ k, (PySem.strKind P w).is k e.2 = true) : (∃ x t, e.2 = Value.str x t) ∧ (PySem.strKind P w).is (txt e.2) e.2 = true := by
  obtain ⟨k, i⟩ := h
  obtain ⟨t, q⟩ := Value.isStrOf_shape (x := k) i
  refine ⟨⟨k, t, q⟩, ?_⟩
  rw [q]
  exact strKind_is P w k t
/-- the texts of a set's entries -/
theorem Laid.txts {S : Str → Bool} {es : Array (Int × Value)} {t : SetTable} (L : Laid (PySem.strKind P w) S es t) :
    (∀ v ∈ es.toList.map (·.2), ∃ x t, v = Value.str x t) ∧ (es.toList.map fun e => txt e.2).Nodup ∧ ∀ k, k ∈ (es.toList.map fun e => txt e.2) ↔ S k = true := by
  have ok : ∀ e ∈ es.toList, (∃ x t, e.2 = Value.str x t) ∧ (PySem.strKind P w).is (txt e.2) e.2 = true := fun e m => by
    obtain ⟨⟨k, i, _⟩, _⟩ := L.el e m
    exact entry_txt ⟨k, i⟩
  refine ⟨fun v m => ?_, ?_, fun k => ?_⟩
  · obtain ⟨e, me, rfl⟩ := List.mem_map.mp m
    exact (ok e me).1
  · refine List.pairwise_map.mpr (List.Pairwise.imp_of_mem (fun {e f} me mf h c => ?_) L.one)
    refine h _ (ok e me).2 ?_
    rw [c]
    exact (ok f mf).2
  · rw [L.mem k, List.mem_map]
    constructor
    · rintro ⟨e, m, rfl⟩
      exact ⟨e, m, (ok e m).2⟩
    · rintro ⟨e, m, i⟩
      exact ⟨e, m, (PySem.strKind P w).inj e.2 _ _ (ok e m).2 i⟩
/-- sorted(a set of texts) -/
theorem sorted_txts {a : Addr} {S : Str → Bool} {n : Nat} {Q : Value → Shared → Prop} (R : Stands (PySem.strKind P w) s.heap a S n) (calm : A.handled = none) (few : n < 64)
    (q : ∀ s' p (out : Array Value) (c : Nat) (ys : List Str), (∀ b o, s.heap.get? b = some o → s'.heap.get? b = some o) → s'.gens = s.gens → s'.os = s.os → s.heap.objs.size ≤ p →
      s'.heap.get? p = some (seqObj "list" out c) → StrsAre out.toList ys → sortedS ys = true → ys.Nodup → (∀ k, k ∈ ys ↔ S k = true) → ys.length = n → Q (.ref p) s') :
    wpAny (model P w) A (call (.builtin "sorted") [.ref a]) Q E s := by
  obtain ⟨o, es, ep, t, ho, hex, hd, rfl, L⟩ := R
  obtain ⟨x1, x2, x3⟩ := L.txts
  apply Calls.call_function_entry kind_sorted plain_sorted entry_sorted (args_sorted1 _)
  unfold Builtin.«sorted»
  apply wpAny_bind (m := checkCount "sorted" 1 1 _)
  apply wpAny_pure
  apply wpAny_bind
  refine collect_set (A := A.in1) calm ⟨o, ho, hex.1, hd⟩ L.fit L.few L.ris L.led fun s1 vs kept grown same1 same2 pm => ?_
  have len : vs.length = es.size := by simpa using pm.length_eq
  have are : StrsAre vs (vs.map txt) := txts_are fun v m => x1 v (pm.mem_iff.mp m)
  have perm : (vs.map txt).Perm (es.toList.map fun e => txt e.2) := by
    have z := pm.map txt
    rwa [List.map_map] at z
  apply wpAny_bind
  refine wpAny_newList ?_ (by rw [len, sizeLine_eq]; omega)
  have here : (s1.heap.push (seqObj "list" vs.toArray 0)).get? s1.heap.objs.size = some (seqObj "list" vs.toArray 0) := Heap.get?_push_size _ rfl
  apply wpAny_bind
  apply wpAny_holding
  refine wpAny_call_entry slot_list_sort ⟨_, here, rfl⟩ entry_list_sort ?_ (args_list_sort _)
  refine list_sort_treeK strKind_oneLt here are.keysOf (fun v₁ v₂ rest e => keyKind_strs (by rw [← e]; exact are)) (by rw [len]; exact few) fun st a1 a2 => ⟨_, rfl, ?_⟩
  obtain ⟨ys, y1, y2, y3⟩ := sorted_out_str are a1 a2
  obtain ⟨c, at'⟩ := sortedHeap_at (vs := vs) (out := (arrOf st).map (·.2)) here
  have all := y2.trans perm
  refine wpAny_pure ⟨_, rfl, q _ s1.heap.objs.size _ c ys (fun b u e => ?_) same1 same2 grown at' y1 y3 (all.nodup_iff.mpr x2) (fun k => all.mem_iff.trans (x3 k)) ?_⟩
  · have z := kept b u e
    have lt := Heap.lt_size z
    show (sortedHeap (s1.heap.push (seqObj "list" vs.toArray 0)) s1.heap.objs.size vs _).get? b = some u
    rw [sortedHeap_old (Nat.ne_of_lt lt) (by rw [size_push']; exact Nat.lt_succ_of_lt lt)]
    exact Heap.get?_push_of_some _ z
  · simpa using all.length_eq
end
/-- the set of texts at a, as a thing of the abstract heap -/
def TxtSet (P : Program) (w : World) (a : Addr) (S : Str → Bool) (n : Nat) : HO := .ext fun h => Stands (PySem.strKind P w) h a S n
theorem txtSet_ok {P : Program} {w : World} {H : Hp} {h : Heap} {a : Addr} {S : Str → Bool} {n : Nat} (R : Stands (PySem.strKind P w) h a S n) : ObjOk P w H h a (TxtSet P w a S n) := by
  obtain ⟨o, _, _, _, ho, _⟩ := id R
  exact ⟨R, ⟨o, ho⟩, fun h1 h2 r k => r.kept k⟩
/-- set(zs), zs a list of fewer than 64 texts -/
def rTxtSet (K : PySem.W.Frag) (P : Program) (w : World) : List V → Hp → VK → Prop := fun vs H Q =>
  ∃ (l : Addr) (zs : List Str), vs = [V.ref l] ∧ SqL K H l (zs.map V.str) ∧ zs.length < 64 ∧ ∀ p m, H p = none → m ≤ zs.length → Q (.ref p) (upd H p (TxtSet P w p (fun k => decide (k ∈ zs)) m))
/-- sorted(S), S such a set -/
def rTxtSorted (P : Program) (w : World) : List V → Hp → VK → Prop := fun vs H Q =>
  ∃ (a : Addr) (S : Str → Bool) (n : Nat), vs = [V.ref a] ∧ H a = some (TxtSet P w a S n) ∧ n < 64 ∧
    ∀ (ys : List Str) (p : Addr), sortedS ys = true → ys.Nodup → (∀ k, k ∈ ys ↔ S k = true) → ys.length = n → H p = none → Q (.ref p) (upd H p (.lst (ys.map V.str)))
section
variable {X : Cx}
theorem cr_txtSet (calm : X.calm = true) : CallR X (.type "set") (rTxtSet X.K X.prog X.w) := by
  intro pins s σ H vs us Q I r h
  obtain ⟨l, zs, rfl, hl, few, q⟩ := h
  rw [Vals.ref1 r]
  obtain ⟨its, rel, pl, _⟩ := I.list hl
  have len : zs.length = its.length := by
    have z := rel.length
    rwa [List.length_map] at z
  refine set_list (knd := PySem.strKind X.prog X.w) (xs := zs) (I.ok.hd calm) pl.isList len (by unfold scanBound; omega) (fun i v e => ?_) fun s' F => ?_
  · have lt : i < zs.length := by
      rw [len]
      exact (List.getElem?_eq_some_iff.mp e).1
    obtain ⟨u, hu, t, rfl⟩ := rel.get (i := i) (x := .str zs[i]) (by simp [lt])
    cases Option.some.inj (e.symm.trans hu)
    exact ⟨zs[i], List.getElem?_eq_getElem lt, strKind_is _ _ _ _, rfl⟩
  · obtain ⟨h', tk, m, rfl, hm, R, kept⟩ := F
    exact ⟨.ref _, _, I.laid (t' := tk) kept (Nat.le_refl _) (txtSet_ok R), rfl, q _ m (I.hok.fresh (Nat.le_refl _)) hm⟩
theorem cr_txtSorted (calm : X.calm = true) : CallR X (.builtin "sorted") (rTxtSorted X.prog X.w) := by
  intro pins s σ H vs us Q I r h
  obtain ⟨a, S, n, rfl, ha, few, q⟩ := h
  have R : Stands (PySem.strKind X.prog X.w) s.heap a S n := (I.hok a _ ha).1
  rw [Vals.ref1 r]
  refine sorted_txts R (I.ok.hd calm) few fun s' p out c ys kept e1 e2 hp here are srt nd mem len => ?_
  have fits : (ys.map V.str).length ≤ sizeLine := by
    rw [List.length_map, len]
    exact small64 few
  have free : H p = none := I.hok.fresh hp
  have J : Inv X pins σ (upd H p (.lst (ys.map V.str))) { s with heap := s'.heap, gens := s'.gens, drawn := s'.drawn, toks := s'.toks } :=
    I.call (ch := []) (Un.laid kept hp free) (I.hok.laid kept hp ⟨fits, out.toList, c, vals_of_strs are, here⟩) (by rw [e1]; exact I.bare) fun _ z => nomatch z
  have same : s' = { s with heap := s'.heap, gens := s'.gens, drawn := s'.drawn, toks := s'.toks } := by
    rcases s' with ⟨h', g', d', t', o'⟩
    cases e2
    rfl
  rw [same]
  exact ⟨.ref p, _, J, rfl, q ys p srt nd mem len free⟩
end
end Moot
namespace Moot
open PySem PySem.Spec PyProof.Rows L2
section
variable {P : Program} {w : World} {T : Type} [DecidableEq T] {knd : KeyKind P w T} {A : Around} {E : Value → Shared → Prop} {s : Shared}
/-- set.__init__ of the new set, over a tuple -/
theorem init_tuple {l : Addr} {vs : List Value} {xs : List T} (calm : A.handled = none) (hl : s.heap.IsTuple l vs.toArray) (len : xs.length = vs.length) (few : vs.length + 1 < scanBound)
    (val : ∀ (i : Nat) v, vs[i]? = some v → ∃ k, xs[i]? = some k ∧ knd.is k v = true ∧ v.scannable = true) :
    codeAny (model P w) A (.call (.builtin "set.__init__") ⟨[.ref s.heap.objs.size, .ref l], []⟩) (wants (fun r s' => r = .none ∧ Filled knd xs s s') E) { s with heap := s.heap.push (setNew w) } := by
  have at0 : (s.heap.push (setNew w)).get? s.heap.objs.size = some (setNew w) := Heap.get?_push_size _ rfl
  have ty : Shared.TypeIs { s with heap := s.heap.push (setNew w) } (.ref s.heap.objs.size) "set" := ⟨_, at0, rfl⟩
  refine codeAny_call_builtin PySem.F.called_set.init.plain PySem.F.entry_set_init (check_set_init_1 ty ?_)
  have hl1 : (s.heap.push (setNew w)).IsTuple l vs.toArray := hl.push _
  have hlo := hl1
  obtain ⟨⟨oc, od, oda, osl⟩, ol, hc, nl, hda⟩ := hlo
  dsimp only at hc hda
  subst hc hda
  have n1 := PySem.F.sub_tuple_set
  have n2 := PySem.F.sub_tuple_frozenset
  have n3 : (Value.type "tuple" == Value.type "dict") = false := by decide
  unfold Builtin.«set.__init__» noKeywords Builtin.Frozenset.updateFrom
  generalize it : pyIter = iter
  wp_walk
  subst it
  apply wpAny_pyIter_tuple hl1
  apply wpAny_bind
  apply wpAny_runValue
  have size1 : (s.heap.push (setNew w)).objs.size = s.heap.objs.size + 1 := size_push' _ _
  have low : l < s.heap.objs.size := by
    obtain ⟨o, ho, _⟩ := hl
    exact Heap.lt_size ho
  have calm2 : A.in1.in1.handled = none := calm
  have ne : l ≠ (s.heap.push (setNew w)).objs.size := by
    rw [size1]
    exact Nat.ne_of_lt (Nat.lt_succ_of_lt low)
  have out : s.heap.objs.size ∉ [(s.heap.push (setNew w)).objs.size, l] := by
    rw [size1]
    intro m
    rcases List.mem_cons.mp m with c | c
    · exact Nat.ne_of_lt (Nat.lt_succ_self _) c
    · exact Nat.ne_of_gt low (List.mem_singleton.mp c)
  have walk := (Walks.tuple (prog := P) (w := w) calm2 _ l ne vs.toArray).toS
  refine fill (knd := knd) (xs := xs) walk out (by rw [len]; simp) (by simpa using few) (fun i v h => ?_) vs.toArray.size 0 0 _ (by simp) (Nat.le_refl _) ?_ ?_ fun s' m mv hm X => ?_
  · exact val i v (by simpa using h)
  · exact ⟨⟨_, Heap.get?_push_size _ rfl, rfl, rfl⟩, hl1.push _⟩
  · exact ((setNew_stands s.heap).kept fun o => Heap.get?_push_of_some _).says (fun k => by simp) rfl
  · apply wpAny_pure
    refine wpAny_pure ⟨rfl, s'.heap, s'.toks, m, ?_, by rw [len]; simpa using hm, X, fun b o e => ?_⟩
    · rcases s' with ⟨h', g', d', t', o'⟩
      obtain rfl : g' = s.gens := mv.gens
      obtain rfl : d' = s.drawn := mv.drawn
      obtain rfl : o' = s.os := mv.os
      rfl
    · have lt := Heap.lt_size e
      refine mv.heap b o (fun c => ?_) (Heap.get?_push_of_some _ (Heap.get?_push_of_some _ e))
      rcases List.mem_cons.mp c with c | c
      · exact Nat.ne_of_lt lt c
      · refine Nat.ne_of_lt (Nat.lt_succ_of_lt lt) (Eq.trans (List.mem_singleton.mp c) size1)
/-- set(xs) of a tuple -/
theorem set_tuple {l : Addr} {vs : List Value} {xs : List T} (calm : A.handled = none) (hl : s.heap.IsTuple l vs.toArray) (len : xs.length = vs.length) (few : vs.length + 1 < scanBound)
    (val : ∀ (i : Nat) v, vs[i]? = some v → ∃ k, xs[i]? = some k ∧ knd.is k v = true ∧ v.scannable = true) {Q : Value → Shared → Prop} (q : ∀ s', Filled knd xs s s' → Q (.ref s.heap.objs.size) s') :
    wpAny (model P w) A (call (.type "set") [.ref l]) Q E s := by
  obtain ⟨c, tl, mro⟩ := PySem.F.called_set.mro
  have made := PySem.F.called_set.made
  have sub := PySem.F.called_set.sub
  have f1 := PySem.F.called_set.notType
  have f2 := PySem.F.called_set.canCreate
  have f3 := PySem.F.typeCall_set_1 (.ref l)
  apply wpAny_call
  apply codeAny_of_tree
  show wpAny _ _ (callAny (.type "set") _) _ _ _
  refine wpAny_pure ⟨Code.quiet_builtin _ (by decide +kernel), ?_⟩
  apply codeAny_builtin PySem.F.entry_type_call
  rw [Around.under_plain (weight_type_call_type "set" [.ref l] []) rfl]
  repeat (any_goals (first | assumption | wp_step))
  refine codeAny_mono (new_of (.ref l) (E := E) (Q := fun x s₁ => x = .ref s.heap.objs.size ∧ s₁ = { s with heap := s.heap.push (setNew w) }) ⟨rfl, rfl⟩) ?_
  rintro (e | f) s₁ h
  · exact h
  · cases f with
    | ret x =>
      obtain ⟨rfl, rfl⟩ := h
      have ty : Shared.TypeIs { s with heap := s.heap.push (setNew w) } (.ref s.heap.objs.size) "set" := ⟨_, Heap.get?_push_size _ rfl, rfl⟩
      have g1 := PySem.F.called_set.init.lookup
      have g2 := PySem.F.called_set.init.bind (.ref s.heap.objs.size)
      repeat (any_goals (first | assumption | wp_step))
      refine codeAny_mono (init_tuple (A := A.in1) (E := E) (knd := knd) calm hl len few val) ?_
      rintro (e | f) s₂ h
      · exact h
      · cases f with
        | ret r =>
          obtain ⟨rfl, F⟩ := h
          exact wpAny_pure (wpAny_pure (q s₂ F))
        | _ => exact h.elim
    | _ => exact h.elim
end
/-- a set holds as many as there are -/
theorem Stands.least {P : Program} {w : World} {T : Type} [DecidableEq T] {knd : KeyKind P w T} {h : Heap} {a : Addr} {S : T → Bool} {n : Nat} (R : Stands knd h a S n) {xs : List T} (nd : xs.Nodup) (all : ∀ k ∈ xs, S k = true) : xs.length ≤ n := by
  obtain ⟨o, es, ep, t, _, _, _, rfl, L⟩ := R
  have pig : ∀ (l : List T) (D : List (Int × Value)), l.Nodup → (∀ k ∈ l, ∃ e ∈ D, knd.is k e.2 = true) → l.length ≤ D.length := by
    intro l
    induction l with
    | nil => intros; exact Nat.zero_le _
    | cons k l ih =>
      intro D nd hD
      obtain ⟨n1, n2⟩ := List.nodup_cons.mp nd
      obtain ⟨e, me, ie⟩ := hD k List.mem_cons_self
      obtain ⟨D1, D2, rfl⟩ := List.append_of_mem me
      have := ih (D1 ++ D2) n2 fun k' mk' => by
        obtain ⟨e', me', ie'⟩ := hD k' (List.mem_cons_of_mem _ mk')
        rcases List.mem_append.mp me' with z | z
        · exact ⟨e', List.mem_append_left _ z, ie'⟩
        · rcases List.mem_cons.mp z with rfl | z
          · exact absurd (knd.inj _ _ _ ie' ie ▸ mk') n1
          · exact ⟨e', List.mem_append_right _ z, ie'⟩
      rw [List.length_append] at this
      rw [List.length_cons, List.length_append, List.length_cons]
      omega
  have := pig xs es.toList nd fun k mk => (L.mem k).mp (all k mk)
  simpa using this
/-- set(zs), zs a list or a tuple of fewer than 64 texts -/
def rTxtSetA (K : PySem.W.Frag) (P : Program) (w : World) : List V → Hp → VK → Prop := fun vs H Q =>
  ∃ (l : Addr) (zs : List Str), vs = [V.ref l] ∧ (SqL K H l (zs.map V.str) ∨ SqT K H l (zs.map V.str)) ∧ zs.length < 64 ∧ ∀ p m, H p = none → m ≤ zs.length → Q (.ref p) (upd H p (TxtSet P w p (fun k => decide (k ∈ zs)) m))
/-- len(S), S such a set -/
def rTxtLen (P : Program) (w : World) : List V → Hp → VK → Prop := fun vs H Q =>
  ∃ (a : Addr) (S : Str → Bool) (n : Nat), vs = [V.ref a] ∧ H a = some (TxtSet P w a S n) ∧ n < 1000 ∧ ((∀ xs : List Str, xs.Nodup → (∀ k ∈ xs, S k = true) → xs.length ≤ n) → Q (.int (n : Int)) H)
section
variable {X : Cx}
theorem cr_txtSetA (calm : X.calm = true) : CallR X (.type "set") (rTxtSetA X.K X.prog X.w) := by
  intro pins s σ H vs us Q I r h
  obtain ⟨l, zs, rfl, hl, few, q⟩ := h
  rcases hl with hl | hl
  · exact cr_txtSet calm pins s σ H _ us Q I r ⟨l, zs, rfl, hl, few, q⟩
  · rw [Vals.ref1 r]
    obtain ⟨its, rel, pl, _⟩ := I.tuple hl
    have len : zs.length = its.length := by
      have z := rel.length
      rwa [List.length_map] at z
    refine set_tuple (knd := PySem.strKind X.prog X.w) (xs := zs) (I.ok.hd calm) pl len (by unfold scanBound; omega) (fun i v e => ?_) fun s' F => ?_
    · have lt : i < zs.length := by
        rw [len]
        exact (List.getElem?_eq_some_iff.mp e).1
      obtain ⟨u, hu, t, rfl⟩ := rel.get (i := i) (x := .str zs[i]) (by simp [lt])
      cases Option.some.inj (e.symm.trans hu)
      exact ⟨zs[i], List.getElem?_eq_getElem lt, strKind_is _ _ _ _, rfl⟩
    · obtain ⟨h', tk, m, rfl, hm, R, kept⟩ := F
      exact ⟨.ref _, _, I.laid (t' := tk) kept (Nat.le_refl _) (txtSet_ok R), rfl, q _ m (I.hok.fresh (Nat.le_refl _)) hm⟩
theorem cr_txtLen : CallR X (.builtin "len") (rTxtLen X.prog X.w) := by
  intro pins s σ H vs us Q I r h
  obtain ⟨a, S, n, rfl, ha, few, q⟩ := h
  have R : Stands (PySem.strKind X.prog X.w) s.heap a S n := (I.hok a _ ha).1
  have le := fun xs nd all => R.least (xs := xs) nd all
  rw [Vals.ref1 r]
  obtain ⟨o, es, ep, t, ho, hex, hd, rfl, L⟩ := R
  exact call_len_set ho hex hd L.fit (by omega) ⟨.int _, H, I.tok _, ⟨_, rfl⟩, q le⟩
end
end Moot
/-! Sets whose members are texts and tuples mixed. -/
namespace Moot
open PySem PySem.Spec PyProof.Rows L2
/-- what a member is: a text with a token, or a tuple -/
def KIs (h : Heap) (k : NestedKey) (v : Value) : Prop := NestedIs h k v ∧ k.depth ≤ 7 ∧ ((∃ x t, v = .str x t ∧ t ≠ 0) ∨ ∃ b, v = .ref b)
section
variable {P : Program} {w : World} {A : Around} {E : Value → Shared → Prop} {s : Shared}
theorem same_self {h : Heap} {k : NestedKey} {v : Value} (m : KIs h k v) {Q : Bool → Shared → Prop} (q : Q true s) : wpAny (model P w) A (isSame v v) Q E s := by
  rcases m.2.2 with ⟨x, t, rfl, ht⟩ | ⟨b, rfl⟩
  · show wpAny _ _ (isSame.created (x == x) t t) _ _ _
    unfold isSame.created
    have e : (t == 0 || t == 0) = false := by simpa using ht
    rw [e]
    simp only [Bool.false_eq_true, if_false, beq_self_eq_true, if_true]
    exact wpAny_pure q
  · exact wpAny_isSame_ref_self q
/-- of no class statement -/
def NoCls (P : Program) (w : World) (n : Nat) (s : Shared) (v : Value) : Prop := ∀ (A : Around) (E : Value → Shared → Prop) (Q : Bool → Shared → Prop), Q false s → wpAny (model P w) A (ofAClassStatement n v) Q E s
/-- whether its hash is by value: some answer -/
def HashBy (P : Program) (w : World) (n : Nat) (s : Shared) (v : Value) : Prop := ∀ (A : Around) (E : Value → Shared → Prop) (Q : Bool → Shared → Prop), (∀ b, Q b s) → wpAny (model P w) A (hashByValue n v) Q E s
theorem noCls_tup {n : Nat} {a : Addr} {o : Obj} {vs : Array Value} {m : Nat} (ho : s.heap.get? a = some o) (hc : o.cls = .type "tuple") (hd : o.data = .seq vs m) (all : ∀ v ∈ vs.toList, NoCls P w n s v) : NoCls P w (n + 1) s (.ref a) := by
  intro A E Q h
  have hT : s.TypeIs (.ref a) "tuple" := ⟨o, ho, hc⟩
  unfold ofAClassStatement
  refine wpAny_bind (wpAny_typeOf hT ?_)
  have e : (("tuple" : String) == "tuple") = true := by decide
  simp only [e, if_true, Bool.not_true, Bool.false_eq_true, if_false]
  try refine wpAny_bind (wpAny_pure ?_)
  try simp only [Bool.not_true, Bool.false_eq_true, if_false]
  refine wpAny_bind (wpAny_seqItems ho hd ?_)
  dsimp only
  refine wpAny_bind ?_
  rw [← Array.forIn_toList]
  refine wpAny_forIn_list _ (fun rest r s' => r.1 = none ∧ s' = s ∧ ∀ v ∈ rest, NoCls P w n s v) _ ?_ ?_ _ _ ⟨rfl, rfl, all⟩
  · rintro v rest r s' ⟨_, rfl, hall⟩
    refine wpAny_bind (hall v List.mem_cons_self _ _ _ ?_)
    simp only [Bool.false_eq_true, if_false]
    exact wpAny_pure ⟨rfl, rfl, fun u hu => hall u (List.mem_cons_of_mem _ hu)⟩
  · rintro ⟨r1, r2⟩ s' ⟨hr, rfl, _⟩
    simp only at hr
    subst hr
    exact wpAny_pure h
theorem hashBy_tupN {n : Nat} {a : Addr} {o : Obj} {vs : Array Value} {m : Nat} (ho : s.heap.get? a = some o) (hc : o.cls = .type "tuple") (hd : o.data = .seq vs m) (all : ∀ v ∈ vs.toList, HashBy P w n s v) : HashBy P w (n + 1) s (.ref a) := by
  intro A E Q h
  have hT : s.TypeIs (.ref a) "tuple" := ⟨o, ho, hc⟩
  unfold hashByValue
  refine wpAny_bind (wpAny_specialOf hT F.slot_tuple_hash.lookup ?_)
  show wpAny _ _ (seqItems? (.ref a) >>= _) _ _ s
  refine wpAny_bind (wpAny_seqItems ho hd ?_)
  refine wpAny_bind ?_
  show wpAny _ _ (forIn vs _ _) _ _ s
  rw [← Array.forIn_toList]
  refine wpAny_forIn_list _ (fun rest r s' => s' = s ∧ ∀ v ∈ rest, HashBy P w n s v) _ ?_ ?_ _ _ ⟨rfl, all⟩
  · rintro v rest r s' ⟨rfl, hall⟩
    refine wpAny_bind (hall v List.mem_cons_self _ _ _ fun b => ?_)
    cases b
    · simp only [Bool.not_false, if_true]
      exact wpAny_pure (wpAny_pure (h _))
    · simp only [Bool.not_true, Bool.false_eq_true, if_false]
      exact wpAny_pure ⟨rfl, fun u hu => hall u (List.mem_cons_of_mem _ hu)⟩
  · rintro ⟨r1, r2⟩ s' ⟨rfl, _⟩
    cases r1 with
    | none => exact wpAny_pure (h _)
    | some b => exact wpAny_pure (h _)
mutual
theorem noCls_key : ∀ (k : NestedKey) (v : Value) (n : Nat) (s : Shared), NestedIs s.heap k v → k.depth ≤ n → NoCls P w n s v
  | .none, _, n, s, x, _ => by cases x; intro A E Q h; cases n <;> exact wpAny_pure h
  | .num i, _, n, s, x, _ => by cases x <;> (intro A E Q h; cases n <;> exact wpAny_pure h)
  | .text y, _, n, s, x, _ => by cases x; intro A E Q h; cases n <;> exact wpAny_pure h
  | .tup ks, _, n, s, x, hn => by
    cases x with
    | tup hg hc hd hk =>
      simp only [NestedKey.depth] at hn
      cases n with
      | zero => omega
      | succ n => exact noCls_tup hg hc hd (noCls_keys ks _ n s hk (by omega))
theorem noCls_keys : ∀ (ks : List NestedKey) (vs : List Value) (n : Nat) (s : Shared), NestedAll s.heap ks vs → NestedKey.depthAll ks ≤ n → ∀ v ∈ vs, NoCls P w n s v
  | [], _, n, s, x, _, v, hv => by cases x; cases hv
  | k :: ks, _, n, s, x, hn, v, hv => by
    cases x with
    | cons x1 x2 =>
      simp only [NestedKey.depthAll] at hn
      rcases List.mem_cons.mp hv with e | hv
      · rw [e]; exact noCls_key k _ n s x1 (by omega)
      · exact noCls_keys ks _ n s x2 (by omega) v hv
end
mutual
theorem hashBy_key : ∀ (k : NestedKey) (v : Value) (n : Nat) (s : Shared), NestedIs s.heap k v → k.depth ≤ n → HashBy P w n s v
  | .none, _, n, s, x, _ => by cases x; intro A E Q h; cases n <;> exact wpAny_pure (h _)
  | .num i, _, n, s, x, _ => by cases x <;> (intro A E Q h; cases n <;> exact wpAny_pure (h _))
  | .text y, _, n, s, x, _ => by cases x; intro A E Q h; cases n <;> exact wpAny_pure (h _)
  | .tup ks, _, n, s, x, hn => by
    cases x with
    | tup hg hc hd hk =>
      simp only [NestedKey.depth] at hn
      cases n with
      | zero => omega
      | succ n => exact hashBy_tupN hg hc hd (hashBy_keys ks _ n s hk (by omega))
theorem hashBy_keys : ∀ (ks : List NestedKey) (vs : List Value) (n : Nat) (s : Shared), NestedAll s.heap ks vs → NestedKey.depthAll ks ≤ n → ∀ v ∈ vs, HashBy P w n s v
  | [], _, n, s, x, _, v, hv => by cases x; cases hv
  | k :: ks, _, n, s, x, hn, v, hv => by
    cases x with
    | cons x1 x2 =>
      simp only [NestedKey.depthAll] at hn
      rcases List.mem_cons.mp hv with e | hv
      · rw [e]; exact hashBy_key k _ n s x1 (by omega)
      · exact hashBy_keys ks _ n s x2 (by omega) v hv
end
/-- a search among them shows nothing -/
theorem seen_key {k : NestedKey} {v : Value} (hk : KIs s.heap k v) {ys : List Value} (hy : ∀ y ∈ ys, ∃ k', KIs s.heap k' y) {Q : Bool → Shared → Prop} (h : Q false s) : wpAny (model P w) A (searchCouldBeSeen v ys) Q E s := by
  unfold searchCouldBeSeen
  refine wpAny_bind ?_
  refine wpAny_forIn_list _ (fun rest r s' => r.1 = none ∧ s' = s ∧ ∀ y ∈ rest, ∃ k', KIs s.heap k' y) _ ?_ ?_ _ _ ⟨rfl, rfl, hy⟩
  · rintro y rest r s' ⟨_, rfl, hall⟩
    obtain ⟨k', hc⟩ := hall y List.mem_cons_self
    have rest' : ∀ y ∈ rest, ∃ k', KIs s'.heap k' y := fun u hu => hall u (List.mem_cons_of_mem _ hu)
    dsimp only
    split
    all_goals
      split
      · exact wpAny_pure ⟨rfl, rfl, rest'⟩
      · refine wpAny_bind (quiet_key k _ 8 s' hk.1 (by have := hk.2.1; omega) _ _ _ ?_)
        simp only [Bool.not_true, Bool.false_eq_true, if_false]
        refine wpAny_bind (quiet_key k' _ 8 s' hc.1 (by have := hc.2.1; omega) _ _ _ ?_)
        simp only [Bool.not_true, Bool.false_eq_true, if_false]
        refine wpAny_bind (noCls_key k _ 8 s' hk.1 (by have := hk.2.1; omega) _ _ _ ?_)
        simp only [Bool.false_eq_true, if_false]
        refine wpAny_bind (noCls_key k' _ 8 s' hc.1 (by have := hc.2.1; omega) _ _ _ ?_)
        simp only [Bool.false_eq_true, if_false]
        exact wpAny_pure ⟨rfl, rfl, rest'⟩
  · rintro ⟨r1, r2⟩ s' ⟨hr, rfl, _⟩
    simp only at hr
    subst hr
    exact wpAny_pure h
end
end Moot
namespace Moot
open PySem PySem.Spec PyProof.Rows L2
abbrev Mb := NestedKey × Value
def rowsN (w : World) (L : List Mb) : List (Int × Value) := L.map fun p => (p.1.hash w, p.2)
/-- the set at a has the members L, in the order of its table -/
structure SetN (w : World) (h : Heap) (a : Addr) (L : List Mb) (es : Array (Int × Value)) (ep : Nat) (t : SetTable) : Prop where
  ob : ∃ o, h.get? a = some o ∧ o.ExactSet ∧ o.data = .set es ep t
  rows : es.toList = rowsN w L
  tab : TabOk t (L.map fun p => p.1.hash w)
  nd : (L.map (·.1)).Nodup
  mem : ∀ p ∈ L, KIs h p.1 p.2
  led : w.params.followText "set-order" = true ∨ t.led = true
  room : L.length * 5 < t.mask * 3
  few : L.length < 64
section
variable {P : Program} {w : World} {A : Around} {E : Value → Shared → Prop} {s : Shared} {a : Addr} {L : List Mb} {es : Array (Int × Value)} {ep : Nat} {t : SetTable}
theorem SetN.size {h : Heap} (R : SetN w h a L es ep t) : es.size = L.length := by
  have e := congrArg List.length R.rows
  unfold rowsN at e
  rwa [Array.length_toList, List.length_map] at e
theorem SetN.fits {h : Heap} (R : SetN w h a L es ep t) : t.fits es.size = true := by
  have h1 := R.tab.sz
  rw [List.length_map] at h1
  have h2 := R.size
  have h3 := R.room
  unfold SetTable.fits SetTable.fill
  rw [R.tab.dm, Bool.and_eq_true, beq_iff_eq, decide_eq_true_eq]
  show t.place.size = es.size ∧ t.place.size + 0 ≤ t.mask
  omega
theorem SetN.entry {h : Heap} (R : SetN w h a L es ep t) {i : Nat} {p : Mb} (e : L[i]? = some p) : es[i]? = some (p.1.hash w, p.2) := by
  rw [← Array.getElem?_toList, R.rows]
  unfold rowsN
  rw [List.getElem?_map, e]
  rfl
theorem SetN.odd {h : Heap} (R : SetN w h a L es ep t) : ¬ t.gaveWay = true := by
  unfold SetTable.gaveWay
  rw [mask_odd R.tab.mok]
  decide
theorem dummy_none (m : Nat) : ∀ (n : Nat) (p : SetTable.Probe), p.dummy = none → (nth m p n).dummy = none
  | 0, _, h => h
  | n + 1, p, h => dummy_none m n (adv m p) (by unfold adv; split <;> exact h)
/-- the search, from the c-th step of the way on -/
theorem find_from (R : SetN w s.heap a L es ep t) {x : Value} {k : NestedKey} (hx : KIs s.heap k x) (hu : A.units + 8 < cLine) {hv : Int} (ehv : hv = k.hash w) {N : Nat} (fuelN : N < 10 * SetTable.turns t.mask)
    (free : way t.mask hv N ∉ t.place.toList) (taken : ∀ c, c < N → way t.mask hv c ∈ t.place.toList) {Q : SetFound → Shared → Prop}
    (inn : k ∈ L.map (·.1) → Q (.there none) s) (out : k ∉ L.map (·.1) → Q (.free (way t.mask hv N) false) s) :
    ∀ (f c : Nat) (stand : Option SetTable.Probe), stand.getD (t.probeStart hv) = nth t.mask (runAt t.mask (SetTable.bits hv % (t.mask + 1)) (SetTable.bits hv)) c → c ≤ N → N - c < f →
      (∀ (i : Nat) p, L[i]? = some p → p.1 = k → ∃ d, c ≤ d ∧ d < N ∧ t.place.toList[i]? = some (way t.mask hv d)) → wpAny (model P w) A (setSearchFrom a x hv true f stand) Q E s
  | 0, _, _, _, _, hf, _ => absurd hf (Nat.not_lt_zero _)
  | f + 1, c, stand, hst, hc, hf, later => by
    obtain ⟨o, ho, hex, hd⟩ := R.ob
    rw [setSearchFrom_succ]
    refine wpAny_bind (wpAny_setState_of ho hd R.fits ?_)
    dsimp only
    refine wp_if_neg R.odd ?_
    try refine wpAny_bind (wpAny_pure ?_)
    have shift : ∀ q, nth t.mask (nth t.mask (runAt t.mask (SetTable.bits hv % (t.mask + 1)) (SetTable.bits hv)) c) q = nth t.mask (runAt t.mask (SetTable.bits hv % (t.mask + 1)) (SetTable.bits hv)) (c + q) := fun q => (nth_add t.mask c _ q).symm
    have shiftJ : ∀ q, (nth t.mask (nth t.mask (runAt t.mask (SetTable.bits hv % (t.mask + 1)) (SetTable.bits hv)) c) q).j = way t.mask hv (c + q) := fun q => congrArg SetTable.Probe.j (shift q)
    have spec := go_spec t R.tab.ris R.tab.dm (fun i => (es[i]?.map (·.1)).getD 0) hv (10 * SetTable.turns t.mask) (N - c) _ (dummy_none t.mask c _ rfl) (by omega)
      (fun q hq => by rw [shiftJ]; exact taken (c + q) (by omega)) (by rw [shiftJ, show c + (N - c) = N by omega]; exact free)
    have stored : ∀ (i : Nat) p, L[i]? = some p → (fun i => (es[i]?.map (·.1)).getD 0) i = p.1.hash w := fun i p hp => by
      show (es[i]?.map (·.1)).getD 0 = _
      rw [R.entry hp]
      rfl
    rcases spec with ⟨q, i, hq, hi, _, before, met⟩ | ⟨before, met⟩
    · have met' : t.probe (fun i => (es[i]?.map (·.1)).getD 0) hv (stand.getD (t.probeStart hv)) = some (.candidate (way t.mask hv (c + q)) i (nth t.mask (runAt t.mask (SetTable.bits hv % (t.mask + 1)) (SetTable.bits hv)) (c + (q + 1)))) := by
        rw [hst, ← shiftJ, ← shift]
        exact met
      rw [met']
      dsimp only
      rw [shiftJ] at hi
      have lt : i < L.length := by
        have h1 : i < t.place.toList.length := (List.getElem?_eq_some_iff.mp hi).1
        have h2 := R.tab.sz
        rw [List.length_map] at h2
        rw [Array.length_toList] at h1
        omega
      obtain ⟨p, hp⟩ : ∃ p, L[i]? = some p := ⟨_, List.getElem?_eq_getElem lt⟩
      have mp : p ∈ L := List.mem_of_getElem? hp
      have kp := R.mem p mp
      have rest : wpAny (model P w) A (searchRest a x hv true f es t (way t.mask hv (c + q)) i (nth t.mask (runAt t.mask (SetTable.bits hv % (t.mask + 1)) (SetTable.bits hv)) (c + (q + 1)))) Q E s := by
        unfold searchRest
        rw [R.entry hp]
        dsimp only
        have d1 := kp.2.1
        have d2 := hx.2.1
        refine wpAny_bind (wpAny_holding (eqAt_key p.1 k A s p.2 x kp.1 hx.1 (by omega) P w E _ ?_))
        rw [← NestedKey.decide_eq]
        refine wpAny_bind (wpAny_setState_of ho hd R.fits ?_)
        dsimp only
        by_cases same : p.1 = k
        · refine wp_if_pos (by simp [same]) ?_
          exact wpAny_pure (inn (List.mem_map.mpr ⟨p, mp, same⟩))
        · refine wp_if_neg (by simp [same]) ?_
          try refine wpAny_bind (wpAny_pure ?_)
          rw [sameMem]
          dsimp only
          have here : t.slot (way t.mask hv (c + q)) = .live i := slot_live R.tab.ris hi
          simp only [if_true, here, R.entry hp]
          refine wpAny_bind (same_self kp (wpAny_bind (wpAny_pure ?_)))
          simp only [if_true]
          refine wp_if_neg (by simp [same]) ?_
          refine find_from R hx hu ehv fuelN free taken inn out f (c + (q + 1)) _ rfl (by omega) (by omega) fun i0 p0 h0 k0 => ?_
          obtain ⟨d, a1, a2, a3⟩ := later i0 p0 h0 k0
          refine ⟨d, ?_, a2, a3⟩
          rcases Nat.lt_or_ge d (c + q) with z | z
          · exact (before (d - c) i0 (by omega) (by rw [shiftJ, show c + (d - c) = d by omega]; exact a3) ((stored i0 p0 h0).trans (by rw [k0, ehv]))).elim
          · rcases Nat.lt_or_ge (c + q) d with y | y
            · omega
            · exfalso
              have ed : d = c + q := Nat.le_antisymm y z
              rw [ed] at a3
              have s0 := slot_live R.tab.ris a3
              rw [here] at s0
              injection s0 with s0
              rw [← s0, hp] at h0
              exact same ((congrArg Prod.fst (Option.some.inj h0)).trans k0)
      by_cases hl : t.led = true
      · refine wp_if_neg (by simp [hl]) ?_
        try refine wpAny_bind (wpAny_pure ?_)
        exact rest
      · refine wp_if_pos (by simp [hl]) ?_
        refine wpAny_bind (seen_key hx (fun y hy => ?_) ?_)
        · obtain ⟨e, he, ee⟩ := List.mem_map.mp hy
          have he1 : e ∈ es ∧ e.1 = hv := by simpa using he
          have he2 : e ∈ es.toList := by simpa using he1.1
          rw [R.rows] at he2
          obtain ⟨p2, hp2, e2⟩ := List.mem_map.mp he2
          refine ⟨p2.1, ?_⟩
          rw [← ee, ← e2]
          exact R.mem p2 hp2
        · refine wp_if_neg (by decide) ?_
          try refine wpAny_bind (wpAny_pure ?_)
          exact rest
    · have met' : t.probe (fun i => (es[i]?.map (·.1)).getD 0) hv (stand.getD (t.probeStart hv)) = some (.empty (way t.mask hv N) none) := by
        have e2 : way t.mask hv N = (nth t.mask (nth t.mask (runAt t.mask (SetTable.bits hv % (t.mask + 1)) (SetTable.bits hv)) c) (N - c)).j := by rw [shiftJ, show c + (N - c) = N by omega]
        rw [hst, e2]
        exact met
      rw [met']
      dsimp only
      refine wpAny_pure (out fun hm => ?_)
      obtain ⟨p0, h0, k0⟩ := List.mem_map.mp hm
      obtain ⟨i0, hi0, e0⟩ := List.getElem_of_mem h0
      have h00 : L[i0]? = some p0 := by rw [List.getElem?_eq_getElem hi0, e0]
      obtain ⟨d, a1, a2, a3⟩ := later i0 p0 h00 k0
      exact before (d - c) i0 (by omega) (by rw [shiftJ, show c + (d - c) = d by omega]; exact a3) ((stored i0 p0 h00).trans (by rw [k0, ehv]))
theorem turns_le {m : Nat} (h : MaskOk m) : 10 * SetTable.turns m ≤ 1420 := by
  unfold SetTable.turns
  rcases h with e | e | e <;> omega
theorem SetN.firstFree {h : Heap} (R : SetN w h a L es ep t) (hv : Int) : ∃ N, N < 10 * SetTable.turns t.mask ∧ way t.mask hv N ∉ t.place.toList ∧ ∀ c, c < N → way t.mask hv c ∈ t.place.toList :=
  R.tab.first (by rw [List.length_map]; have := R.room; omega) hv
/-- the search as adding asks for it -/
theorem find_at (R : SetN w s.heap a L es ep t) {x : Value} {k : NestedKey} (hx : KIs s.heap k x) (hu : A.units + 8 < cLine) {Q : SetFound → Shared → Prop} (inn : k ∈ L.map (·.1) → Q (.there none) s)
    (out : ∀ N, k ∉ L.map (·.1) → way t.mask (k.hash w) N ∉ t.place.toList → (∀ c, c < N → way t.mask (k.hash w) c ∈ t.place.toList) → Q (.free (way t.mask (k.hash w) N) false) s) :
    wpAny (model P w) A (setSearch a x (k.hash w) true) Q E s := by
  obtain ⟨N, h1, h2, h3⟩ := R.firstFree (k.hash w)
  have big := turns_le R.tab.mok
  unfold setSearch
  refine find_from R hx hu rfl h1 h2 h3 inn (fun hn => out N hn h2 h3) 100000 0 none rfl (Nat.zero_le _) (by omega) fun i p hp hk => ?_
  have hi : (L.map fun p => p.1.hash w)[i]? = some (k.hash w) := by
    rw [List.getElem?_map, hp, ← hk]
    rfl
  have hil : i < t.place.toList.length := by
    have e1 : i < L.length := (List.getElem?_eq_some_iff.mp hp).1
    have e2 := R.tab.sz
    rw [List.length_map] at e2
    rw [Array.length_toList]
    omega
  have hj := List.getElem?_eq_getElem hil
  obtain ⟨c, hc, e⟩ := R.tab.before h2 hi hj
  exact ⟨c, Nat.zero_le _, hc, by rw [hj, e]⟩
end
end Moot
namespace Moot
open PySem PySem.Spec PyProof.Rows L2
/-- entries picked in another order -/
theorem picked {w : World} (L : List Mb) (es : Array (Int × Value)) (order : Array Nat) (hr : es.toList = rowsN w L) (hp : order.toList.Perm (List.range L.length)) :
    ∃ L2, (order.filterMap (es[·]?)).toList = rowsN w L2 ∧ L2.Perm L ∧ (L2.map fun p => p.1.hash w) = order.toList.map fun i => (es.map (·.1)).getD i 0 := by
  have at_ : ∀ i (h : i < L.length), es[i]? = some ((L[i]).1.hash w, (L[i]).2) := fun i h => by
    rw [← Array.getElem?_toList, hr]
    unfold rowsN
    rw [List.getElem?_map, List.getElem?_eq_getElem h]
    rfl
  have key : ∀ l : List Nat, (∀ i ∈ l, i < L.length) → ∃ L2 : List Mb, l.filterMap (fun i => es[i]?) = rowsN w L2 ∧ L2 = l.filterMap (fun i => L[i]?) ∧ (L2.map fun p => p.1.hash w) = l.map fun i => (es.map (·.1)).getD i 0 := by
    intro l
    induction l with
    | nil => intro _; exact ⟨[], rfl, rfl, rfl⟩
    | cons i l ih =>
      intro hl
      have hi := hl i List.mem_cons_self
      obtain ⟨L2, e1, e2, e3⟩ := ih fun j hj => hl j (List.mem_cons_of_mem _ hj)
      refine ⟨L[i] :: L2, ?_, ?_, ?_⟩
      · rw [List.filterMap_cons_some (at_ i hi), e1]
        rfl
      · rw [List.filterMap_cons_some (List.getElem?_eq_getElem hi), e2]
      · rw [List.map_cons, List.map_cons, e3]
        have e5 : (es.map (·.1))[i]? = some ((L[i]).1.hash w) := by
          rw [Array.getElem?_map, at_ i hi]
          rfl
        have e4 : (es.map (·.1)).getD i 0 = (L[i]).1.hash w := by simp [Array.getD_eq_getD_getElem?, e5]
        rw [e4]
  obtain ⟨L2, e1, e2, e3⟩ := key order.toList fun i hi => List.mem_range.mp (hp.mem_iff.mp hi)
  refine ⟨L2, by first | (rw [Array.toList_filterMap]; exact e1) | simpa using e1, ?_, e3⟩
  have h1 : L2.Perm ((List.range L.length).filterMap fun i => L[i]?) := by
    rw [e2]
    exact hp.filterMap _
  have h2 : (List.range L.length).filterMap (fun i => L[i]?) = L := by
    have upto : ∀ n, n ≤ L.length → (List.range n).filterMap (fun i => L[i]?) = L.take n := by
      intro n
      induction n with
      | zero => intro _; rfl
      | succ n ih =>
        intro hn
        have lt : n < L.length := hn
        rw [List.range_succ, List.filterMap_append, ih (Nat.le_of_lt lt), List.take_succ, List.getElem?_eq_getElem lt, List.filterMap_cons_some (List.getElem?_eq_getElem lt)]
        rfl
    rw [upto L.length (Nat.le_refl _), List.take_length]
  rw [h2] at h1
  exact h1
/-- what stands in the object, apart from room -/
structure Held (w : World) (h : Heap) (L : List Mb) (es : Array (Int × Value)) (t : SetTable) : Prop where
  rows : es.toList = rowsN w L
  tab : TabOk t (L.map fun p => p.1.hash w)
  nd : (L.map (·.1)).Nodup
  mem : ∀ p ∈ L, KIs h p.1 p.2
  led : w.params.followText "set-order" = true ∨ t.led = true
  few : L.length < 64
theorem Held.size {w : World} {h : Heap} {L : List Mb} {es : Array (Int × Value)} {t : SetTable} (R : Held w h L es t) : es.size = L.length := by
  have e := congrArg List.length R.rows
  unfold rowsN at e
  rwa [Array.length_toList, List.length_map] at e
theorem Held.fill {w : World} {h : Heap} {L : List Mb} {es : Array (Int × Value)} {t : SetTable} (R : Held w h L es t) : t.fill = L.length := by
  have := R.tab.sz
  rw [List.length_map] at this
  unfold SetTable.fill
  rw [R.tab.dm, this]
  rfl
theorem tab_plain {t : SetTable} {hs : List Int} (T : TabOk t hs) (b : Bool) : TabOk (if b = true then t else { t with plain := false }) hs := by
  cases b
  · exact ⟨T.ris, T.dm, T.sz, T.mok, T.bd, T.reach⟩
  · exact T
theorem Held.plain {w : World} {h : Heap} {L : List Mb} {es : Array (Int × Value)} {t : SetTable} (R : Held w h L es t) (b : Bool) : Held w h L es (if b = true then t else { t with plain := false }) :=
  ⟨R.rows, tab_plain R.tab b, R.nd, R.mem, by cases b <;> exact R.led, R.few⟩
/-- the members stay what they are when the set alone is written -/
theorem kis_same {h h' : Heap} {a : Addr} {o : Obj} {es : Array (Int × Value)} {ep : Nat} {t : SetTable} (ho : h.get? a = some o) (hd : o.data = .set es ep t) (sb : Heap.SameBut a h h') {k : NestedKey} {v : Value} (m : KIs h k v) : KIs h' k v :=
  ⟨NestedIs.at (fun b ob vs n hb hc => by
    refine (sb.2 b fun e => ?_).trans hb
    subst e
    rw [ho] at hb
    cases hb
    rw [hd] at hc
    cases hc) k _ m.1, m.2⟩
theorem kis_keep {h h' : Heap} (kp : ∀ b o, h.get? b = some o → h'.get? b = some o) {k : NestedKey} {v : Value} (m : KIs h k v) : KIs h' k v :=
  ⟨NestedIs.at (fun b ob vs n hb _ => kp b ob hb) k _ m.1, m.2⟩
section
variable {P : Program} {w : World} {A : Around} {E : Value → Shared → Prop} {s : Shared} {a : Addr} {L : List Mb} {es : Array (Int × Value)} {ep : Nat} {t : SetTable}
/-- the object with a member more -/
theorem held_put {h : Heap} (R : SetN w h a L es ep t) {x : Value} {k : NestedKey} (hx : KIs h k x) (few : L.length + 1 < 64) (new : k ∉ L.map (·.1)) {N : Nat} (free : way t.mask (k.hash w) N ∉ t.place.toList) (taken : ∀ c, c < N → way t.mask (k.hash w) c ∈ t.place.toList) :
    ∃ L1, Held w h L1 (SetTable.insertAt es (t.put (way t.mask (k.hash w) N)).2 (k.hash w, x)) (t.put (way t.mask (k.hash w) N)).1 ∧ L1.Perm ((k, x) :: L) ∧ (t.put (way t.mask (k.hash w) N)).1.mask = t.mask := by
  obtain ⟨q1, q2, q3, q4, q5, _⟩ := R.tab.put free taken
  rw [q1]
  refine ⟨L.take (SetTable.below t.place (way t.mask (k.hash w) N)) ++ (k, x) :: L.drop (SetTable.below t.place (way t.mask (k.hash w) N)), ?_, put_perm _ _ _, q4⟩
  generalize SetTable.below t.place (way t.mask (k.hash w) N) = p at q2 q3
  have pm := put_perm L p (k, x)
  refine ⟨?_, ?_, ?_, fun r hr => ?_, by rw [q5]; exact R.led, ?_⟩
  · rw [SetTable.toList_insertAt, R.rows]
    unfold rowsN
    rw [List.map_append, List.map_cons, List.map_take, List.map_drop]
  · rw [List.map_append, List.map_cons, List.map_take, List.map_drop]
    exact q3
  · refine (pm.map (·.1)).nodup_iff.mpr ?_
    rw [List.map_cons]
    exact List.nodup_cons.mpr ⟨new, R.nd⟩
  · rcases List.mem_cons.mp (pm.mem_iff.mp hr) with e | hr
    · rw [e]; exact hx
    · exact R.mem r hr
  · rw [pm.length_eq]
    exact few
/-- laid anew, larger -/
theorem held_relaid {h : Heap} (R : Held w h L es t) {wanted M : Nat} (hw : SetTable.sizeAbove wanted - 1 = M) (hM : MaskOk M) (hn : L.length * 5 < M * 3) :
    ∃ t' order L', t.relaid (es.map (·.1)) wanted = some (t', order) ∧ Held w h L' (order.filterMap (es[·]?)) t' ∧ L'.Perm L ∧ t'.mask = M ∧ order.toList.Perm (List.range es.size) := by
  have sz := R.size
  obtain ⟨t', order, e, hp, T, em, el, _, _⟩ := relaid_ok t (hs := es.map (·.1)) (wanted := wanted) hw hM (by rw [Array.size_map, sz]; omega)
  rw [Array.size_map] at hp
  obtain ⟨L', r1, r2, r3⟩ := picked L es order R.rows (by rw [← sz]; exact hp)
  refine ⟨t', order, L', e, ⟨r1, by rw [r3]; exact T, (r2.map (·.1)).nodup_iff.mpr R.nd, fun p m => R.mem p (r2.mem_iff.mp m), by rw [el]; exact R.led, by rw [r2.length_eq]; exact R.few⟩, r2, em, hp⟩
/-- how large the table becomes -/
theorem grown_to {m n : Nat} (hm : MaskOk m) (lo : (n - 1) * 5 < m * 3) (full : n * 5 ≥ m * 3) (few : n < 64) (n1 : 1 ≤ n) : ∃ M, SetTable.sizeAbove (SetTable.grown n) - 1 = M ∧ MaskOk M ∧ n * 5 < M * 3 ∧ SetTable.sizeAbove (SetTable.grown n) ≤ 128 := by
  rcases hm with e | e | e
  · have : n = 5 := by omega
    subst this
    exact ⟨31, by rw [size_20], .inr (.inl rfl), by decide, by rw [size_20]; decide⟩
  · have : n = 19 := by omega
    subst this
    exact ⟨127, by rw [size_76], .inr (.inr rfl), by decide, by rw [size_76]; decide⟩
  · omega
end
end Moot
namespace Moot
open PySem PySem.Spec PyProof.Rows L2
section
variable {P : Program} {w : World} {A : Around} {E : Value → Shared → Prop} {s : Shared} {a : Addr} {L : List Mb} {es : Array (Int × Value)} {ep : Nat} {t : SetTable}
/-- the object is so, and has room -/
theorem Held.set {h h' : Heap} {o : Obj} (R : Held w h L es t) (ho : h'.get? a = some o) (hex : o.ExactSet) (hd : o.data = .set es ep t) (mem : ∀ p ∈ L, KIs h' p.1 p.2) (room : L.length * 5 < t.mask * 3) : SetN w h' a L es ep t :=
  ⟨⟨o, ho, hex, hd⟩, R.rows, R.tab, R.nd, mem, R.led, room, R.few⟩
/-- a slot that is free, whatever the hashes are -/
theorem free_slot {h : Heap} (R : SetN w h a L es ep t) (hv : Int) : ∃ N, t.freeSlot hv = some (way t.mask hv N, false) ∧ way t.mask hv N ∉ t.place.toList ∧ ∀ c, c < N → way t.mask hv c ∈ t.place.toList := by
  obtain ⟨N, h1, h2, h3⟩ := R.firstFree hv
  refine ⟨N, ?_, h2, h3⟩
  have spec := go_spec t R.tab.ris R.tab.dm (fun _ => hv + 1) hv (10 * SetTable.turns t.mask) N (runAt t.mask (SetTable.bits hv % (t.mask + 1)) (SetTable.bits hv)) rfl h1 h3 h2
  rcases spec with ⟨_, _, _, _, z, _⟩ | ⟨_, met⟩
  · omega
  · unfold SetTable.freeSlot
    have e : t.probe (fun _ => hv + 1) hv (t.probeStart hv) = some (.empty (way t.mask hv N) none) := met
    rw [e]
    rfl
/-- the object is written with a member more, the table laid anew where it is too full -/
theorem finish {β : Type} {o : Obj} (ho : s.heap.get? a = some o) (hex : o.ExactSet) {es0 : Array (Int × Value)} {t0 : SetTable} (hd : o.data = .set es0 ep t0) (R : Held w s.heap L es t) (lo : (L.length - 1) * 5 < t.mask * 3) (n1 : 1 ≤ L.length) {full : Bool} (hf : full = t.tooFull) {c1 k : Sem β} {Q : β → Shared → Prop}
    (q : ∀ h' L' es' ep' t', Heap.SameBut a s.heap h' → SetN w h' a L' es' ep' t' → L'.Perm L → wpAny (model P w) A k Q E { s with heap := h' })
    (big : ∀ (h1 : Heap) (o1 : Obj) t' order, h1.get? a = some o1 → o1.ExactSet → o1.data = .set es (ep + 1) t → SetTable.sizeAbove (SetTable.grown es.size) ≤ 128 → t.relaid (es.map (·.1)) (SetTable.grown es.size) = some (t', order) → (order.filterMap (es[·]?)).size = es.size → t'.fits es.size = true → order.toList.Perm (List.range es.size) → es.size < 64 → t.fits es.size = true →
      (∀ h2 ep2, Heap.SameBut a h1 h2 → (∃ o2, h2.get? a = some o2 ∧ o2.ExactSet ∧ o2.data = .set (order.filterMap (es[·]?)) ep2 t') → wpAny (model P w) A k Q E { s with heap := h2 }) → wpAny (model P w) A c1 Q E { s with heap := h1 }) :
    wpAny (model P w) A (storeSet a es t >>= fun _ => if full = true then c1 else k) Q E s := by
  have sz := R.size
  have few := R.few
  refine wpAny_bind (wpAny_storeSet_of ho hd ?_ (by rw [sz, sizeLine_eq]; omega))
  have sb : Heap.SameBut a s.heap (s.heap.update a (Obj.putSet es t)) := Heap.SameBut.update ..
  have ho1 := store_at (es' := es) (t' := t) ho hd
  generalize s.heap.update a (Obj.putSet es t) = h1 at sb ho1 ⊢
  have mem1 : ∀ p ∈ L, KIs h1 p.1 p.2 := fun p m => kis_same ho hd sb (R.mem p m)
  have tf : full = decide (L.length * 5 ≥ t.mask * 3) := by
    rw [hf]
    unfold SetTable.tooFull
    rw [R.fill]
  cases full with
  | false =>
    rw [if_neg (by decide)]
    have := of_decide_eq_false tf.symm
    exact q h1 L es (ep + 1) t sb (R.set ho1 ⟨hex.1, hex.2.1, hex.2.2⟩ rfl mem1 (by omega)) (List.Perm.refl _)
  | true =>
    rw [if_pos rfl]
    have ge := of_decide_eq_true tf.symm
    obtain ⟨M, e1, e2, e3, e4⟩ := grown_to R.tab.mok lo ge few n1
    obtain ⟨t', order, L', r1, r2, r3, r4, r5⟩ := held_relaid R e1 e2 e3
    have fit : ∀ {t1 : SetTable} {es1 : Array (Int × Value)} {L1 : List Mb}, Held w s.heap L1 es1 t1 → L1.length = L.length → L1.length ≤ t1.mask → t1.fits es.size = true := fun {t1 es1 L1} R1 hl hm => by
      have h1 := R1.tab.sz
      rw [List.length_map] at h1
      unfold SetTable.fits
      rw [R1.fill, Bool.and_eq_true, beq_iff_eq, decide_eq_true_eq]
      omega
    have lm : L.length ≤ t.mask := by
      rcases R.tab.mok with e | e | e <;> omega
    refine big h1 _ t' order ho1 ⟨hex.1, hex.2.1, hex.2.2⟩ rfl (by rw [sz]; exact e4) (by rw [sz]; exact r1) (by rw [r2.size, r3.length_eq, sz]) (fit r2 r3.length_eq (by rw [r4, r3.length_eq]; omega)) r5 (by omega) (fit R rfl lm) fun h2 ep2 sb2 ⟨o2, ho2, hex2, hd2⟩ => ?_
    exact q h2 L' _ ep2 t' (sb.trans sb2) (r2.set ho2 hex2 hd2 (fun p m => kis_same ho1 rfl sb2 (mem1 p (r3.mem_iff.mp m))) (by rw [r4, r3.length_eq]; exact e3)) r3
/-- a member more -/
theorem add_N (R : SetN w s.heap a L es ep t) {x : Value} {k : NestedKey} (hx : KIs s.heap k x) (hu : A.units + 8 < cLine) (few : L.length + 1 < 64) {Q : Bool → Shared → Prop}
    (q : ∀ b h' L' es' ep' t', Heap.SameBut a s.heap h' → SetN w h' a L' es' ep' t' → (k ∈ L.map (·.1) → L' = L) → (k ∉ L.map (·.1) → L'.Perm ((k, x) :: L)) → Q b { s with heap := h' }) :
    wpAny (model P w) A (setAddHashed a x (k.hash w)) Q E s := by
  obtain ⟨o, ho, hex, hd⟩ := R.ob
  have room := R.room
  have old : k ∈ L.map (·.1) → Q false s := fun m => q false s.heap L es ep t (Heap.SameBut.refl a s.heap) R (fun _ => rfl) fun z => absurd m z
  have d8 : k.depth ≤ 8 := by have := hx.2.1; omega
  unfold setAddHashed
  refine wpAny_holding ?_
  rw [show (100000 : Nat) = 99999 + 1 from rfl, setAddHashedIn_succ]
  refine wpAny_bind (wpAny_setState_of ho hd R.fits ?_)
  dsimp only
  by_cases sc : byScan x es = true
  · refine wp_if_pos sc ?_
    have sc1 : x.scannable = true := by
      unfold byScan at sc
      rw [Bool.and_eq_true, Bool.and_eq_true] at sc
      exact sc.1.1
    obtain ⟨y, tk, rfl, htk⟩ : ∃ y tk, x = .str y tk ∧ tk ≠ 0 := by
      rcases hx.2.2 with h | ⟨b, rfl⟩
      · exact h
      · cases sc1
    have ek : k = .text y := by
      cases hx.1
      rfl
    subst ek
    have el : ElemsOf (PySem.strKind P w) es.toList := fun e me => by
      have sc2 : e.2.scannable = true := by
        unfold byScan at sc
        rw [Bool.and_eq_true] at sc
        have me' : e ∈ es := by simpa using me
        exact (Array.all_eq_true_iff_forall_mem.mp sc.2) e me'
      rw [R.rows] at me
      obtain ⟨p, mp, rfl⟩ := List.mem_map.mp me
      have kp := R.mem p mp
      refine ⟨?_, sc2⟩
      rcases kp.2.2 with ⟨z, tz, ez, _⟩ | ⟨b, eb⟩
      · have h1 := kp.1
        rw [ez] at h1
        obtain ⟨pk, pv⟩ := p
        dsimp only at ez h1 ⊢
        subst ez
        cases h1
        exact ⟨z, strKind_is _ _ _ _, rfl⟩
      · rw [eb] at sc2
        cases sc2
    have found : ∀ j, es.toList.findIdx? (fun e => (PySem.strKind P w).is y e.2) = some j → NestedKey.text y ∈ L.map (·.1) := fun j hj => by
      obtain ⟨lt, hit, _⟩ := List.findIdx?_eq_some_iff_getElem.mp hj
      have me : es.toList[j] ∈ es.toList := List.getElem_mem lt
      generalize es.toList[j] = e at me hit
      rw [R.rows] at me
      obtain ⟨p, mp, rfl⟩ := List.mem_map.mp me
      have kp := (R.mem p mp).1
      obtain ⟨tz, ez⟩ := Value.isStrOf_shape hit
      have ez : p.2 = .str y tz := ez
      rw [ez] at kp
      obtain ⟨pk, pv⟩ := p
      dsimp only at kp
      cases kp
      exact List.mem_map.mpr ⟨_, mp, rfl⟩
    have absent : es.toList.findIdx? (fun e => (PySem.strKind P w).is y e.2) = none → NestedKey.text y ∉ L.map (·.1) := fun hn hm => by
      obtain ⟨p, mp, ep'⟩ := List.mem_map.mp hm
      have no := List.findIdx?_eq_none_iff.mp hn (p.1.hash w, p.2) (by rw [R.rows]; exact List.mem_map.mpr ⟨p, mp, rfl⟩)
      have kp := (R.mem p mp).1
      rw [ep'] at kp
      obtain ⟨pk, pv⟩ := p
      dsimp only at kp no
      cases kp
      rw [strKind_is] at no
      cases no
    unfold setAddByScan
    apply wpAny_bind
    apply wpAny_bind
    apply wpAny_rule
    apply wpAny_bind
    refine wpAny_setScan_of (knd := PySem.strKind P w) (k := y) (strKind_is _ _ _ _) ho hd R.fits el ?_
    cases met : es.toList.findIdx? (fun e => (PySem.strKind P w).is y e.2) with
    | some j => exact wpAny_pure (wpAny_pure (old (found j met)))
    | none =>
      have new := absent met
      obtain ⟨N, fs, free, taken⟩ := free_slot R (NestedKey.hash w (.text y))
      obtain ⟨L1, H1, pm, em⟩ := held_put R hx few new free taken
      have len1 : L1.length = L.length + 1 := pm.length_eq
      have fit1 : (t.put (way t.mask (NestedKey.hash w (.text y)) N)).1.fits (SetTable.insertAt es (t.put (way t.mask (NestedKey.hash w (.text y)) N)).2 (NestedKey.hash w (.text y), .str y tk)).size = true := by
        have h1 := H1.tab.sz
        rw [List.length_map] at h1
        unfold SetTable.fits
        rw [H1.fill, H1.size, Bool.and_eq_true, beq_iff_eq, decide_eq_true_eq, em]
        refine ⟨h1, ?_⟩
        rcases R.tab.mok with e | e | e <;> omega
      have lay : layNew t es (NestedKey.hash w (.text y)) (.str y tk) = (SetTable.insertAt es (t.put (way t.mask (NestedKey.hash w (.text y)) N)).2 (NestedKey.hash w (.text y), .str y tk), (t.put (way t.mask (NestedKey.hash w (.text y)) N)).1, false, false) := by
        unfold layNew
        rw [fs]
        dsimp only
        unfold SetTable.orStandIn
        rw [fit1, if_pos rfl]
        rfl
      dsimp only
      rw [lay]
      dsimp only
      refine wpAny_bind (wpAny_pure (a := ()) ?_)
      have done : ∀ h' L' es' ep' t', Heap.SameBut a s.heap h' → SetN w h' a L' es' ep' t' → L'.Perm L1 → wpAny (model P w) A (pure (some true)) (fun r s₁ => wpAny (model P w) A (match r with | some added => pure added | none => setAddHashedIn a (.str y tk) (NestedKey.hash w (.text y)) 99999) Q E s₁) E { s with heap := h' } := fun h' L' es' ep' t' sb S pl =>
        wpAny_pure (wpAny_pure (q true h' L' es' ep' t' sb S (fun z => absurd z new) fun _ => pl.trans pm))
      have step : ∀ b : Bool, _ := fun b => finish (P := P) (A := A) (E := E) (full := !false && (if b = true then (t.put (way t.mask (NestedKey.hash w (.text y)) N)).1 else { (t.put (way t.mask (NestedKey.hash w (.text y)) N)).1 with plain := false }).tooFull)
        (c1 := (match relayAll (if b = true then (t.put (way t.mask (NestedKey.hash w (.text y)) N)).1 else { (t.put (way t.mask (NestedKey.hash w (.text y)) N)).1 with plain := false }) (SetTable.insertAt es (t.put (way t.mask (NestedKey.hash w (.text y)) N)).2 (NestedKey.hash w (.text y), .str y tk)) (SetTable.grown (SetTable.insertAt es (t.put (way t.mask (NestedKey.hash w (.text y)) N)).2 (NestedKey.hash w (.text y), .str y tk)).size) with
          | (es2, t2, gave) => (match gave with | true => rule "set.scan.the-table-gave-way" | false => pure ()) >>= fun _ => storeSet a es2 t2 >>= fun _ => pure (some true)))
        ho hex hd (H1.plain b) (by
          have : (if b = true then (t.put (way t.mask (NestedKey.hash w (.text y)) N)).1 else { (t.put (way t.mask (NestedKey.hash w (.text y)) N)).1 with plain := false }).mask = t.mask := by cases b <;> exact em
          rw [this, len1]
          exact room) (by omega) rfl done fun h1 o1 t' order ho1 hex1 hd1 _ rl sz2 ft pr lt64 _ nx => by
            have cov : coversAll order (SetTable.insertAt es (t.put (way t.mask (NestedKey.hash w (.text y)) N)).2 (NestedKey.hash w (.text y), .str y tk)).size = true := List.isPerm_iff.mpr pr
            unfold relayAll
            rw [rl]
            dsimp only
            rw [cov, sz2, ft, Bool.true_and, if_pos rfl]
            dsimp only
            refine wpAny_bind (wpAny_pure (wpAny_bind (wpAny_storeSet_of ho1 hd1 ?_ (by rw [sz2, sizeLine_eq]; omega))))
            exact nx _ _ (Heap.SameBut.update ..) ⟨_, store_at ho1 hd1, ⟨hex1.1, hex1.2.1, hex1.2.2⟩, rfl⟩
      split
      · rw [hashByValue_scannable 8 (show (Value.str y tk).scannable = true from rfl)]
        exact wpAny_bind (wpAny_pure (step _))
      · exact wpAny_bind (wpAny_pure (step true))
  · refine wp_if_neg sc ?_
    try refine wpAny_bind (wpAny_pure ?_)
    refine wpAny_bind (find_at R hx hu (fun hm => wpAny_pure (old hm)) fun N new free taken => ?_)
    dsimp only
    refine wpAny_bind (wpAny_setState_of ho hd R.fits ?_)
    dsimp only
    obtain ⟨L1, H1, pm, em⟩ := held_put R hx few new free taken
    have len1 : L1.length = L.length + 1 := pm.length_eq
    have hsz := R.size
    have sz1 := H1.size
    generalize t.put (way t.mask (k.hash w) N) = pt at H1 em sz1 ⊢
    obtain ⟨t1, p⟩ := pt
    dsimp only at H1 em sz1 ⊢
    generalize SetTable.insertAt es p (k.hash w, x) = es1 at H1 sz1 ⊢
    have done : ∀ h' L' es' ep' t', Heap.SameBut a s.heap h' → SetN w h' a L' es' ep' t' → L'.Perm L1 → wpAny (model P w) A (pure true) Q E { s with heap := h' } := fun h' L' es' ep' t' sb S pl =>
      wpAny_pure (q true h' L' es' ep' t' sb S (fun z => absurd z new) fun _ => pl.trans pm)
    have same : SetTable.grown (es.size + 1) = SetTable.grown es1.size := by rw [sz1, len1, hsz]
    have step : ∀ b : Bool, _ := fun b => finish (P := P) (A := A) (E := E) (full := !false && (if b = true then t1 else { t1 with plain := false }).tooFull) (c1 := setRelay a (SetTable.grown (es.size + 1)) >>= fun _ => pure true) ho hex hd (H1.plain b) (by
          have : (if b = true then t1 else { t1 with plain := false }).mask = t.mask := by cases b <;> exact em
          rw [this, len1]
          exact room) (by omega) rfl done fun h1 o1 t' order ho1 hex1 hd1 bd rl sz2 ft pr lt64 ft0 nx => by
            rw [same, setRelay_eq]
            refine wpAny_bind (wpAny_bind (wpAny_setState_of ho1 hd1 ft0 ?_))
            dsimp only
            refine wp_if_neg (by rw [sizeLine_eq]; omega) ?_
            try refine wpAny_bind (wpAny_pure ?_)
            rw [rl]
            dsimp only
            refine wpAny_bind ?_
            refine wp_if_neg (by rw [sz2]; simp) ?_
            try refine wpAny_bind (wpAny_pure ?_)
            refine wpAny_pure ?_
            dsimp only
            refine wpAny_storeSet_of ho1 hd1 ?_ (by rw [sz2, sizeLine_eq]; omega)
            exact nx _ _ (Heap.SameBut.update ..) ⟨_, store_at ho1 hd1, ⟨hex1.1, hex1.2.1, hex1.2.2⟩, rfl⟩
    split
    · exact wpAny_bind (hashBy_key k x 8 s hx.1 d8 _ _ _ fun b => step b)
    · exact wpAny_bind (wpAny_pure (step true))
end
end Moot
namespace Moot
open PySem PySem.Spec PyProof.Rows L2
/-- what the set has of the first i things -/
structure GotN (ks : List Mb) (i : Nat) (L : List Mb) : Prop where
  sub : ∀ p ∈ L, p ∈ ks.take i
  all : ∀ p ∈ ks.take i, p.1 ∈ L.map (·.1)
  len : L.length ≤ i
theorem GotN.zero (ks : List Mb) : GotN ks 0 [] := ⟨fun p h => (nomatch h), fun p h => (by simp at h), Nat.le_refl _⟩
theorem GotN.same {ks L : List Mb} {i : Nat} {x : Mb} (g : GotN ks i L) (h : ks[i]? = some x) (hm : x.1 ∈ L.map (·.1)) : GotN ks (i + 1) L := by
  have e : ks.take (i + 1) = ks.take i ++ [x] := by rw [List.take_add_one, h]; rfl
  refine ⟨fun p hp => ?_, fun p hp => ?_, Nat.le_succ_of_le g.len⟩
  · rw [e]
    exact List.mem_append_left _ (g.sub p hp)
  · rw [e] at hp
    rcases List.mem_append.mp hp with z | z
    · exact g.all p z
    · rw [List.mem_singleton.mp z]
      exact hm
theorem GotN.more {ks L L' : List Mb} {i : Nat} {x : Mb} (g : GotN ks i L) (h : ks[i]? = some x) (pm : L'.Perm (x :: L)) : GotN ks (i + 1) L' := by
  have e : ks.take (i + 1) = ks.take i ++ [x] := by rw [List.take_add_one, h]; rfl
  refine ⟨fun p hp => ?_, fun p hp => ?_, ?_⟩
  · rw [e]
    rcases List.mem_cons.mp (pm.mem_iff.mp hp) with z | z
    · rw [z]; exact List.mem_append_right _ (List.mem_singleton.mpr rfl)
    · exact List.mem_append_left _ (g.sub p z)
  · rw [(pm.map (·.1)).mem_iff, List.map_cons]
    rw [e] at hp
    rcases List.mem_append.mp hp with z | z
    · exact List.mem_cons_of_mem _ (g.all p z)
    · rw [List.mem_singleton.mp z]; exact List.mem_cons_self
  · rw [pm.length_eq, List.length_cons]
    exact Nat.succ_le_succ g.len
section
variable {P : Program} {w : World} {A : Around} {E : Value → Shared → Prop} {s : Shared}
theorem SetN.kept {h h' : Heap} {a : Addr} {L : List Mb} {es : Array (Int × Value)} {ep : Nat} {t : SetTable} (R : SetN w h a L es ep t) (ha : ∀ o, h.get? a = some o → h'.get? a = some o) (hm : ∀ p ∈ L, KIs h' p.1 p.2) : SetN w h' a L es ep t := by
  obtain ⟨o, ho, r⟩ := R.ob
  exact ⟨⟨o, ha o ho, r⟩, R.rows, R.tab, R.nd, hm, R.led, R.room, R.few⟩
theorem setN_new (h : Heap) : SetN w (h.push (setNew w)) h.objs.size [] #[] 0 (.fresh 0 0 (!w.params.followText "set-order")) where
  ob := ⟨_, Heap.get?_push_size _ rfl, ⟨rfl, rfl, rfl⟩, rfl⟩
  rows := rfl
  tab := ⟨List.Pairwise.nil, rfl, rfl, .inl rfl, fun x hx => (by cases hx), fun i h j hi => (by simp at hi)⟩
  nd := List.nodup_nil
  mem := fun p hp => (by cases hp)
  led := by
    show _ ∨ (!w.params.followText "set-order") = true
    cases w.params.followText "set-order" <;> simp
  room := by show 0 * 5 < 7 * 3; decide
  few := by show 0 < 64; decide
theorem fill_N {I : Addr} {fp wr : List Addr} {G : Array GenState → Array GenState → Prop} {n : Nat} {Pv : Nat → Value → Prop} {St : Nat → Shared → Prop} {R : Result → Shared → Prop}
    (W : WalksS P w A.in1 I fp wr G n Pv St) {S : Addr} (out : S ∉ fp) (ks : List Mb) (len : ks.length = n) (few : n < 63) (val : ∀ i v, Pv i v → ∃ p, ks[i]? = some p ∧ v = p.2)
    (h0 : Heap) (hk : ∀ p ∈ ks, KIs h0 p.1 p.2) (hS0 : h0.get? S = none) (hw0 : ∀ b ∈ wr, h0.get? b = none) (hu : A.in1.units + 8 < cLine) :
    ∀ (left i : Nat) (s : Shared), i + left = n → St i s → (∀ b o, h0.get? b = some o → s.heap.get? b = some o) → (∃ L es ep t, SetN w s.heap S L es ep t ∧ GotN ks i L) →
      (∀ s' L es ep t, Moved (S :: wr) G s s' → SetN w s'.heap S L es ep t → GotN ks n L → R (.ok (.ret .none)) s') → codeAny (model P w) A (.builtin "set.update.loop" ⟨[.ref S, .ref I], []⟩) R s := by
  have outw : S ∉ wr := fun h => out (W.sub _ h)
  have wider : ∀ b ∈ wr, b ∈ S :: wr := fun b hb => List.mem_cons_of_mem _ hb
  have keepM : ∀ {s s' : Shared}, Moved wr G s s' → (∀ b o, h0.get? b = some o → s.heap.get? b = some o) → ∀ b o, h0.get? b = some o → s'.heap.get? b = some o := fun hm kp b o e =>
    hm.heap b o (fun hb => by rw [hw0 b hb] at e; cases e) (kp b o e)
  intro left
  induction left with
  | zero =>
    intro i s e st kp ⟨L, es, ep, t, hS, g⟩ r
    obtain rfl : i = n := e
    apply codeAny_builtin PyProof.Rows.F.entry_set_update_loop
    rw [Around.under_plainId PyProof.Rows.F.plain_set_update_loop _]
    show wpAny _ A.in1 (pyNext (.ref I) >>= _) _ _ s
    apply wpAny_bind
    refine W.done s _ _ st fun s' mv => wpAny_pure ?_
    have kp' := keepM mv kp
    exact r s' L es ep t (mv.mono wider) (hS.kept (fun o => mv.heap S o outw) fun p hp => kis_keep kp' (hk p (List.mem_of_mem_take (g.sub p hp)))) g
  | succ left ih =>
    intro i s e st kp ⟨L, es, ep, t, hS, g⟩ r
    have lt : i < n := by omega
    apply codeAny_builtin PyProof.Rows.F.entry_set_update_loop
    rw [Around.under_plainId PyProof.Rows.F.plain_set_update_loop _]
    show wpAny _ A.in1 (pyNext (.ref I) >>= _) _ _ s
    apply wpAny_bind
    refine W.item i s _ _ lt st fun v s' pv st' mv => ?_
    obtain ⟨p, hp, rfl⟩ := val i v pv
    have kp' := keepM mv kp
    have hS' : SetN w s'.heap S L es ep t := hS.kept (fun o => mv.heap S o outw) fun p hp => kis_keep kp' (hk p (List.mem_of_mem_take (g.sub p hp)))
    have hx : KIs s'.heap p.1 p.2 := kis_keep kp' (hk p (List.mem_of_getElem? hp))
    show wpAny _ A.in1 (holding [p.2] (setAdd S p.2) >>= _) _ _ s'
    apply wpAny_bind
    apply wpAny_holding
    unfold setAdd
    apply wpAny_holding
    apply wpAny_bind
    refine pyHash_key p.1 p.2 A.in1 s' _ hx.1 (by have := hx.2.1; omega) ?_
    refine add_N (s := { s' with toks := s'.toks + p.1.draws }) hS' hx hu (by have := g.len; omega) fun b h' L' es' ep' t' sb S2 c1 c2 => ?_
    have g' : GotN ks (i + 1) L' := by
      rcases Classical.em (p.1 ∈ L.map (·.1)) with c | c
      · rw [c1 c]; exact g.same hp c
      · exact g.more hp (c2 c)
    have kp2 : ∀ b o, h0.get? b = some o → h'.get? b = some o := fun b o e => (sb.2 b (fun z => by rw [z, hS0] at e; cases e)).trans (kp' b o e)
    refine wpAny_pure ⟨plainId_quiet PyProof.Rows.F.plain_set_update_loop _, ?_⟩
    refine ih (i + 1) _ (by omega) (W.frame _ s' _ _ st' (Nat.le_add_right _ _) fun b hb o e => ?_) kp2 ⟨L', es', ep', t', S2, g'⟩ fun s'' L2 es2 ep2 t2 mv' S3 g3 => ?_
    · rw [sb.2 b fun c => out (c ▸ hb)]
      exact e
    · refine r s'' L2 es2 ep2 t2 (Moved.trans W.gtrans ((mv.mono wider).then_heap (Nat.le_add_right _ _) fun b o nb e => ?_) mv') S3 g3
      rw [sb.2 b fun c => nb (c ▸ List.mem_cons_self)]
      exact e
/-- set.__init__ of the new set, over a tuple of mixed things -/
theorem init_mixed {l : Addr} {vs : List Value} {ks : List Mb} (calm : A.handled = none) (hl : s.heap.IsTuple l vs.toArray) (ek : ks.map (·.2) = vs) (few : vs.length < 63) (hk : ∀ p ∈ ks, KIs s.heap p.1 p.2) (hu : A.units + 10 < cLine) {Q : Shared → Prop}
    (q : ∀ s' h' tk L es ep t, s' = { s with heap := h', toks := tk } → SetN w h' s.heap.objs.size L es ep t → GotN ks ks.length L → (∀ b o, s.heap.get? b = some o → h'.get? b = some o) → Q s') :
    codeAny (model P w) A (.call (.builtin "set.__init__") ⟨[.ref s.heap.objs.size, .ref l], []⟩) (wants (fun r s' => r = .none ∧ Q s') E) { s with heap := s.heap.push (setNew w) } := by
  have at0 : (s.heap.push (setNew w)).get? s.heap.objs.size = some (setNew w) := Heap.get?_push_size _ rfl
  have ty : Shared.TypeIs { s with heap := s.heap.push (setNew w) } (.ref s.heap.objs.size) "set" := ⟨_, at0, rfl⟩
  refine codeAny_call_builtin PySem.F.called_set.init.plain PySem.F.entry_set_init (check_set_init_1 ty ?_)
  have hl1 : (s.heap.push (setNew w)).IsTuple l vs.toArray := hl.push _
  have hlo := hl1
  obtain ⟨⟨oc, od, oda, osl⟩, ol, hc, nl, hda⟩ := hlo
  dsimp only at hc hda
  subst hc hda
  have n1 := PySem.F.sub_tuple_set
  have n2 := PySem.F.sub_tuple_frozenset
  have n3 : (Value.type "tuple" == Value.type "dict") = false := by decide
  unfold Builtin.«set.__init__» noKeywords Builtin.Frozenset.updateFrom
  generalize it : pyIter = iter
  wp_walk
  subst it
  apply wpAny_pyIter_tuple hl1
  apply wpAny_bind
  apply wpAny_runValue
  have size1 : (s.heap.push (setNew w)).objs.size = s.heap.objs.size + 1 := size_push' _ _
  have low : l < s.heap.objs.size := by
    obtain ⟨o, ho, _⟩ := hl
    exact Heap.lt_size ho
  have calm2 : A.in1.in1.handled = none := calm
  have ne : l ≠ (s.heap.push (setNew w)).objs.size := by
    rw [size1]
    exact Nat.ne_of_lt (Nat.lt_succ_of_lt low)
  have out : s.heap.objs.size ∉ [(s.heap.push (setNew w)).objs.size, l] := by
    rw [size1]
    intro m
    rcases List.mem_cons.mp m with c | c
    · exact Nat.ne_of_lt (Nat.lt_succ_self _) c
    · exact Nat.ne_of_gt low (List.mem_singleton.mp c)
  have walk := (Walks.tuple (prog := P) (w := w) calm2 _ l ne vs.toArray).toS
  have lenk : ks.length = vs.length := by rw [← ek, List.length_map]
  refine fill_N walk out ks (by rw [lenk]; simp) (by simpa using few) (fun i v h => ?_) s.heap hk (Heap.get?_none_of_le (Nat.le_refl _)) (fun b hb => ?_) (show A.units + 1 + 1 + 8 < cLine by omega) vs.toArray.size 0 _ (by simp) ?_ (fun b o e => Heap.get?_push_of_some _ (Heap.get?_push_of_some _ e)) ⟨[], #[], 0, _, (setN_new s.heap).kept (fun o => Heap.get?_push_of_some _) (fun p hp => by cases hp), GotN.zero ks⟩ fun s' L es ep t mv S g => ?_
  · have h : vs[i]? = some v := by simpa using h
    rw [← ek, List.getElem?_map] at h
    obtain ⟨p, hp, rfl⟩ := Option.map_eq_some_iff.mp h
    exact ⟨p, hp, rfl⟩
  · have e : b = (s.heap.push (setNew w)).objs.size := by simpa using hb
    rw [e, size1]
    exact Heap.get?_none_of_le (Nat.le_succ _)
  · exact ⟨⟨_, Heap.get?_push_size _ rfl, rfl, rfl⟩, hl1.push _⟩
  · apply wpAny_pure
    have gk : GotN ks ks.length L := by
      have e : ks.length = vs.toArray.size := by rw [lenk]; simp
      rw [e]
      exact g
    refine wpAny_pure ⟨rfl, q s' s'.heap s'.toks L es ep t ?_ S gk fun b o e => ?_⟩
    · rcases s' with ⟨h', g', d', t', o'⟩
      obtain rfl : g' = s.gens := mv.gens
      obtain rfl : d' = s.drawn := mv.drawn
      obtain rfl : o' = s.os := mv.os
      rfl
    · have lt := Heap.lt_size e
      refine mv.heap b o (fun c => ?_) (Heap.get?_push_of_some _ (Heap.get?_push_of_some _ e))
      rcases List.mem_cons.mp c with c | c
      · exact Nat.ne_of_lt lt c
      · refine Nat.ne_of_lt (Nat.lt_succ_of_lt lt) (Eq.trans (List.mem_singleton.mp c) size1)
/-- set(xs) of a tuple of mixed things -/
theorem set_mixed {l : Addr} {vs : List Value} {ks : List Mb} (calm : A.handled = none) (hl : s.heap.IsTuple l vs.toArray) (ek : ks.map (·.2) = vs) (few : vs.length < 63) (hk : ∀ p ∈ ks, KIs s.heap p.1 p.2) (hu : A.units + 12 < cLine) {Q : Value → Shared → Prop}
    (q : ∀ s' h' tk L es ep t, s' = { s with heap := h', toks := tk } → SetN w h' s.heap.objs.size L es ep t → GotN ks ks.length L → (∀ b o, s.heap.get? b = some o → h'.get? b = some o) → Q (.ref s.heap.objs.size) s') :
    wpAny (model P w) A (call (.type "set") [.ref l]) Q E s := by
  obtain ⟨c, tl, mro⟩ := PySem.F.called_set.mro
  have made := PySem.F.called_set.made
  have sub := PySem.F.called_set.sub
  have f1 := PySem.F.called_set.notType
  have f2 := PySem.F.called_set.canCreate
  have f3 := PySem.F.typeCall_set_1 (.ref l)
  apply wpAny_call
  apply codeAny_of_tree
  show wpAny _ _ (callAny (.type "set") _) _ _ _
  refine wpAny_pure ⟨Code.quiet_builtin _ (by decide +kernel), ?_⟩
  apply codeAny_builtin PySem.F.entry_type_call
  rw [Around.under_plain (weight_type_call_type "set" [.ref l] []) rfl]
  repeat (any_goals (first | assumption | wp_step))
  refine codeAny_mono (new_of (.ref l) (E := E) (Q := fun x s₁ => x = .ref s.heap.objs.size ∧ s₁ = { s with heap := s.heap.push (setNew w) }) ⟨rfl, rfl⟩) ?_
  rintro (e | f) s₁ h
  · exact h
  · cases f with
    | ret x =>
      obtain ⟨rfl, rfl⟩ := h
      have ty : Shared.TypeIs { s with heap := s.heap.push (setNew w) } (.ref s.heap.objs.size) "set" := ⟨_, Heap.get?_push_size _ rfl, rfl⟩
      have g1 := PySem.F.called_set.init.lookup
      have g2 := PySem.F.called_set.init.bind (.ref s.heap.objs.size)
      repeat (any_goals (first | assumption | wp_step))
      refine codeAny_mono (init_mixed (A := A.in1) (E := E) (Q := fun s' => Q (.ref s.heap.objs.size) s') calm hl ek few hk (show A.units + 1 + 10 < cLine by omega) q) ?_
      rintro (e | f) s₂ h
      · exact h
      · cases f with
        | ret r =>
          obtain ⟨rfl, F⟩ := h
          exact wpAny_pure (wpAny_pure F)
        | _ => exact h.elim
    | _ => exact h.elim
end
end Moot
/-! Requirements in the heap, the tuple of their parts known so that its texts bear tokens. -/
namespace Moot
open PySem PySem.Spec PyProof.Rows L2
/-- a part: a name, or a count of names -/
abbrev Part := Str ⊕ (Int × List Str)
def PartAt (H : Hp) (v : V) : Part → Prop
  | .inl x => v = .str x
  | .inr (c, ns) => ∃ q p, v = .ref q ∧ H q = some (.tup [.int c, .ref p]) ∧ H p = some (.tup (ns.map V.str))
inductive Parts (H : Hp) : List V → List Part → Prop
  | nil : Parts H [] []
  | cons {v : V} {vs : List V} {p : Part} {ps : List Part} : PartAt H v p → Parts H vs ps → Parts H (v :: vs) (p :: ps)
/-- the tuple of the parts: known, or of texts alone -/
def PTup (H : Hp) (p : Addr) (vs : List V) : Prop := GTp H p vs ∨ (H p = some (.tup vs) ∧ ∃ ns : List Str, vs = ns.map V.str)
theorem PTup.seq {K : PySem.W.Frag} {H : Hp} {p : Addr} {vs : List V} (h : PTup H p vs) : SqT K H p vs := by
  rcases h with h | ⟨h, _⟩
  · exact h.seq
  · exact SqT.of h
def ReqAt (H : Hp) (r : Addr) (c : Int) (ps : List Part) : Prop := ∃ p vs, H r = some (.tup [.int c, .ref p]) ∧ PTup H p vs ∧ Parts H vs ps
/-- what never changes stays -/
structure Tups (H H' : Hp) : Prop where
  tup : ∀ a xs, H a = some (.tup xs) → H' a = some (.tup xs)
  frz : ∀ a o u, H a = some (.frz o u) → H' a = some (.frz o u)
theorem Same.tups {H H' : Hp} (s : Same H H') : Tups H H' := ⟨fun a _ h => s a _ h, fun a _ _ h => s a _ h⟩
theorem Tups.refl (H : Hp) : Tups H H := ⟨fun _ _ h => h, fun _ _ _ h => h⟩
theorem Tups.trans {H H1 H2 : Hp} (a : Tups H H1) (b : Tups H1 H2) : Tups H H2 := ⟨fun c xs h => b.tup c xs (a.tup c xs h), fun c o u h => b.frz c o u (a.frz c o u h)⟩
theorem tups_store {H : Hp} {p : Addr} {xs ys : List V} (h : H p = some (.lst xs)) : Tups H (upd H p (.lst ys)) :=
  ⟨fun a zs e => by rw [upd_ne (fun c => by rw [c, h] at e; cases e)]; exact e, fun a o u e => by rw [upd_ne (fun c => by rw [c, h] at e; cases e)]; exact e⟩
theorem PartAt.tups {H H' : Hp} {v : V} {p : Part} (h : PartAt H v p) (t : ∀ a xs, H a = some (.tup xs) → H' a = some (.tup xs)) : PartAt H' v p := by
  cases p with
  | inl x => exact h
  | inr y =>
    obtain ⟨c, ns⟩ := y
    obtain ⟨q, p, e, h1, h2⟩ := h
    exact ⟨q, p, e, t _ _ h1, t _ _ h2⟩
theorem Parts.tups {H H' : Hp} {vs : List V} {ps : List Part} (h : Parts H vs ps) (t : ∀ a xs, H a = some (.tup xs) → H' a = some (.tup xs)) : Parts H' vs ps := by
  induction h with
  | nil => exact .nil
  | cons a _ ih => exact .cons (a.tups t) ih
theorem PTup.tups {H H' : Hp} {p : Addr} {vs : List V} (h : PTup H p vs) (t : Tups H H') : PTup H' p vs := by
  rcases h with ⟨o, g, e⟩ | ⟨e, n⟩
  · exact .inl ⟨o, g, t.frz _ _ _ e⟩
  · exact .inr ⟨t.tup _ _ e, n⟩
theorem ReqAt.tups {H H' : Hp} {r : Addr} {c : Int} {ps : List Part} (h : ReqAt H r c ps) (t : Tups H H') : ReqAt H' r c ps := by
  obtain ⟨p, vs, h1, h2, h3⟩ := h
  exact ⟨p, vs, t.tup _ _ h1, h2.tups t, h3.tups t.tup⟩
theorem Parts.length {H : Hp} {vs : List V} {ps : List Part} (h : Parts H vs ps) : vs.length = ps.length := by
  induction h with
  | nil => rfl
  | cons _ _ ih => rw [List.length_cons, List.length_cons, ih]
theorem Parts.at {H : Hp} {vs : List V} {ps : List Part} (h : Parts H vs ps) : ∀ {i : Nat} {v : V}, vs[i]? = some v → ∃ p, ps[i]? = some p ∧ PartAt H v p := by
  induction h with
  | nil => intro i v e; simp at e
  | cons a _ ih =>
    intro i v e
    cases i with
    | zero =>
      cases Option.some.inj e
      exact ⟨_, rfl, a⟩
    | succ i => exact ih (i := i) e
theorem Parts.names {H : Hp} : ∀ ns : List Str, Parts H (ns.map V.str) (ns.map Sum.inl)
  | [] => .nil
  | _ :: ns => .cons rfl (Parts.names ns)
/-- an inner requirement is one -/
theorem PartAt.req {H : Hp} {v : V} {c : Int} {ns : List Str} (h : PartAt H v (.inr (c, ns))) : ∃ q, v = .ref q ∧ ReqAt H q c (ns.map Sum.inl) := by
  obtain ⟨q, p, e, h1, h2⟩ := h
  exact ⟨q, e, p, _, h1, .inr ⟨h2, ns, rfl⟩, Parts.names ns⟩
/-! parts as keys -/
def keyP : Part → NestedKey
  | .inl x => .text x
  | .inr (c, ns) => .tup [.num c, .tup (ns.map NestedKey.text)]
theorem texts_inj : ∀ {a b : List Str}, a.map NestedKey.text = b.map NestedKey.text → a = b
  | [], [], _ => rfl
  | [], _ :: _, h => by cases h
  | _ :: _, [], h => by cases h
  | x :: a, y :: b, h => by
    rw [List.map_cons, List.map_cons] at h
    injection h with h1 h2
    injection h1 with h1
    rw [h1, texts_inj h2]
theorem keyP_inj : ∀ {p q : Part}, keyP p = keyP q → p = q
  | .inl x, .inl y, h => by injection h with h; rw [h]
  | .inl x, .inr (c, ns), h => by cases h
  | .inr (c, ns), .inl y, h => by cases h
  | .inr (c, ns), .inr (d, ms), h => by
    injection h with h
    injection h with h1 h2
    injection h1 with h1
    injection h2 with h2 _
    injection h2 with h2
    rw [h1, texts_inj h2]
theorem depth_texts : ∀ ns : List Str, NestedKey.depthAll (ns.map NestedKey.text) = 0
  | [] => rfl
  | x :: ns => by
    rw [List.map_cons, NestedKey.depthAll, depth_texts ns]
    rfl
theorem depth_keyP (p : Part) : (keyP p).depth ≤ 7 := by
  cases p with
  | inl x => exact Nat.zero_le _
  | inr y =>
    obtain ⟨c, ns⟩ := y
    simp only [keyP, NestedKey.depth, NestedKey.depthAll, depth_texts]
    decide
theorem nested_texts {h : Heap} : ∀ {ns : List Str} {us : List Value}, Vals (ns.map V.str) us → NestedAll h (ns.map NestedKey.text) us
  | [], _, r => by cases r; exact .nil
  | x :: ns, _, r => by
    cases r with
    | cons a b =>
      obtain ⟨t, rfl⟩ := a
      exact .cons (.text x t) (nested_texts b)
section
variable {X : Cx} {pins : List (Addr × Obj)} {σ : L2.St} {H : Hp} {s : Shared}
theorem nested_part (I : Inv X pins σ H s) {v : V} {p : Part} {u : Value} (h : PartAt H v p) (r : RelV v u) : NestedIs s.heap (keyP p) u := by
  cases p with
  | inl x =>
    cases h
    obtain ⟨t, rfl⟩ := r
    exact .text x t
  | inr y =>
    obtain ⟨c, ns⟩ := y
    obtain ⟨q, p, rfl, h1, h2⟩ := h
    cases r
    obtain ⟨_, its, r1, o, ho, hc, n, hd⟩ := I.hok q _ h1
    obtain ⟨_, its2, r2, o2, ho2, hc2, n2, hd2⟩ := I.hok p _ h2
    obtain ⟨a, b, rfl, ra, rb⟩ := r1.two
    obtain ⟨t, rfl⟩ := ra
    cases rb
    exact .tup ho hc hd (.cons (.int c t) (.cons (.tup ho2 hc2 hd2 (by simpa using nested_texts r2)) .nil))
theorem kis_parts (I : Inv X pins σ H s) : ∀ {vs : List V} {ps : List Part} {us : List Value}, Parts H vs ps → Vals vs us → GdS us → ∃ ks : List Mb, ks.map (·.2) = us ∧ ks.map (·.1) = ps.map keyP ∧ ∀ k ∈ ks, KIs s.heap k.1 k.2
  | _, _, _, .nil, .nil, _ => ⟨[], rfl, rfl, fun k m => by cases m⟩
  | _, _, _, .cons (p := p) a b, .cons (b := u) r t, g => by
    obtain ⟨ks, e1, e2, e3⟩ := kis_parts I b t fun u m => g u (List.mem_cons_of_mem _ m)
    refine ⟨(keyP p, u) :: ks, by rw [List.map_cons, e1], by rw [List.map_cons, List.map_cons, e2], fun k m => ?_⟩
    rcases List.mem_cons.mp m with rfl | m
    · refine ⟨nested_part I a r, depth_keyP p, ?_⟩
      cases p with
      | inl x =>
        cases a
        obtain ⟨tk, rfl⟩ := r
        exact .inl ⟨x, tk, rfl, g _ List.mem_cons_self⟩
      | inr y =>
        obtain ⟨c, ns⟩ := y
        obtain ⟨q, _, rfl, _⟩ := a
        cases r
        exact .inr ⟨q, rfl⟩
    · exact e3 k m
end
/-- more distinct things than a list has places -/
theorem pigeon {α : Type} [DecidableEq α] : ∀ (l D : List α), l.Nodup → (∀ y ∈ l, y ∈ D) → l.length ≤ D.length
  | [], _, _, _ => Nat.zero_le _
  | y :: l, D, n, s => by
    obtain ⟨n1, n2⟩ := List.nodup_cons.mp n
    have my := s y List.mem_cons_self
    have := pigeon l (D.erase y) n2 fun z mz => (List.mem_erase_of_ne fun (e : z = y) => n1 (e ▸ mz)).mpr (s z (List.mem_cons_of_mem _ mz))
    have e := List.length_erase_of_mem my
    have := List.length_pos_of_mem my
    rw [List.length_cons]
    omega
theorem dup_split {α : Type} [DecidableEq α] : ∀ {D : List α}, ¬ D.Nodup → ∃ x, x ∈ D ∧ x ∈ D.erase x
  | [], h => absurd List.nodup_nil h
  | y :: D, h => by
    by_cases m : y ∈ D
    · exact ⟨y, List.mem_cons_self, by rw [List.erase_cons_head]; exact m⟩
    · obtain ⟨x, a, b⟩ := dup_split (D := D) fun n => h (List.nodup_cons.mpr ⟨m, n⟩)
      have ne : y ≠ x := fun e => m (e ▸ a)
      refine ⟨x, List.mem_cons_of_mem _ a, ?_⟩
      rw [List.erase_cons_tail (by simpa using ne)]
      exact List.mem_cons_of_mem _ b
/-- a set holds no more than there are -/
theorem Stands.most {P : Program} {w : World} {T : Type} [DecidableEq T] {knd : KeyKind P w T} {h : Heap} {a : Addr} {S : T → Bool} {n : Nat} (R : Stands knd h a S n) {xs : List T} (all : ∀ k, S k = true → k ∈ xs) : n ≤ xs.length := by
  obtain ⟨o, es, ep, t, _, _, _, rfl, L⟩ := R
  have pig : ∀ (D : List (Int × Value)) (X : List T), D.Pairwise (fun e f => ∀ k, knd.is k e.2 = true → knd.is k f.2 = true → False) → (∀ e ∈ D, ∃ k, knd.is k e.2 = true ∧ k ∈ X) → D.length ≤ X.length := by
    intro D
    induction D with
    | nil => intros; exact Nat.zero_le _
    | cons e D ih =>
      intro X pw hD
      obtain ⟨p1, p2⟩ := List.pairwise_cons.mp pw
      obtain ⟨k, ik, mk⟩ := hD e List.mem_cons_self
      have := ih (X.erase k) p2 fun f mf => by
        obtain ⟨j, ij, mj⟩ := hD f (List.mem_cons_of_mem _ mf)
        refine ⟨j, ij, (List.mem_erase_of_ne fun z => ?_).mpr mj⟩
        rw [z] at ij
        exact p1 f mf k ik ij
      have e1 := List.length_erase_of_mem mk
      have := List.length_pos_of_mem mk
      rw [List.length_cons]
      omega
  have := pig es.toList xs L.one fun e me => by
    obtain ⟨⟨k, ik, _⟩, _⟩ := L.el e me
    exact ⟨k, ik, all k ((L.mem k).mpr ⟨e, me, ik⟩)⟩
  simpa using this
section
variable {X : Cx}
/-- len(S), S a set of texts: neither less nor more -/
theorem cr_txtLen2 : CallR X (.builtin "len") (fun vs H Q => ∃ (a : Addr) (S : Str → Bool) (n : Nat), vs = [V.ref a] ∧ H a = some (TxtSet X.prog X.w a S n) ∧ n < 1000 ∧ ((∀ xs : List Str, (∀ k, S k = true → k ∈ xs) → n ≤ xs.length) → Q (.int (n : Int)) H)) := by
  intro pins s σ H vs us Q I r h
  obtain ⟨a, S, n, rfl, ha, few, q⟩ := h
  have R : Stands (PySem.strKind X.prog X.w) s.heap a S n := (I.hok a _ ha).1
  have le := fun xs all => R.most (xs := xs) all
  rw [Vals.ref1 r]
  obtain ⟨o, es, ep, t, ho, hex, hd, rfl, L⟩ := R
  exact call_len_set ho hex hd L.fit (by omega) ⟨.int _, H, I.tok _, ⟨_, rfl⟩, q le⟩
end
/-- a set of mixed things, by its size -/
def NSet (a : Addr) (n : Nat) : HO := .ext fun h => ∃ o es ep t, h.get? a = some o ∧ o.ExactSet ∧ o.data = .set es ep t ∧ es.size = n ∧ t.fits es.size = true
theorem nset_ok {P : Program} {w : World} {H : Hp} {h : Heap} {a : Addr} {n : Nat} (R : ∃ o es ep t, h.get? a = some o ∧ o.ExactSet ∧ o.data = .set es ep t ∧ es.size = n ∧ t.fits es.size = true) : ObjOk P w H h a (NSet a n) := by
  refine ⟨R, let ⟨o, _, _, _, e, _⟩ := R; ⟨o, e⟩, ?_⟩
  rintro h1 h2 ⟨o, es, ep, t, e, r⟩ k
  exact ⟨o, es, ep, t, k o e, r⟩
section
variable {X : Cx}
/-- set(parts), the tuple's texts bearing tokens -/
def rMixSet : List V → Hp → VK → Prop := fun vs H Q => ∃ (p : Addr) (xs : List V) (ps : List Part), vs = [.ref p] ∧ GTp H p xs ∧ Parts H xs ps ∧ ps.length < 63 ∧ ∀ a n, H a = none → n ≤ ps.length → (ps.Nodup → n = ps.length) → (¬ ps.Nodup → n < ps.length) → Q (.ref a) (upd H a (NSet a n))
theorem cr_mixSet (calm : X.calm = true) (hu : X.A.units + 12 < cLine) : CallR X (.type "set") rMixSet := by
  intro pins s σ H vs us Q I r h
  obtain ⟨p, xs, ps, rfl, ⟨o, ⟨its, n0, hc, hd, rv, gd⟩, hH⟩, PS, few, q⟩ := h
  obtain ⟨u, rfl, rx⟩ := vals1 r
  cases rx
  obtain ⟨get, _⟩ := I.hok p _ hH
  obtain ⟨ks, e1, e2, e3⟩ := kis_parts I PS rv gd
  have lens : its.length = ps.length := by rw [← rv.length, PS.length]
  refine set_mixed (ks := ks) (I.ok.hd calm) ⟨o, get, hc, n0, hd⟩ e1 (by rw [lens]; exact few) e3 hu fun s' h' tk L es ep t es' S g kept => ?_
  subst es'
  have lk : ks.length = ps.length := by
    have := congrArg List.length e2
    rwa [List.length_map, List.length_map] at this
  have subs : ∀ y ∈ L.map (·.1), y ∈ ps.map keyP := fun y my => by
    obtain ⟨m, hm, rfl⟩ := List.mem_map.mp my
    rw [← e2]
    exact List.mem_map_of_mem (List.mem_of_mem_take (g.sub m hm))
  have alls : ∀ y ∈ ps.map keyP, y ∈ L.map (·.1) := fun y my => by
    rw [← e2] at my
    obtain ⟨m, hm, rfl⟩ := List.mem_map.mp my
    exact g.all m (by rw [List.take_length]; exact hm)
  have nd : ps.Nodup ↔ (ps.map keyP).Nodup := by
    constructor
    · intro n
      exact List.Pairwise.map _ (fun a b ne e => ne (keyP_inj e)) n
    · intro n
      exact List.Pairwise.of_map keyP (fun a b ne e => ne (congrArg keyP e)) n
  have le : L.length ≤ ps.length := by
    have := pigeon _ _ S.nd subs
    rwa [List.length_map, List.length_map] at this
  obtain ⟨ob, hob, hex, hdat⟩ := S.ob
  refine ⟨.ref s.heap.objs.size, _, I.laid (t' := tk) kept (Nat.le_refl _) (nset_ok (n := L.length) ⟨ob, es, ep, t, hob, hex, hdat, S.size, S.fits⟩), rfl, q _ L.length (I.hok.fresh (Nat.le_refl _)) le (fun n => ?_) fun n => ?_⟩
  · have := pigeon _ _ (nd.mp n) alls
    rw [List.length_map, List.length_map] at this
    omega
  · obtain ⟨x, m1, m2⟩ := dup_split (D := ps.map keyP) fun z => n (nd.mpr z)
    have := pigeon _ ((ps.map keyP).erase x) S.nd fun y my => by
      by_cases e : y = x
      · rw [e]; exact m2
      · exact (List.mem_erase_of_ne e).mpr (subs y my)
    rw [List.length_erase_of_mem m1, List.length_map, List.length_map] at this
    have := List.length_pos_of_mem m1
    rw [List.length_map] at this
    omega
theorem cr_mixLen : CallR X (.builtin "len") (fun vs H Q => ∃ (a : Addr) (n : Nat), vs = [.ref a] ∧ H a = some (NSet a n) ∧ n < 1000 ∧ Q (.int (n : Int)) H) := by
  intro pins s σ H vs us Q I r h
  obtain ⟨a, n, rfl, ha, few, q⟩ := h
  obtain ⟨⟨o, es, ep, t, ho, hex, hd, rfl, fit⟩, _⟩ := I.hok a _ ha
  rw [Vals.ref1 r]
  exact call_len_set ho hex hd fit (by omega) ⟨.int _, H, I.tok _, ⟨_, rfl⟩, q⟩
end
end Moot
namespace Moot
open PySem PySem.Spec PyProof.Rows L2
def top (i : Nat) : Stmt := PySem.Challenge.pw_oathmoot_k06_networks_made.main.body.getD i (.Pass ⟨0, 0, 0, 0⟩)
/-! the box of drawn numbers -/
structure Box (H : Hp) (b g m : Addr) (n : Nat) : Prop where
  ex : ∃ (x k : Int) (gs ms : List Int), H b = some (.lst [.ref g, .int x, .ref m, .int k]) ∧ H g = some (.lst (gs.map V.int)) ∧ H m = some (.lst (ms.map V.int)) ∧ 0 ≤ k ∧ k ≤ n ∧ gs.length ≤ 63 ∧ ms.length ≤ 63
  bg : b ≠ g
  bm : b ≠ m
  gm : g ≠ m
/-- all but the box's own cells stays -/
def Keep (b g : Addr) (H H' : Hp) : Prop := ∀ c o, H c = some o → c ≠ b → c ≠ g → H' c = some o
theorem same_new {H : Hp} {p : Addr} {o : HO} (h : H p = none) : Same H (upd H p o) := fun b x e => by
  rw [upd_ne (ne_of_none e h)]
  exact e
theorem Keep.refl (b g : Addr) (H : Hp) : Keep b g H H := fun _ _ e _ _ => e
theorem Keep.trans {b g : Addr} {H H1 H2 : Hp} (k : Keep b g H H1) (l : Keep b g H1 H2) : Keep b g H H2 := fun c o e n1 n2 => l c o (k c o e n1 n2) n1 n2
theorem Same.keep {b g : Addr} {H H' : Hp} (s : Same H H') : Keep b g H H' := fun c o e _ _ => s c o e
theorem Box.same {H H' : Hp} {b g m : Addr} {n : Nat} (B : Box H b g m n) (s : Same H H') : Box H' b g m n := by
  obtain ⟨⟨x, k, gs, ms, h1, h2, h3, r⟩, n1, n2, n3⟩ := B
  exact ⟨⟨x, k, gs, ms, s _ _ h1, s _ _ h2, s _ _ h3, r⟩, n1, n2, n3⟩
theorem Box.more {H : Hp} {b g m : Addr} {n n' : Nat} (B : Box H b g m n) (h : n ≤ n') : Box H b g m n' := by
  obtain ⟨⟨x, k, gs, ms, h1, h2, h3, h4, h5, r⟩, n1, n2, n3⟩ := B
  exact ⟨⟨x, k, gs, ms, h1, h2, h3, h4, by omega, r⟩, n1, n2, n3⟩
/-- a store elsewhere -/
theorem Box.store {H : Hp} {b g m p : Addr} {n : Nat} {o : HO} (B : Box H b g m n) (p1 : p ≠ b) (p2 : p ≠ g) (p3 : p ≠ m) : Box (upd H p o) b g m n := by
  obtain ⟨⟨x, k, gs, ms, h1, h2, h3, r⟩, n1, n2, n3⟩ := B
  exact ⟨⟨x, k, gs, ms, by rw [upd_ne p1.symm]; exact h1, by rw [upd_ne p2.symm]; exact h2, by rw [upd_ne p3.symm]; exact h3, r⟩, n1, n2, n3⟩
theorem Box.b_in {H : Hp} {b g m : Addr} {n : Nat} (B : Box H b g m n) : ∃ o, H b = some o := let ⟨_, _, _, _, h, _⟩ := B.ex; ⟨_, h⟩
theorem Box.g_in {H : Hp} {b g m : Addr} {n : Nat} (B : Box H b g m n) : ∃ o, H g = some o := let ⟨_, _, _, _, _, h, _⟩ := B.ex; ⟨_, h⟩
theorem Box.m_in {H : Hp} {b g m : Addr} {n : Nat} (B : Box H b g m n) : ∃ o, H m = some o := let ⟨_, _, _, _, _, _, h, _⟩ := B.ex; ⟨_, h⟩
/-- an int at a place in bounds -/
theorem int_at (l : List Int) {i : Int} (h0 : 0 ≤ i) (h1 : i < l.length) : ∃ z : Int, atI (l.map V.int) i = some (.int z) := by
  obtain ⟨j, rfl⟩ := Int.eq_ofNat_of_zero_le h0
  have lt : j < l.length := by omega
  exact ⟨l[j], atI_nat (by rw [List.getElem?_map, List.getElem?_eq_getElem lt]; rfl)⟩
section
variable {P : Program} {w : World} {K : PySem.W.Frag} {mg : Str → Option Value} {base : Heap}
/-! _law_box -/
abbrev sBox : Stmt := top 27
abbrev nBox : List Str := ["_law_script", "_law_great", "_law_cell"]
theorem scBox : FnScope nBox ["_law_script"] (defScope sBox) := ⟨rfl, rfl, rfl, by decide +kernel, rfl, by decide +kernel, by decide +kernel⟩
def spBox (K : PySem.W.Frag) : Sp := fun vs H Q _ => ∃ (a : Addr) (ns : List Int), vs = [.ref a] ∧ SqL K H a (ns.map V.int) ∧ ns.length ≤ 63 ∧
  ∀ H' b g m, Same H H' → Box H' b g m 0 → Q (.ref b) H'
/-- some ints, no more than there were -/
def Ints (H : Hp) (p : Addr) (n : Nat) : Prop := ∃ ns : List Int, H p = some (.lst (ns.map V.int)) ∧ ns.length ≤ n
theorem ok_box {f : Addr} {fd : FuncData} {k : Nat} (F : Fun K "_law_box" "_law_box" sBox f fd) : FnOk P w K mg base CX0 (k + 1) f fd ["_law_script"] (spBox K) := by
  refine F.ok scBox (fun vs H Q E h => ?_) (fun cdv A outer s H vs Q E hr h => ?_)
  · obtain ⟨a, ns, rfl, _⟩ := h
    rfl
  · obtain ⟨a, ns, rfl, hS, len, q⟩ := h
    refine ⟨_, pss_cons (ps_setLc (i := 1) (own := [("_law_cell", 2)]) (g := gName 2) (by rfl) scBox.nd rfl rfl (sw_true rfl rfl rfl (by decide +kernel)) (pi_list (pv 0)) (blkOk_by (N := nBox) (sc := defScope sBox) (by decide +kernel))
        (fun _ _ _ _ _ => pg_name (i := 2) scBox.nd rfl (Or.inl rfl)) (fun _ _ _ _ _ => pts_one (pt_cmpR op_ge (pv 2) (pe_op op_pow pe_int pe_int) (nomark _))) (fun _ _ _ _ _ => pv 2))
      (pss_one (ps_ret (pe_lst (pa_cons (pv 1) (pa_cons pe_int (pa_cons
        (pe_lc (own := [("_law_cell", 2)]) (g := gName 2) (by rfl) scBox.nd (pi_list (pv 0)) (blkOk_by (N := nBox) (sc := defScope sBox) (by decide +kernel))
          (fun _ _ _ _ _ => pg_name (i := 2) scBox.nd rfl (Or.inl rfl)) (fun _ _ _ _ _ => pts_one (pt_cmpR op_lt (pv 2) (pe_op op_pow pe_int pe_int) (nomark _))) (fun _ _ _ _ _ => pv 2))
        (pa_cons pe_int pa_nil))))))), ?_⟩
    have item : ∀ (i : Nat) (x : V), (ns.map V.int)[i]? = some x → ∃ z, x = V.int z := fun i x e => by
      rw [List.getElem?_map] at e
      obtain ⟨z, _, rfl⟩ := Option.map_eq_some_iff.mp e
      exact ⟨z, rfl⟩
    have pow : CPow 10 18 := ⟨by decide, by decide, by decide⟩
    have small : ∀ {l : List Int} {i : Nat}, l.length ≤ i → i < ns.length → (l.map V.int).length < sizeLine := fun h1 h2 => by
      rw [List.length_map]
      exact small1000 (by omega)
    refine ⟨.ref a, rfl, a, rfl, ⟨_, hS⟩, fun D nD => lc_list (K := K) (a := a) (xs := ns.map V.int) (fun i H1 => Same H H1 ∧ ∃ gs : List Int, H1 D = some (.lst (gs.map V.int)) ∧ gs.length ≤ i) ?_ (fun i H1 _ h => Same.seq h.1 hS) ?_ ?_⟩
    · exact ⟨same_new nD, [], upd_same, Nat.le_refl _⟩
    · rintro i x H1 hx ⟨s1, gs, hD, hl⟩
      have hi : i < ns.length := by
        have := (List.getElem?_eq_some_iff.mp hx).1
        rwa [List.length_map] at this
      obtain ⟨z, rfl⟩ := item i x hx
      refine ⟨rfl, .int z, rfl, 10, 18, rfl, rfl, pow, _, _, rfl, rfl, _, rfl, ite2 (fun _ => ?_) (fun _ => ?_)⟩
      · refine ⟨.int z, rfl, _, hD, small hl hi, fun c o e => ?_, gs ++ [z], ?_, ?_⟩
        · rw [upd_ne (ne_of_none e nD)]
          exact s1 c o e
        · rw [upd_same, List.map_append]
          rfl
        · rw [List.length_append]
          exact Nat.succ_le_succ hl
      · exact ⟨s1, gs, hD, Nat.le_succ_of_le hl⟩
    · rintro H1 ⟨s1, gs, hD, hl⟩
      rw [List.length_map] at hl
      have hS1 : SqL K H1 a (ns.map V.int) := Same.seq s1 hS
      refine ⟨.ref D, rfl, .ref a, rfl, a, rfl, ⟨_, hS1⟩, fun D2 nD2 => lc_list (K := K) (a := a) (xs := ns.map V.int) (fun i H2 => Same H1 H2 ∧ ∃ ms : List Int, H2 D2 = some (.lst (ms.map V.int)) ∧ ms.length ≤ i) ?_ (fun i H2 _ h => Same.seq h.1 hS1) ?_ ?_⟩
      · exact ⟨same_new nD2, [], upd_same, Nat.le_refl _⟩
      · rintro i x H2 hx ⟨s2, ms, hD2, hl2⟩
        have hi : i < ns.length := by
          have := (List.getElem?_eq_some_iff.mp hx).1
          rwa [List.length_map] at this
        obtain ⟨z, rfl⟩ := item i x hx
        refine ⟨rfl, .int z, rfl, 10, 18, rfl, rfl, pow, _, _, rfl, rfl, _, rfl, ite2 (fun _ => ?_) (fun _ => ?_)⟩
        · refine ⟨.int z, rfl, _, hD2, small hl2 hi, fun c o e => ?_, ms ++ [z], ?_, ?_⟩
          · rw [upd_ne (ne_of_none e nD2)]
            exact s2 c o e
          · rw [upd_same, List.map_append]
            rfl
          · rw [List.length_append]
            exact Nat.succ_le_succ hl2
        · exact ⟨s2, ms, hD2, Nat.le_succ_of_le hl2⟩
      · rintro H2 ⟨s2, ms, hD2, hl2⟩
        rw [List.length_map] at hl2
        refine ⟨by show 4 ≤ sizeLine; decide, fun b nb => ?_⟩
        have nD' : H2 D = some (.lst (gs.map V.int)) := s2 _ _ hD
        have ne : D ≠ D2 := ne_of_none hD nD2
        have e1 : D ≠ b := ne_of_none nD' nb
        have e2 : D2 ≠ b := ne_of_none hD2 nb
        refine q _ b D D2 ((s1.trans s2).trans (same_new nb)) ⟨⟨0, 0, gs, ms, upd_same, ?_, ?_, Int.le_refl _, Int.le_refl _, by omega, by omega⟩, e1.symm, e2.symm, ne⟩
        · rw [upd_ne e1]
          exact nD'
        · rw [upd_ne e2]
          exact hD2
/-! _law_mixed -/
abbrev sMixed : Stmt := top 28
abbrev nMixed : List Str := ["_law_cell", "_law_k", "_law_whole"]
theorem scMixed : FnScope nMixed ["_law_cell", "_law_k"] (defScope sMixed) := ⟨rfl, rfl, rfl, by decide +kernel, rfl, by decide +kernel, by decide +kernel⟩
def spMixed : Sp := fun vs H Q _ => ∃ c k : Int, vs = [.int c, .int k] ∧ 0 ≤ k ∧ k ≤ 10000000 ∧ ∀ v : Int, Q (.int v) H
theorem ok_mixed {f : Addr} {fd : FuncData} {k : Nat} (F : Fun K "_law_mixed" "_law_mixed" sMixed f fd) : FnOk P w K mg base CX0 (k + 1) f fd ["_law_cell", "_law_k"] spMixed := by
  refine F.ok scMixed (fun vs H Q E h => ?_) (fun cdv A outer s H vs Q E hr h => ?_)
  · obtain ⟨c, k, rfl, _⟩ := h
    rfl
  · obtain ⟨c, k, rfl, k0, k1, q⟩ := h
    refine ⟨_, pss_cons (ps_set (i := 2) scMixed.nd rfl (Or.inl rfl) (pe_op op_mod (pe_op op_pow
        (pe_op op_add (pe_op op_add (pe_op op_add (pe_op op_mod (pv 0) pe_int) (pe_op op_mul (pe_op op_mul pe_int (pv 1)) (pv 1))) (pe_op op_mul pe_int (pv 1))) pe_int) pe_int) pe_int))
      (pss_one (ps_ret (pe_op op_mod (pe_op op_add (pe_op op_mul (pv 2) pe_int) (pe_op op_mul pe_int (pv 1))) pe_int))), ?_⟩
    have m0 : 0 ≤ c % 2147483647 := Int.emod_nonneg _ (by decide)
    have m1 : c % 2147483647 < 2147483647 := Int.emod_lt_of_pos _ (by decide)
    have sq : 0 ≤ k * k ∧ k * k ≤ 10000000 * 10000000 := ⟨Int.mul_nonneg k0 k0, Int.mul_le_mul k1 k1 k0 (by decide)⟩
    have e : 1009 * k * k = 1009 * (k * k) := Int.mul_assoc _ _ _
    have big : (c % 2147483647 + 1009 * k * k + 48611 * k + 17).natAbs < 2 ^ 64 := by
      rw [e]
      omega
    refine ⟨_, rfl, _, _, rfl, rfl, (by show (0 : Int) < 2147483647; decide), _, rfl, _, _, rfl, rfl, .inl ⟨by decide, by decide⟩, _, rfl, _, _, rfl, rfl, .inr ⟨by omega, by omega⟩, _, _, rfl, rfl, _, rfl, _, _, rfl, rfl, .inl ⟨by decide, by decide⟩, _, _, rfl, rfl, _, _, rfl, rfl,
      _, _, rfl, rfl, ⟨by decide, by decide, big⟩, _, _, rfl, rfl, (by show (0 : Int) < 2147483647; decide), ?_⟩
    refine ⟨_, rfl, _, _, rfl, rfl, .inr ⟨by decide, by decide⟩, _, rfl, _, _, rfl, rfl, .inl ⟨by decide, by decide⟩, _, _, rfl, rfl, _, _, rfl, rfl, (by show (0 : Int) < 1000000007; decide), ?_⟩
    exact q _
/-! _law_take -/
abbrev sTake : Stmt := top 29
abbrev nTake : List Str := ["_law_box_here", "_law_size", "_law_found", "_law_cell", "_law_reach"]
theorem scTake : FnScope nTake ["_law_box_here", "_law_size"] (defScope sTake) := ⟨rfl, rfl, rfl, by decide +kernel, rfl, by decide +kernel, by decide +kernel⟩
/-- a drawn number below size; the box is a box again -/
def spTake : Sp := fun vs H Q _ => ∃ (b g m : Addr) (n : Nat) (size : Int), vs = [.ref b, .int size] ∧ Box H b g m n ∧ n ≤ 1000000 ∧ 1 ≤ size ∧ size ≤ 1000 ∧
  ∀ (v : Int) (H' : Hp), 0 ≤ v → v < size → Box H' b g m (n + 1) → Keep b g H H' → Q (.int v) H'
theorem ok_take {f fM : Addr} {fd fdM : FuncData} {k : Nat} (F : Fun K "_law_take" "_law_take" sTake f fd) (FM : Fun K "_law_mixed" "_law_mixed" sMixed fM fdM) (bM : Binds K fdM ["_law_cell", "_law_k"] []) (gM : mg "_law_mixed" = some (.ref fM))
    (ml : mg "len" = none) (mx : mg "max" = none) : FnOk P w K mg base CX0 (k + 2) f fd ["_law_box_here", "_law_size"] spTake := by
  have GM : FnOk P w K mg base CX0 (k + 1) fM fdM ["_law_cell", "_law_k"] spMixed := ok_mixed FM
  refine F.ok scTake (fun vs H Q E h => ?_) (fun cdv A outer s H vs Q E hr h => ?_)
  · obtain ⟨b, g, m, n, size, rfl, _⟩ := h
    rfl
  · obtain ⟨b, g, m, n, size, rfl, B, hn, s1, s2, q⟩ := h
    refine ⟨_, pss_cons (ps_asg (pe_op op_add (pe_ix ix_list (pv 0) pe_int (fun _ _ => rfl)) pe_int) (pg_sub (pv 0) pe_int L2.set_list))
      (C8.pss_cut (ps_if (PW.pt (pw_and (pt_cmpR op_eq (pe_ix ix_list (pv 0) pe_int (fun _ _ => rfl)) pe_int (nomark _))
          (pw_and1 (pt_cmpR op_gt (pe_callB call_len_seq (by rfl) ml PySem.boot_len (pa_cons (pe_ix ix_list (pv 0) pe_int (fun _ _ => rfl)) pa_nil)) pe_int (nomark _)))))
        (pss_one (ps_asg (pe_bm PySem.F.plainAttrs_list PySem.F.slot_list_pop PySem.F.type_list_pop mt_popAt (pe_ix ix_list (pv 0) pe_int (fun _ _ => rfl)) (pa_cons pe_int pa_nil)) (pg_sub (pv 0) pe_int L2.set_list))) pss_nil)
      (pss_cons (ps_if (pt_cmpR op_gt (pe_ix ix_list (pv 0) pe_int (fun _ _ => rfl)) pe_int (nomark _))
        (pss_cons (ps_set (i := 2) scTake.nd rfl (Or.inl rfl) (pe_op op_mod (pe_ix ix_list (pv 0) pe_int (fun _ _ => rfl)) (pv 1)))
        (pss_cons (ps_asg (pe_op op_fdiv (pe_ix ix_list (pv 0) pe_int (fun _ _ => rfl)) (pv 1)) (pg_sub (pv 0) pe_int L2.set_list))
        (pss_one (ps_ret (pv 2))))) pss_nil)
      (pss_cons (ps_set (i := 3) scTake.nd rfl (Or.inl rfl) (pe_ix ix_list (pe_op op_cat (pe_ix ix_list (pv 0) pe_int (fun _ _ => rfl)) (pe_lst (pa_cons (pe_op op_mul pe_int (pe_ix ix_list (pv 0) pe_int (fun _ _ => rfl))) pa_nil)))
          (pe_op op_mod (pe_ix ix_list (pv 0) pe_int (fun _ _ => rfl)) (pe_callB (call_max2 rfl) (by rfl) mx (by decide +kernel) (pa_cons pe_int (pa_cons (pe_callB call_len_seq (by rfl) ml PySem.boot_len (pa_cons (pe_ix ix_list (pv 0) pe_int (fun _ _ => rfl)) pa_nil)) pa_nil)))) (fun _ _ => rfl)))
      (pss_cons (ps_set (i := 2) scTake.nd rfl (Or.inl rfl) pe_int)
      (pss_cons (ps_set (i := 4) scTake.nd rfl (Or.inl rfl) pe_int)
      (pss_cons (ps_while PassesOwn.never (pt_cmpR op_lt (pv 4) (pv 1) (nomark _))
        (pss_cons (ps_set (i := 2) scTake.nd rfl (Or.inl rfl) (pe_op op_add (pe_op op_mul (pv 2) pe_int) (pe_call GM hr (by rfl) gM FM.kp bM .nil pass0 (pa_cons (pv 3) (pa_cons (pe_op op_add (pe_ix ix_list (pv 0) pe_int (fun _ _ => rfl)) (pe_op op_mul pe_int (pe_op op_mod (pv 2) pe_int))) pa_nil)))))
        (pss_one (ps_set (i := 4) scTake.nd rfl (Or.inl rfl) (pe_op op_mul (pv 4) pe_int)))))
      (pss_one (ps_ret (pe_op op_mod (pv 2) (pv 1)))))))))), ?_⟩
    obtain ⟨⟨x, c, gs, ms, hb, hg, hm, c0, c1, gl, mlen⟩, bg, bm, gm⟩ := id B
    -- box[3] = box[3] + 1
    refine ⟨.ref b, rfl, b, _, 3, .int c, rfl, rfl, SqL.of hb, rfl, _, _, rfl, rfl, .ref b, rfl, b, _, 3, 3, rfl, rfl, hb, rfl, ?_⟩
    -- the word between
    refine ⟨fun σ H1 => σ = [some (.ref b), some (.int size), none, none, none] ∧ ∃ (x1 : Int) (gs1 : List Int), H1 b = some (.lst [.ref g, .int x1, .ref m, .int (c + 1)]) ∧ H1 g = some (.lst (gs1.map V.int)) ∧ gs1.length ≤ 63 ∧ Keep b g H H1, ?_, ?_⟩
    · have hb1 : (upd H b (.lst [.ref g, .int x, .ref m, .int (c + 1)])) b = some (.lst [.ref g, .int x, .ref m, .int (c + 1)]) := upd_same
      have hg1 : (upd H b (.lst [.ref g, .int x, .ref m, .int (c + 1)])) g = some (.lst (gs.map V.int)) := by rw [upd_ne bg.symm]; exact hg
      have kp1 : Keep b g H (upd H b (.lst [.ref g, .int x, .ref m, .int (c + 1)])) := fun d o e n1 _ => by rw [upd_ne n1]; exact e
      refine ⟨.ref b, rfl, b, _, 1, .int x, rfl, rfl, SqL.of hb1, rfl, rfl, _, rfl, ?_⟩
      refine ite2 (fun _ => ?_) (fun _ => ?_)
      · refine ⟨.ref b, rfl, b, _, 0, .ref g, rfl, rfl, SqL.of hb1, rfl, g, _, rfl, .inl (SqL.of hg1), _, _, rfl, rfl, _, rfl, ite2 (fun e => ?_) (fun _ => ?_)⟩
        · have pos := of_decide_eq_true e
          rw [List.length_map] at pos
          obtain ⟨z, r, rfl⟩ : ∃ z r, gs = z :: r := by
            cases gs with
            | nil => simp at pos
            | cons z r => exact ⟨z, r, rfl⟩
          refine ⟨.ref b, rfl, b, _, 0, .ref g, rfl, rfl, SqL.of hb1, rfl, .inl ⟨rfl, _, SqL.of hg1⟩, g, _, 0, 0, .int z, rfl, rfl, hg1, by decide, by decide, ?_, rfl, ?_⟩
          · simp [seqIndex?]
          · refine ⟨.ref b, rfl, b, [.ref g, .int x, .ref m, .int (c + 1)], 1, 1, rfl, rfl, by rw [upd_ne bg]; exact hb1, rfl, rfl, z, r, upd_same, ?_, ?_, ?_⟩
            · rw [upd_ne bg.symm, upd_same]
              rfl
            · simp at gl
              omega
            · intro d o e n1 n2
              rw [upd_ne n1, upd_ne n2]
              exact kp1 d o e n1 n2
        · exact ⟨rfl, x, gs, hb1, hg1, gl, kp1⟩
      · exact ⟨rfl, x, gs, hb1, hg1, gl, kp1⟩
    · rintro σ H1 ⟨rfl, x1, gs1, hb1, hg1, gl1, kp1⟩
      have hm1 : H1 m = some (.lst (ms.map V.int)) := kp1 _ _ hm bm.symm gm.symm
      -- if box[1] > 0
      refine ⟨.ref b, rfl, b, _, 1, .int x1, rfl, rfl, SqL.of hb1, rfl, _, _, rfl, rfl, _, rfl, ite2 (fun _ => ?_) (fun _ => ?_)⟩
      · refine ⟨.ref b, rfl, b, _, 1, .int x1, rfl, rfl, SqL.of hb1, rfl, .int size, rfl, _, _, rfl, rfl, (by show 0 < size; omega), ?_⟩
        refine ⟨.ref b, rfl, b, _, 1, .int x1, rfl, rfl, SqL.of hb1, rfl, .int size, rfl, _, _, rfl, rfl, ⟨by omega, by omega⟩, .ref b, rfl, b, _, 1, 1, rfl, rfl, hb1, rfl, ?_⟩
        refine ⟨.int (x1 % size), rfl, q _ _ (Int.emod_nonneg _ (by omega)) (Int.emod_lt_of_pos _ (by omega)) ⟨⟨x1 / size, c + 1, gs1, ms, upd_same, ?_, ?_, by omega, by omega, gl1, mlen⟩, bg, bm, gm⟩ ?_⟩
        · rw [upd_ne bg.symm]
          exact hg1
        · rw [upd_ne bm.symm]
          exact hm1
        · intro d o e n1 n2
          rw [upd_ne n1]
          exact kp1 d o e n1 n2
      · -- the cell
        have mx0 : (0 : Int) < (if ((ms.map V.int).length : Int) > 1 then ((ms.map V.int).length : Int) else 1) := by
          split <;> omega
        refine ⟨.ref b, rfl, b, _, 2, .ref m, rfl, rfl, SqL.of hb1, rfl, .ref b, rfl, b, _, 3, .int (c + 1), rfl, rfl, SqL.of hb1, rfl, _, _, rfl, rfl, .inl ⟨by decide, by decide⟩, by show 1 ≤ sizeLine; decide, fun l1 nl1 => ?_⟩
        have ne1 : m ≠ l1 := ne_of_none hm1 nl1
        refine ⟨m, l1, ms.map V.int, [.int (7 * (c + 1))], rfl, rfl, by rw [upd_ne ne1]; exact hm1, upd_same, ?_, fun l2 nl2 => ?_⟩
        · rw [List.length_map]
          have : (63 : Nat) + 1 ≤ sizeLine := by decide
          show ms.length + 1 ≤ sizeLine
          omega
        have hb2 : upd (upd H1 l1 (.lst [.int (7 * (c + 1))])) l2 (.lst (ms.map V.int ++ [.int (7 * (c + 1))])) b = some (.lst [.ref g, .int x1, .ref m, .int (c + 1)]) := by
          rw [upd_ne (ne_of_none (by rw [upd_ne (ne_of_none hb1 nl1)]; exact hb1) nl2), upd_ne (ne_of_none hb1 nl1)]
          exact hb1
        have s2' : Same H1 (upd (upd H1 l1 (.lst [.int (7 * (c + 1))])) l2 (.lst (ms.map V.int ++ [.int (7 * (c + 1))]))) := (same_new nl1).trans (same_new nl2)
        have at2 : upd (upd H1 l1 (.lst [.int (7 * (c + 1))])) l2 (.lst (ms.map V.int ++ [.int (7 * (c + 1))])) l2 = some (.lst (ms.map V.int ++ [.int (7 * (c + 1))])) := upd_same
        generalize upd (upd H1 l1 (.lst [.int (7 * (c + 1))])) l2 (.lst (ms.map V.int ++ [.int (7 * (c + 1))])) = H2 at hb2 s2' at2
        have hm2 := s2' _ _ hm1
        have idx : ∃ z : Int, atI (ms.map V.int ++ [V.int (7 * (c + 1))]) ((c + 1) % (if ((ms.map V.int).length : Int) > 1 then ((ms.map V.int).length : Int) else 1)) = some (.int z) := by
          have e : ms.map V.int ++ [V.int (7 * (c + 1))] = (ms ++ [7 * (c + 1)]).map V.int := by rw [List.map_append]; rfl
          rw [e]
          refine int_at _ (Int.emod_nonneg _ (by omega)) ?_
          refine Int.lt_of_lt_of_le (Int.emod_lt_of_pos (c + 1) mx0) ?_
          rw [List.length_map, List.length_append, List.length_singleton]
          split <;> omega
        obtain ⟨z, idx⟩ := idx
        refine ⟨.ref b, rfl, b, _, 3, .int (c + 1), rfl, rfl, SqL.of hb2, rfl, .ref b, rfl, b, _, 2, .ref m, rfl, rfl, SqL.of hb2, rfl, m, _, rfl, .inl (SqL.of hm2), _, _, rfl, _, _, rfl, rfl, mx0, l2, _, _, .int z, rfl, rfl, SqL.of at2, idx, ?_⟩
        -- the loop
        refine while_by (fun σ H3 => H3 = H2 ∧ ∃ fo re : Int, σ = [some (.ref b), some (.int size), some (.int fo), some (.int z), some (.int re)] ∧ (re = 1 ∧ fo = 0 ∨ re = 1000000007))
          (fun (σ : L2.St) _ => match σ[4]? with | some (some (V.int r)) => if r = 1 then 1 else 0 | _ => 0) ⟨rfl, 0, 1, rfl, .inl ⟨rfl, rfl⟩⟩ ?_
          (fun σ H Q Q' hq ⟨v, e, v', e', i, j, e1, e2, b, eb, h⟩ => ⟨v, e, v', e', i, j, e1, e2, b, eb, hq _ _ h⟩)
        rintro σ H3 ⟨rfl, fo, re, rfl, hre⟩
        refine ⟨.int re, rfl, .int size, rfl, _, _, rfl, rfl, _, rfl, ite2 (fun e => ?_) (fun _ => ?_)⟩
        · have lt : re < size := of_decide_eq_true e
          obtain ⟨rfl, rfl⟩ : re = 1 ∧ fo = 0 := by
            rcases hre with h | h
            · exact h
            · omega
          refine ⟨.int 0, rfl, _, _, rfl, rfl, .inl ⟨by decide, by decide⟩, .int z, rfl, .ref b, rfl, b, _, 3, .int (c + 1), rfl, rfl, SqL.of hb2, rfl, .int 0, rfl, _, _, rfl, rfl, (by show (0 : Int) < 89; decide), _, _, rfl, rfl, .inl ⟨by decide, by decide⟩, _, _, rfl, rfl, z, _, rfl, ?_, ?_, fun v => ?_⟩
          · show 0 ≤ c + 1 + 1000 * (0 % 89)
            omega
          · show c + 1 + 1000 * (0 % 89) ≤ 10000000
            omega
          · refine ⟨_, _, rfl, rfl, .int 1, rfl, _, _, rfl, rfl, .inl ⟨by decide, by decide⟩, ⟨rfl, _, 1 * 1000000007, rfl, .inr rfl⟩, ?_⟩
            show (if (1 * 1000000007 : Int) = 1 then 1 else 0) < (if (1 : Int) = 1 then 1 else 0)
            decide
        · refine ⟨.int fo, rfl, .int size, rfl, _, _, rfl, rfl, (by show 0 < size; omega), q _ _ (Int.emod_nonneg _ (by omega)) (Int.emod_lt_of_pos _ (by omega)) ⟨⟨x1, c + 1, gs1, ms, hb2, s2' _ _ hg1, hm2, by omega, by omega, gl1, mlen⟩, bg, bm, gm⟩ ?_⟩
          exact kp1.trans (Same.keep s2')
end
end Moot
namespace Moot
open PySem PySem.Spec PyProof.Rows L2
/-! texts of one sign -/
def sg (c : Nat) : Str := ⟨#[c]⟩
theorem sg_inj {c d : Nat} (h : sg c = sg d) : c = d := by
  have := congrArg (fun s : Str => s.cps.toList) h
  simpa [sg] using this
theorem glue_one : ∀ (cs : List Nat) (acc : Array Nat), (cs.map sg).foldl (fun a p => a ++ Str.empty.cps ++ p.cps) acc = acc ++ cs.toArray
  | [], acc => by simp
  | c :: cs, acc => by
    rw [List.map_cons, List.foldl_cons, glue_one cs]
    simp [Str.empty, sg]
theorem join_signs (cs : List Nat) : Txt.join Str.empty (cs.map sg) = ⟨cs.toArray⟩ := by
  unfold Txt.join Builtin.Str.glued
  cases cs with
  | nil => rfl
  | cons c cs =>
    show (⟨(cs.map sg).foldl _ (sg c).cps⟩ : Str) = _
    rw [glue_one]
    simp [sg]
/-- a name: one to eight letters -/
structure Nm (x : Str) : Prop where
  lo : 1 ≤ x.cps.size
  hi : x.cps.size ≤ 8
  low : ∀ c ∈ x.cps.toList, 97 ≤ c ∧ c ≤ 122
theorem Nm.ok {x : Str} (h : Nm x) : PyData.strOk x = true := by
  unfold PyData.strOk
  rw [Array.all_eq_true]
  intro i hi
  have := h.low x.cps[i] (by simp)
  simp
  omega
abbrev abc : Str := "abcdefghijklmnopqrstuvwxyz"
theorem abc_list : abc.cps.toList = (List.range 26).map (· + 97) := by decide +kernel
theorem abc_size : abc.cps.size = 26 := by decide +kernel
theorem abc_at {i : Nat} (h : i < 26) : abc.cps.toList[i]? = some (i + 97) := by
  rw [abc_list, List.getElem?_map, List.getElem?_range h]
  rfl
theorem sg_nm {c : Nat} (h : c < 26) : Nm (sg (c + 97)) := ⟨by simp [sg], by simp [sg], fun d m => by
  have : d = c + 97 := by simpa [sg] using m
  omega⟩
theorem nm_of {cs : List Nat} (h1 : 1 ≤ cs.length) (h2 : cs.length ≤ 8) (h : ∀ c ∈ cs, 97 ≤ c ∧ c ≤ 122) : Nm ⟨cs.toArray⟩ := ⟨by simpa using h1, by simpa using h2, fun c m => h c (by simpa using m)⟩
theorem inV_str (z : Str) (xs : List Str) : inV (.str z) (xs.map V.str) = decide (z ∈ xs) := by
  unfold inV
  rw [List.any_map]
  rw [Bool.eq_iff_iff, List.any_eq_true, decide_eq_true_eq]
  constructor
  · rintro ⟨y, m, e⟩
    have : y = z := by simpa [eqV] using e
    exact this ▸ m
  · intro m
    exact ⟨z, m, by simp [eqV]⟩
theorem flats (xs : List Str) : (xs.map V.str).all flatV = true := by
  rw [List.all_map]
  exact List.all_eq_true.mpr fun _ _ => rfl
/-- some letter is not among fewer than 26 names -/
theorem letter_left (xs : List Str) (h : xs.length < 26) : ∃ c, c < 26 ∧ sg (c + 97) ∉ xs := by
  rcases Classical.em (∃ c, c < 26 ∧ sg (c + 97) ∉ xs) with h' | h'
  · exact h'
  · exfalso
    have all : ∀ y ∈ (List.range 26).map (fun c => sg (c + 97)), y ∈ xs := fun y m => by
      obtain ⟨c, hc, rfl⟩ := List.mem_map.mp m
      rcases Classical.em (sg (c + 97) ∈ xs) with k | k
      · exact k
      · exact absurd ⟨c, List.mem_range.mp hc, k⟩ h'
    have nd : ((List.range 26).map (fun c => sg (c + 97))).Nodup := by
      refine List.Pairwise.map _ (fun a b n e => n ?_) (List.nodup_range (n := 26))
      have := sg_inj e
      omega
    have : ∀ (l D : List Str), l.Nodup → (∀ y ∈ l, y ∈ D) → l.length ≤ D.length := by
      intro l
      induction l with
      | nil => intros; exact Nat.zero_le _
      | cons y l ih =>
        intro D n s
        obtain ⟨n1, n2⟩ := List.nodup_cons.mp n
        have my := s y List.mem_cons_self
        have := ih (D.erase y) n2 fun z mz => (List.mem_erase_of_ne fun (e : z = y) => n1 (e ▸ mz)).mpr (s z (List.mem_cons_of_mem _ mz))
        have e := List.length_erase_of_mem my
        have := List.length_pos_of_mem my
        rw [List.length_cons]
        omega
    have := this _ xs nd all
    rw [List.length_map, List.length_range] at this
    omega
theorem Box.ne {H : Hp} {b g m p : Addr} {n : Nat} (B : Box H b g m n) (h : H p = none) : p ≠ b ∧ p ≠ g ∧ p ≠ m := by
  obtain ⟨o1, h1⟩ := B.b_in
  obtain ⟨o2, h2⟩ := B.g_in
  obtain ⟨o3, h3⟩ := B.m_in
  exact ⟨(ne_of_none h1 h).symm, (ne_of_none h2 h).symm, (ne_of_none h3 h).symm⟩
theorem Keep.free {b g p : Addr} {H H' : Hp} (k : Keep b g H H') (p1 : p ≠ b) (p2 : p ≠ g) (h : H' p = none) : H p = none := by
  cases e : H p with
  | none => rfl
  | some o =>
    rw [k p o e p1 p2] at h
    cases h
theorem one_two_eight {v : Int} (h0 : 0 ≤ v) (h1 : v < 3) : ∃ s : Int, atI [V.int 1, V.int 2, V.int 8] v = some (.int s) ∧ 1 ≤ s ∧ s ≤ 8 := by
  have c : v = 0 ∨ v = 1 ∨ v = 2 := by omega
  rcases c with rfl | rfl | rfl
  · exact ⟨1, rfl, by decide, by decide⟩
  · exact ⟨2, rfl, by decide, by decide⟩
  · exact ⟨8, rfl, by decide, by decide⟩
theorem erase_map {α β : Type} (f : α → β) : ∀ (l : List α) (k : Nat), (l.map f).eraseIdx k = (l.eraseIdx k).map f
  | [], _ => rfl
  | _ :: _, 0 => rfl
  | x :: l, k + 1 => by
    show f x :: (l.map f).eraseIdx k = f x :: (l.eraseIdx k).map f
    rw [erase_map f l k]
theorem seq_at {n : Nat} {v : Int} (h0 : 0 ≤ v) (h1 : v < n) : seqIndex? v n = some v.toNat := by
  have e : ixN n v = some v.toNat := by
    unfold ixN
    rw [if_pos h0, if_pos (by omega)]
  exact (ixN_seq e).1
section
variable {P : Program} {w : World} {K : PySem.W.Frag} {mg : Str → Option Value} {base : Heap}
/-! _law_names -/
abbrev sNames : Stmt := top 30
abbrev nNames : List Str := ["_law_box_here", "_law_many", "_law_letters", "_law_found", "_law_k", "_law_size", "_law_name_here", "_law_j", "_law_one"]
theorem scNames : FnScope nNames ["_law_box_here", "_law_many"] (defScope sNames) := ⟨rfl, rfl, rfl, by decide +kernel, rfl, by decide +kernel, by decide +kernel⟩
/-- that many names, none twice, each with a token -/
def spNames : Sp := fun vs H Q _ => ∃ (b g m : Addr) (n : Nat) (many : Nat), vs = [.ref b, .int many] ∧ Box H b g m n ∧ n ≤ 900000 ∧ many ≤ 8 ∧
  ∀ (p : Addr) (xs : List Str) (H' : Hp), H p = none → GLs H' p (xs.map V.str) → xs.length = many → xs.Nodup → (∀ x ∈ xs, Nm x) → Box H' b g m (n + 100) → Keep b g H H' → Q (.ref p) H'
theorem ok_names {f fT : Addr} {fd fdT : FuncData} {k : Nat} (F : Fun K "_law_names" "_law_names" sNames f fd) (FT : Fun K "_law_take" "_law_take" sTake fT fdT) (bT : Binds K fdT ["_law_box_here", "_law_size"] []) (gT : mg "_law_take" = some (.ref fT))
    (GT : FnOk P w K mg base CX0 k fT fdT ["_law_box_here", "_law_size"] spTake) (mr : mg "range" = none) : FnOk P w K mg base CX0 (k + 1) f fd ["_law_box_here", "_law_many"] spNames := by
  refine F.ok scNames (fun vs H Q E h => ?_) (fun cdv A outer s H vs Q E hr h => ?_)
  · obtain ⟨b, g, m, n, many, rfl, _⟩ := h
    rfl
  · obtain ⟨b, g, m, n, many, rfl, B, hn, hmany, q⟩ := h
    refine ⟨_, pss_cons (ps_set (i := 2) scNames.nd rfl (Or.inr rfl) pe_str)
      (pss_cons (ps_set (i := 3) scNames.nd rfl (Or.inr rfl) (pe_lst pa_nil))
      (pss_known (pss_cons (ps_for PassesOwn.never rfl (pi_range1 rfl mr (pa_cons (pv 1) pa_nil)) (pg_name (i := 4) scNames.nd rfl (Or.inl rfl))
        (pss_cons (ps_set (i := 5) scNames.nd rfl (Or.inl rfl) (pe_op op_add pe_int (pe_call GT hr (by rfl) gT FT.kp bT .nil pass0 (pa_cons (pv 0) (pa_cons (pe_ix ix_list (pe_lst (pa_cons pe_int (pa_cons pe_int (pa_cons pe_int pa_nil)))) (pe_call GT hr (by rfl) gT FT.kp bT .nil pass0 (pa_cons (pv 0) (pa_cons pe_int pa_nil))) (fun _ _ => rfl)) pa_nil)))))
        (pss_joinPut (i := 6) (jf := 3) scNames.nd rfl rfl rfl (.inr (.inl rfl))
          (pek_lcG (own := [("_law_j", 7)]) (tv := tvOf (gName 7) _ [7]) (by rfl) scNames.nd (pig_of (pi_range1 rfl mr (pa_cons (pv 5) pa_nil))) (blkOk_by (N := nNames) (sc := defScope sNames) (by decide +kernel))
            (fun _ _ _ _ _ => turn_of rfl (pg_name (i := 7) scNames.nd rfl (Or.inl rfl)) (pek_ixStr (pv 2) (pe_call GT hr (by rfl) gT FT.kp bT .nil pass0 (pa_cons (pv 0) (pa_cons pe_int pa_nil))) (fun _ _ => rfl))))
          (pek_lcG (own := [("_law_one", 8)]) (tv := tvNotIn K 8 3) (by rfl) scNames.nd (pig_str (pv 2)) (blkOk_by (N := nNames) (sc := defScope sNames) (by decide +kernel))
            (fun _ _ _ _ _ => turn_notin scNames.nd rfl rfl rfl (by first | exact .inl rfl | exact .inr (.inl rfl) | exact .inr (.inr rfl)))))))
      (pss_one (ps_ret (pv 3)))))), ?_⟩
    refine ⟨Nat.zero_le _, fun p np => ⟨p, upd_same, fun o u e => ?_, fun o0 g0 => ?_⟩⟩
    · have e : H p = some (.frz o u) := e
      rw [np] at e
      cases e
    rw [upd_upd]
    obtain ⟨pb, pg, pm⟩ := B.ne np
    have nf : ∀ o u, H p ≠ some (.frz o u) := fun o u e => by
      rw [np] at e
      cases e
    refine ⟨.int many, rfl, many, rfl, by omega, by omega, for_range (lo := 0) (n := (many : Int).toNat) (fun i σ H1 => ∃ (xs : List Str) (y4 y5 y6 y7 y8 : Option V), σ = [some (.ref b), some (.int many), some (.str abc), some (.ref p), y4, y5, y6, y7, y8] ∧
      Box H1 b g m (n + 12 * i) ∧ Keep b g H H1 ∧ GLs H1 p (xs.map V.str) ∧ xs.length = i ∧ xs.Nodup ∧ ∀ x ∈ xs, Nm x) ?_ ?_ ?_⟩
    · exact ⟨[], none, none, none, none, none, rfl, B.store pb pg pm, Same.keep (same_new np), ⟨o0, g0, upd_same⟩, rfl, List.nodup_nil, fun x m => by simp at m⟩
    · rintro i σ H1 hi ⟨xs, y4, y5, y6, y7, y8, rfl, B1, K1, h1, len, nd, nm⟩
      have hi8 : i < 8 := by omega
      -- the size
      refine ⟨.ref b, rfl, by show 3 ≤ sizeLine; decide, fun l1 nl1 => ?_⟩
      have B1' := B1.same (same_new (o := .lst [.int 1, .int 2, .int 8]) nl1)
      obtain ⟨lb, lg, lm⟩ := B1.ne nl1
      refine ⟨.ref b, rfl, b, g, m, _, 3, rfl, B1', by omega, by decide, by decide, fun v1 H2 v0 v3 B2 K2 => ?_⟩
      have hl2 : H2 l1 = some (.lst [.int 1, .int 2, .int 8]) := K2 _ _ upd_same lb lg
      obtain ⟨sz, at1, sz1, sz8⟩ := one_two_eight v0 v3
      refine ⟨l1, _, v1, .int sz, rfl, rfl, SqL.of hl2, at1, b, g, m, _, sz, rfl, B2, by omega, sz1, by omega, fun v2 H3 v20 v2s B3 K3 => ?_⟩
      have K13 : Keep b g H1 H3 := ((Same.keep (same_new nl1)).trans K2).trans K3
      refine ⟨_, _, rfl, rfl, ?_⟩
      -- the name
      refine ⟨.int (1 + v2), rfl, 1 + v2, rfl, by omega, by omega, fun D nD oD gD => ?_⟩
      obtain ⟨Db, Dg, Dm⟩ := B3.ne nD
      have abcAt : ∀ v : Int, 0 ≤ v → v < 26 → atI abc.cps.toList v = some (v.toNat + 97) := fun v a0 a1 => by
        obtain ⟨j, rfl⟩ := Int.eq_ofNat_of_zero_le a0
        exact atI_nat (abc_at (by omega))
      refine lcG_range (lo := 0) (n := (1 + v2).toNat) (fun j H4 => Box H4 b g m (n + 12 * i + 2 + j) ∧ Keep b g H3 H4 ∧ ∃ cs : List Nat, GLs H4 D ((cs.map sg).map V.str) ∧ cs.length = j ∧ ∀ c ∈ cs, 97 ≤ c ∧ c ≤ 122) ?_ ?_ ?_
      · exact ⟨B3.store Db Dg Dm, Same.keep (same_new nD), [], ⟨oD, gD, upd_same⟩, rfl, fun c m => by simp at m⟩
      · rintro j H4 hj ⟨B4, K4, cs, ⟨oc, gc, hD⟩, lcs, low⟩
        refine ⟨rfl, .str abc, rfl, .ref b, rfl, b, g, m, _, 26, rfl, B4, by omega, by decide, by decide, fun v H5 a0 a1 B5 K5 => ?_⟩
        refine ⟨abc, v, v.toNat + 97, rfl, rfl, by show abc.cps.size ≤ sizeLine; rw [abc_size]; decide, abcAt v a0 a1, _, ⟨oc, gc, K5 _ _ hD Db Dg⟩, ?_, fun o' g' => ?_⟩
        · rw [List.length_map, List.length_map]
          exact small1000 (by omega)
        · have e' : (cs.map sg).map V.str ++ [V.str ⟨#[v.toNat + 97]⟩] = ((cs ++ [v.toNat + 97]).map sg).map V.str := by
            rw [List.map_append, List.map_append]
            rfl
          refine ⟨(B5.store Db Dg Dm).more (by omega), fun d o e n1 n2 => ?_, cs ++ [v.toNat + 97], ⟨o', ?_, ?_⟩, ?_, ?_⟩
          · rw [upd_ne (ne_of_none e nD)]
            exact K5 _ _ (K4 _ _ e n1 n2) n1 n2
          · rw [← e']
            exact g'
          · rw [upd_same, e']
          · rw [List.length_append, lcs]
            rfl
          · intro c mc
            rcases List.mem_append.mp mc with mc | mc
            · exact low c mc
            · have := List.mem_singleton.mp mc
              omega
      · rintro H4 ⟨B4, K4, cs, gcs, lcs, low⟩
        have K14 : Keep b g H1 H4 := K13.trans K4
        obtain ⟨op, gp, hp1⟩ := h1
        have hp4 : GLs H4 p (xs.map V.str) := ⟨op, gp, K14 _ _ hp1 pb pg⟩
        have lc8 : cs.length ≤ 8 := by omega
        have lc1 : 1 ≤ cs.length := by omega
        refine ⟨D, cs.map sg, rfl, gcs, ?_, ?_⟩
        · have : ((cs.map sg).map (·.length)).sum = cs.length := by
            clear lcs low gcs lc8 lc1
            induction cs with
            | nil => rfl
            | cons c cs ih =>
              rw [List.map_cons, List.map_cons, List.sum_cons, ih, List.length_cons]
              show 1 + cs.length = _
              omega
          rw [this]
          show cs.length + _ * 0 ≤ _
          omega
        rw [join_signs]
        have nmN : Nm ⟨cs.toArray⟩ := nm_of lc1 lc8 low
        generalize (⟨cs.toArray⟩ : Str) = name at nmN ⊢
        have put : ∀ (z : Str) (H5 : Hp) (o' : Obj), Nm z → z ∉ xs → Same H4 H5 → GdL o' (xs.map V.str ++ [.str z]) → Box (upd H5 p (.frz o' (.lst (xs.map V.str ++ [.str z])))) b g m (n + 12 * (i + 1)) ∧ Keep b g H (upd H5 p (.frz o' (.lst (xs.map V.str ++ [.str z])))) ∧
            GLs (upd H5 p (.frz o' (.lst (xs.map V.str ++ [.str z])))) p ((xs ++ [z]).map V.str) ∧ (xs ++ [z]).length = i + 1 ∧ (xs ++ [z]).Nodup ∧ ∀ x ∈ xs ++ [z], Nm x := fun z H5 o' nz out s5 g' => by
          have e' : xs.map V.str ++ [V.str z] = (xs ++ [z]).map V.str := by
            rw [List.map_append]
            rfl
          refine ⟨((B4.same s5).store pb pg pm).more (by omega), ?_, ⟨o', ?_, ?_⟩, ?_, ?_, ?_⟩
          · intro d o e n1 n2
            rw [upd_ne (ne_of_none e np)]
            exact s5 _ _ (K14 _ _ (K1 _ _ e n1 n2) n1 n2)
          · rw [← e']
            exact g'
          · rw [upd_same, e']
          · rw [List.length_append, len]
            rfl
          · exact List.nodup_append.mpr ⟨nd, List.nodup_cons.mpr ⟨by simp, List.nodup_nil⟩, fun a ma c mc e => out (by rw [← List.mem_singleton.mp mc, ← e]; exact ma)⟩
          · intro x mx
            rcases List.mem_append.mp mx with mx | mx
            · exact nm x mx
            · rw [List.mem_singleton.mp mx]
              exact nz
        have room : xs.length < sizeLine := by
          rw [len]
          exact small1000 (by omega)
        refine ⟨p, xs, rfl, hp4, nf, room, fun out o' g' => ⟨xs ++ [name], _, _, _, _, _, rfl, put name H4 o' nmN out (Same.refl _) g'⟩, fun inn => ?_⟩
        refine ⟨.str abc, rfl, abc, rfl, fun D2 nD2 o2 g2 => ?_⟩
        refine lcG_str (fun j H5 => Same H4 H5 ∧ GLs H5 D2 (((((List.range 26).take j).filter fun c => decide (sg (c + 97) ∉ xs)).map fun c => sg (c + 97)).map V.str)) ?_ ?_ ?_
        · exact ⟨same_new nD2, o2, g2, upd_same⟩
        · rintro j c H5 hc ⟨s5, hD2⟩
          have hj26 : j < 26 := by
            have := (Array.getElem?_eq_some_iff.mp hc).1
            rwa [abc_size] at this
          have ec : c = j + 97 := by
            have := abc_at hj26
            rw [Array.getElem?_toList] at this
            exact Option.some.inj (hc.symm.trans this)
          subst ec
          obtain ⟨op4, gp4, e4⟩ := hp4
          have tk : (List.range 26).take (j + 1) = (List.range 26).take j ++ [j] := by
            rw [List.take_add_one, List.getElem?_range hj26]
            rfl
          refine ⟨sg (j + 97), p, xs, rfl, rfl, .inl (.inr ⟨op4, s5 _ _ e4⟩), fun isIn => ⟨s5, ?_⟩, fun isIn => ⟨_, hD2, ?_, fun o' g' => ⟨fun d o e => ?_, o', ?_, ?_⟩⟩⟩
          · rw [tk, List.filter_append]
            simpa [isIn] using hD2
          · rw [List.length_map, List.length_map]
            refine small1000 (Nat.le_trans (List.length_filter_le _ _) ?_)
            rw [List.length_take]
            omega
          · rw [upd_ne (ne_of_none e nD2)]
            exact s5 d o e
          · rw [tk, List.filter_append]
            simpa [isIn] using g'
          · rw [upd_same, tk, List.filter_append]
            simp [isIn]
        · rintro H5 ⟨s5, hD2⟩
          obtain ⟨c, hc, out⟩ := letter_left xs (by omega)
          have e26 : (List.range 26).take abc.cps.size = List.range 26 := by
            rw [abc_size]
            rfl
          rw [e26] at hD2
          have mem : c ∈ (List.range 26).filter fun c => decide (sg (c + 97) ∉ xs) := List.mem_filter.mpr ⟨List.mem_range.mpr hc, decide_eq_true out⟩
          obtain ⟨d, r, er⟩ : ∃ d r, ((List.range 26).filter fun c => decide (sg (c + 97) ∉ xs)) = d :: r := by
            cases h : ((List.range 26).filter fun c => decide (sg (c + 97) ∉ xs)) with
            | nil => rw [h] at mem; simp at mem
            | cons d r => exact ⟨d, r, rfl⟩
          have hd : d < 26 ∧ sg (d + 97) ∉ xs := by
            have : d ∈ (List.range 26).filter fun c => decide (sg (c + 97) ∉ xs) := by rw [er]; exact List.mem_cons_self
            obtain ⟨m1, m2⟩ := List.mem_filter.mp this
            exact ⟨List.mem_range.mp m1, of_decide_eq_true m2⟩
          rw [er] at hD2
          obtain ⟨op4, gp4, e4⟩ := hp4
          exact ⟨D2, sg (d + 97), _, rfl, hD2, ⟨op4, gp4, s5 _ _ e4⟩, fun o' g' => ⟨xs ++ [sg (d + 97)], _, _, _, _, _, rfl, put _ H5 o' (sg_nm hd.1) hd.2 s5 g'⟩⟩
    · rintro σ H1 ⟨xs, y4, y5, y6, y7, y8, rfl, B1, K1, h1, len, nd, nm⟩
      exact ⟨.ref p, rfl, q p xs H1 np h1 (by omega) nd nm (B1.more (by omega)) K1⟩
/-- len by a reading over K alone -/
abbrev rLen (K : PySem.W.Frag) : List V → Hp → VK → Prop := fun xs H Q => ∃ p ys, xs = [.ref p] ∧ (SqL K H p ys ∨ SqT K H p ys) ∧ Q (.int ys.length) H
/-! _law_some -/
abbrev sSome : Stmt := top 31
abbrev nSome : List Str := ["_law_box_here", "_law_values", "_law_left", "_law_k"]
theorem scSome : FnScope nSome ["_law_box_here", "_law_values"] (defScope sSome) := ⟨rfl, rfl, rfl, by decide +kernel, rfl, by decide +kernel, by decide +kernel⟩
/-- at least one of them, none more often than before, each with its token -/
def spSome : Sp := fun vs H Q _ => ∃ (b g m vp : Addr) (n : Nat) (xs : List Str), vs = [.ref b, .ref vp] ∧ Box H b g m n ∧ n ≤ 900000 ∧ GLs H vp (xs.map V.str) ∧ 1 ≤ xs.length ∧ xs.length ≤ 100 ∧
  ∀ (p : Addr) (ys zs : List Str) (H' : Hp), H p = none → GLs H' p (ys.map V.str) → 1 ≤ ys.length → (ys ++ zs).Perm xs → Box H' b g m (n + 1 + xs.length) → Keep b g H H' → Q (.ref p) H'
theorem ok_some {f fT : Addr} {fd fdT : FuncData} {k : Nat} (F : Fun K "_law_some" "_law_some" sSome f fd) (FT : Fun K "_law_take" "_law_take" sTake fT fdT) (bT : Binds K fdT ["_law_box_here", "_law_size"] []) (gT : mg "_law_take" = some (.ref fT))
    (GT : FnOk P w K mg base CX0 k fT fdT ["_law_box_here", "_law_size"] spTake) (mr : mg "range" = none) (ml : mg "len" = none) (mls : mg "list" = none) : FnOk P w K mg base CX0 (k + 1) f fd ["_law_box_here", "_law_values"] spSome := by
  refine F.ok scSome (fun vs H Q E h => ?_) (fun cdv A outer s H vs Q E hr h => ?_)
  · obtain ⟨b, g, m, vp, n, xs, rfl, _⟩ := h
    rfl
  · obtain ⟨b, g, m, vp, n, xs, rfl, B, hn, hv, x1, x2, q⟩ := h
    refine ⟨_, pss_cons (ps_set (i := 2) scSome.nd rfl (Or.inr rfl) (pe_callTy call_listX (by rfl) mls (by decide +kernel) (pa_cons (pv 1) pa_nil)))
      (pss_one (ps_ret (PEK.pe (pek_lcG (own := [("_law_k", 3)]) (tv := tvOf (gName 3) _ [3]) (by rfl) scSome.nd
        (pig_of (pi_range1 rfl mr (pa_cons (pe_op op_add pe_int (pe_call GT hr (by rfl) gT FT.kp bT .nil pass0 (pa_cons (pv 0) (pa_cons (pe_callB call_lenX (by rfl) ml PySem.boot_len (pa_cons (pv 2) pa_nil)) pa_nil)))) pa_nil))) (blkOk_by (N := nSome) (sc := defScope sSome) (by decide +kernel))
        (fun _ _ _ _ _ => turn_of rfl (pg_name (i := 3) scSome.nd rfl (Or.inl rfl))
          (pek_popX (pv 2) (pa_cons (pe_call GT hr (by rfl) gT FT.kp bT .nil pass0 (pa_cons (pv 0) (pa_cons (pe_callB call_lenX (by rfl) ml PySem.boot_len (pa_cons (pv 2) pa_nil)) pa_nil))) pa_nil))))))), ?_⟩
    refine ⟨.ref vp, rfl, vp, _, rfl, hv, fun l nl => ?_⟩
    obtain ⟨lb, lg, lm⟩ := B.ne nl
    have s1 : Same H (upd H l (TLx l (xs.map V.str))) := same_new nl
    have lx : (xs.map V.str).length = xs.length := List.length_map _
    refine ⟨.ref b, rfl, .ref l, rfl, l, _, rfl, upd_same, b, g, m, n, _, rfl, B.same s1, by omega, by omega, by omega, fun v0 H1 a0 a1 B1 K1 => ?_⟩
    refine ⟨_, _, rfl, rfl, 1 + v0, rfl, by omega, by omega, fun D nD oD gD => ?_⟩
    obtain ⟨Db, Dg, Dm⟩ := B1.ne nD
    have hl1 : H1 l = some (TLx l (xs.map V.str)) := K1 _ _ upd_same lb lg
    have Dl : D ≠ l := (ne_of_none hl1 nD).symm
    have K01 : Keep b g H H1 := (Same.keep s1).trans K1
    have fD : H D = none := K01.free Db Dg nD
    refine lcG_range (lo := 0) (n := (1 + v0).toNat) (fun j H4 => Box H4 b g m (n + 1 + j) ∧ Keep b g H H4 ∧ ∃ ys zs : List Str, GLs H4 D (ys.map V.str) ∧ H4 l = some (TLx l (zs.map V.str)) ∧ ys.length = j ∧ (ys ++ zs).Perm xs) ?_ ?_ ?_
    · refine ⟨B1.store Db Dg Dm, K01.trans (Same.keep (same_new nD)), [], xs, ⟨oD, gD, upd_same⟩, ?_, rfl, List.Perm.refl _⟩
      rw [upd_ne Dl.symm]
      exact hl1
    · rintro j H4 hj ⟨B4, K4, ys, zs, ⟨o4, g4, hD⟩, hl, ly, pm⟩
      have total := pm.length_eq
      rw [List.length_append] at total
      have lz : (zs.map V.str).length = zs.length := List.length_map _
      refine ⟨rfl, .ref l, rfl, l, _, rfl, hl, .ref b, rfl, .ref l, rfl, l, _, rfl, hl, b, g, m, _, _, rfl, B4, by omega, by omega, by omega, fun v H5 c0 c1 B5 K5 => ?_⟩
      have hl5 := K5 _ _ hl lb lg
      have hD5 := K5 _ _ hD Db Dg
      have hv : v.toNat < zs.length := by omega
      refine ⟨_, v, v.toNat, .str zs[v.toNat], rfl, hl5, by omega, by omega, seq_at c0 c1, ?_, ys.map V.str, ⟨o4, g4, ?_⟩, ?_, fun o' g' => ?_⟩
      · rw [List.getElem?_map, List.getElem?_eq_getElem hv]
        rfl
      · rw [upd_ne Dl]
        exact hD5
      · rw [List.length_map]
        exact small1000 (by omega)
      · have e' : ys.map V.str ++ [V.str zs[v.toNat]] = (ys ++ [zs[v.toNat]]).map V.str := by
          rw [List.map_append]
          rfl
        refine ⟨((B5.store lb lg lm).store Db Dg Dm).more (by omega), fun d o e n1 n2 => ?_, ys ++ [zs[v.toNat]], zs.eraseIdx v.toNat, ⟨o', ?_, ?_⟩, ?_, ?_, ?_⟩
        · rw [upd_ne (ne_of_none e fD), upd_ne (ne_of_none e nl)]
          exact K5 _ _ (K4 _ _ e n1 n2) n1 n2
        · rw [← e']
          exact g'
        · rw [upd_same, e']
        · rw [upd_ne Dl.symm, upd_same, erase_map]
        · rw [List.length_append, ly]
          rfl
        · refine List.Perm.trans ?_ pm
          rw [List.append_assoc]
          exact List.Perm.append_left ys (erase_perm zs v.toNat _ (List.getElem?_eq_getElem hv))
    · rintro H4 ⟨B4, K4, ys, zs, hD, hl, ly, pm⟩
      exact q D ys zs H4 fD hD (by omega) pm (B4.more (by omega)) K4
/-! _law_count -/
abbrev sCount : Stmt := top 32
abbrev nCount : List Str := ["_law_box_here", "_law_many"]
theorem scCount : FnScope nCount ["_law_box_here", "_law_many"] (defScope sCount) := ⟨rfl, rfl, rfl, by decide +kernel, rfl, by decide +kernel, by decide +kernel⟩
def spCount : Sp := fun vs H Q _ => ∃ (b g m : Addr) (n : Nat) (many : Int), vs = [.ref b, .int many] ∧ Box H b g m n ∧ n ≤ 900000 ∧ 1 ≤ many ∧ many ≤ 1000 ∧
  ∀ (c : Int) (H' : Hp), 1 ≤ c → c ≤ many → Box H' b g m (n + 2) → Keep b g H H' → Q (.int c) H'
theorem ok_count {f fT : Addr} {fd fdT : FuncData} {k : Nat} (F : Fun K "_law_count" "_law_count" sCount f fd) (FT : Fun K "_law_take" "_law_take" sTake fT fdT) (bT : Binds K fdT ["_law_box_here", "_law_size"] []) (gT : mg "_law_take" = some (.ref fT))
    (GT : FnOk P w K mg base CX0 k fT fdT ["_law_box_here", "_law_size"] spTake) (mn : mg "min" = none) : FnOk P w K mg base CX0 (k + 1) f fd ["_law_box_here", "_law_many"] spCount := by
  refine F.ok scCount (fun vs H Q E h => ?_) (fun cdv A outer s H vs Q E hr h => ?_)
  · obtain ⟨b, g, m, n, many, rfl, _⟩ := h
    rfl
  · obtain ⟨b, g, m, n, many, rfl, B, hn, m1, m2, q⟩ := h
    refine ⟨_, pss_one (ps_ret (pe_ix ix_list (pe_lst (pa_cons pe_int (pa_cons (pv 1) (pa_cons
        (pe_callB (call_min2 rfl) (by rfl) mn (by decide +kernel) (pa_cons (pv 1) (pa_cons (pe_op op_add (pe_op op_fdiv (pe_op op_mul pe_int (pv 1)) pe_int) pe_int) pa_nil)))
        (pa_cons (pe_op op_add pe_int (pe_call GT hr (by rfl) gT FT.kp bT .nil pass0 (pa_cons (pv 0) (pa_cons (pv 1) pa_nil)))) pa_nil)))))
      (pe_call GT hr (by rfl) gT FT.kp bT .nil pass0 (pa_cons (pv 0) (pa_cons pe_int pa_nil))) (fun _ _ => rfl))), ?_⟩
    refine ⟨_, rfl, _, rfl, _, rfl, _, _, rfl, rfl, .inl ⟨by decide, by decide⟩, _, _, rfl, rfl, ⟨by decide, by decide⟩, _, _, rfl, rfl, _, _, rfl, .ref b, rfl, .int many, rfl, b, g, m, n, many, rfl, B, by omega, m1, m2, fun v H1 v0 vs B1 K1 => ?_⟩
    refine ⟨_, _, rfl, rfl, by show 4 ≤ sizeLine; decide, fun l nl => ?_⟩
    obtain ⟨lb, lg, lm⟩ := B1.ne nl
    refine ⟨.ref b, rfl, b, g, m, _, 4, rfl, B1.same (same_new nl), by omega, by decide, by decide, fun v2 H2 a0 a1 B2 K2 => ?_⟩
    have hl := K2 _ _ upd_same lb lg
    have KK : Keep b g H H2 := (K1.trans (Same.keep (same_new nl))).trans K2
    have c : v2 = 0 ∨ v2 = 1 ∨ v2 = 2 ∨ v2 = 3 := by omega
    rcases c with rfl | rfl | rfl | rfl
    · exact ⟨l, _, 0, _, rfl, rfl, SqL.of hl, atI_nat (j := 0) rfl, q 1 H2 (by decide) m1 B2 KK⟩
    · exact ⟨l, _, 1, _, rfl, rfl, SqL.of hl, atI_nat (j := 1) rfl, q many H2 m1 (Int.le_refl _) B2 KK⟩
    · refine ⟨l, _, 2, _, rfl, rfl, SqL.of hl, atI_nat (j := 2) rfl, q _ H2 ?_ ?_ B2 KK⟩
      · split <;> omega
      · split <;> omega
    · exact ⟨l, _, 3, _, rfl, rfl, SqL.of hl, atI_nat (j := 3) rfl, q _ H2 (by omega) (by omega) B2 KK⟩
end
end Moot
namespace Moot
open PySem PySem.Spec PyProof.Rows L2
theorem Keep.tups {H H' : Hp} {b g m : Addr} {n : Nat} (k : Keep b g H H') (B : Box H b g m n) : Tups H H' := by
  obtain ⟨x, c, gs, ms, hb, hg, _⟩ := B.ex
  have ne : ∀ a o, H a = some o → (∀ xs, o ≠ .lst xs) → a ≠ b ∧ a ≠ g := fun a o h no => ⟨fun e => by rw [e, hb] at h; cases h; exact no _ rfl, fun e => by rw [e, hg] at h; cases h; exact no _ rfl⟩
  exact ⟨fun a xs h => k a _ h (ne a _ h fun _ z => by cases z).1 (ne a _ h fun _ z => by cases z).2, fun a o u h => k a _ h (ne a _ h fun _ z => by cases z).1 (ne a _ h fun _ z => by cases z).2⟩
/-- the names as they are written -/
def namesOf : List Part → List Str
  | [] => []
  | .inl x :: r => x :: namesOf r
  | .inr (_, ns) :: r => ns ++ namesOf r
theorem namesOf_append : ∀ a b : List Part, namesOf (a ++ b) = namesOf a ++ namesOf b
  | [], _ => rfl
  | .inl x :: a, b => by
    show x :: namesOf (a ++ b) = x :: (namesOf a ++ namesOf b)
    rw [namesOf_append a b]
  | .inr (c, ns) :: a, b => by
    show ns ++ namesOf (a ++ b) = (ns ++ namesOf a) ++ namesOf b
    rw [namesOf_append a b, List.append_assoc]
theorem namesOf_names : ∀ ns : List Str, namesOf (ns.map Sum.inl) = ns
  | [] => rfl
  | x :: ns => by
    show x :: namesOf (ns.map Sum.inl) = x :: ns
    rw [namesOf_names ns]
theorem namesOf_take {ps : List Part} {i : Nat} {p : Part} (h : ps[i]? = some p) : namesOf (ps.take (i + 1)) = namesOf (ps.take i) ++ namesOf [p] := by
  rw [List.take_add_one, h, namesOf_append]
  rfl
theorem namesOf_le (ps : List Part) (i : Nat) : (namesOf (ps.take i)).length ≤ (namesOf ps).length := by
  have e := namesOf_append (ps.take i) (ps.drop i)
  rw [List.take_append_drop] at e
  rw [e, List.length_append]
  omega
/-- which sets satisfy -/
def satP (S : List Str) : Part → Bool
  | .inl x => decide (x ∈ S)
  | .inr (c, ns) => decide (c ≤ ((ns.countP fun x => decide (x ∈ S) : Nat) : Int))
def sat (S : List Str) (c : Int) (ps : List Part) : Bool := decide (c ≤ ((ps.countP (satP S) : Nat) : Int))
theorem sat_names (S : List Str) (c : Int) (ns : List Str) : sat S c (ns.map Sum.inl) = satP S (.inr (c, ns)) := by
  unfold sat
  rw [List.countP_map]
  rfl
/-- only the members count -/
theorem satP_same {S S' : List Str} {p : Part} (h : ∀ x ∈ namesOf [p], x ∈ S ↔ x ∈ S') : satP S p = satP S' p := by
  cases p with
  | inl x =>
    have := h x (List.mem_cons_self)
    show decide _ = decide _
    rw [decide_eq_decide]
    exact this
  | inr y =>
    obtain ⟨c, ns⟩ := y
    have e : ns.countP (fun x => decide (x ∈ S)) = ns.countP (fun x => decide (x ∈ S')) := by
      refine List.countP_congr fun x m => ?_
      rw [decide_eq_true_eq, decide_eq_true_eq]
      exact h x (by show x ∈ ns ++ []; rw [List.append_nil]; exact m)
    show decide _ = decide _
    rw [e]
theorem sat_same {S S' : List Str} {c : Int} {ps : List Part} (h : ∀ x ∈ namesOf ps, x ∈ S ↔ x ∈ S') : sat S c ps = sat S' c ps := by
  have e : ps.countP (satP S) = ps.countP (satP S') := by
    refine List.countP_congr fun p m => ?_
    have : satP S p = satP S' p := satP_same fun x mx => h x (by
      obtain ⟨a, b, rfl⟩ := List.append_of_mem m
      rw [namesOf_append, show p :: b = [p] ++ b from rfl, namesOf_append]
      exact List.mem_append_right _ (List.mem_append_left _ mx))
    rw [this]
  unfold sat
  rw [e]
/-- isinstance(part, str) -/
theorem isi_part {K : PySem.W.Frag} {H : Hp} {v : V} {p : Part} (h : PartAt H v p) : ∃ t : Value, TyX K H v t ∧ PySem.W.kitOne K t (.type "str") = some p.isLeft := by
  cases p with
  | inl x =>
    cases h
    exact ⟨.type "str", .base (.str x), kit_ty (r := true) (by decide +kernel)⟩
  | inr y =>
    obtain ⟨c, ns⟩ := y
    obtain ⟨a, p, rfl, h1, h2⟩ := h
    exact ⟨.type "tuple", .base (.tup h1), kit_ty (r := false) (by decide +kernel)⟩
section
variable {P : Program} {w : World} {K : PySem.W.Frag} {mg : Str → Option Value} {base : Heap}
/-! node_set -/
abbrev sNs : Stmt := top 8
theorem scNs : FnScope ["names"] ["names"] (defScope sNs) := ⟨rfl, rfl, rfl, by decide +kernel, rfl, by decide +kernel, by decide +kernel⟩
def spNs (K : PySem.W.Frag) : Sp := fun vs H Q _ => ∃ (l : Addr) (zs : List Str), vs = [.ref l] ∧ SqL K H l (zs.map V.str) ∧ zs.length < 64 ∧
  ∀ (p : Addr) (ys : List Str) (H' : Hp), Same H H' → H p = none → H' p = some (.tup (ys.map V.str)) → sortedS ys = true → ys.Nodup → (∀ x, x ∈ ys ↔ x ∈ zs) → Q (.ref p) H'
theorem ok_ns {f : Addr} {fd : FuncData} {k : Nat} (F : Fun K "node_set" "node_set" sNs f fd) (mt : mg "tuple" = none) (mso : mg "sorted" = none) (mse : mg "set" = none) : FnOk P w K mg base CX0 (k + 1) f fd ["names"] (spNs K) := by
  refine F.ok scNs (fun vs H Q E h => ?_) (fun cdv A outer s H vs Q E hr h => ?_)
  · obtain ⟨l, zs, rfl, _⟩ := h
    rfl
  · obtain ⟨l, zs, rfl, hl, few, q⟩ := h
    refine ⟨_, pss_one (ps_ret (pe_callTy call_tuple_of (by rfl) mt (by decide +kernel) (pa_cons (pe_callB (cr_txtSorted rfl) (by rfl) mso (by decide +kernel)
      (pa_cons (pe_callTy (cr_txtSet rfl) (by rfl) mse (by decide +kernel) (pa_cons (pv 0) pa_nil)) pa_nil)) pa_nil))), ?_⟩
    refine ⟨.ref l, rfl, l, zs, rfl, hl, few, fun a m na hm => ?_⟩
    refine ⟨a, _, m, rfl, upd_same, by omega, fun ys p srt nd mem len np => ?_⟩
    refine ⟨p, _, rfl, .inl ⟨SqL.of upd_same, fun t nt => ?_⟩⟩
    have s1 := same_new (o := TxtSet P w a (fun k => decide (k ∈ zs)) m) na
    have s2 := same_new (o := .lst (ys.map V.str)) np
    have s3 := same_new (o := .tup (ys.map V.str)) nt
    exact q t ys _ ((s1.trans s2).trans s3) ((s1.trans s2).free nt) upd_same srt nd fun x => (mem x).trans (by simp)
end
end Moot
namespace Moot
open PySem PySem.Spec PyProof.Rows L2
/-- a set of names, as a list or a tuple -/
def NodesAt (K : PySem.W.Frag) (H : Hp) (p : Addr) (S : List Str) : Prop := SqL K H p (S.map V.str) ∨ SqT K H p (S.map V.str)
theorem Same.seqT {K : PySem.W.Frag} {H H' : Hp} {a : Addr} {xs : List V} (e : Same H H') (h : SqT K H a xs) : SqT K H' a xs := by
  rcases h with (h | ⟨o, h⟩) | h
  · exact .inl (.inl (e _ _ h))
  · exact .inl (.inr ⟨o, e _ _ h⟩)
  · exact .inr h
theorem NodesAt.same {K : PySem.W.Frag} {H H' : Hp} {p : Addr} {S : List Str} (h : NodesAt K H p S) (s : Same H H') : NodesAt K H' p S := h.imp (Same.seq s) (Same.seqT s)
/-- what the built-in names are -/
structure Blt (mg : Str → Option Value) : Prop where
  isi : mg "isinstance" = none
  str : mg "str" = none
  len : mg "len" = none
  tup : mg "tuple" = none
  lst : mg "list" = none
  srt : mg "sorted" = none
  set : mg "set" = none
  rng : mg "range" = none
  int : mg "int" = none
  bool : mg "bool" = none
  sum : mg "sum" = none
  min : mg "min" = none
  max : mg "max" = none
section
variable {P : Program} {w : World} {K : PySem.W.Frag} {mg : Str → Option Value} {base : Heap}
theorem fn_none {CX : CXT} {f : Addr} {fd : FuncData} {ps : List Str} {sp : Sp} (k : Nat) (h : ∀ vs H Q E, ¬ sp vs H Q E) : FnOk P w K mg base CX k f fd ps sp :=
  ⟨fun vs H Q E y => absurd y (h vs H Q E), fun _ _ _ H _ _ vs Q E _ _ _ _ y => absurd y (h vs H Q E)⟩
/-! names_with_repetition -/
abbrev sNwr : Stmt := top 20
abbrev nNwr : List Str := ["requirement", "names", "part"]
theorem scNwr : FnScope nNwr ["requirement"] (defScope sNwr) := ⟨rfl, rfl, rfl, by decide +kernel, rfl, by decide +kernel, by decide +kernel⟩
def spNwr (D : List Part → Prop) : Sp := fun vs H Q _ => ∃ (r : Addr) (c : Int) (ps : List Part), vs = [.ref r] ∧ ReqAt H r c ps ∧ D ps ∧ (namesOf ps).length ≤ 1000 ∧
  ∀ (p : Addr) (H' : Hp), Same H H' → H p = none → H' p = some (.lst ((namesOf ps).map V.str)) → Q (.ref p) H'
theorem ok_nwr {D0 D : List Part → Prop} {f : Addr} {fd : FuncData} {k : Nat} (F : Fun K "names_with_repetition" "names_with_repetition" sNwr f fd) (bN : Binds K fd ["requirement"] []) (gN : mg "names_with_repetition" = some (.ref f)) (T : Blt mg)
    (G : FnOk P w K mg base CX0 k f fd ["requirement"] (spNwr D0)) (imp : ∀ ps, D ps → ∀ c ns, Sum.inr (c, ns) ∈ ps → D0 (ns.map Sum.inl)) : FnOk P w K mg base CX0 (k + 1) f fd ["requirement"] (spNwr D) := by
  refine F.ok scNwr (fun vs H Q E h => ?_) (fun cdv A outer s H vs Q E hr h => ?_)
  · obtain ⟨r, c, ps, rfl, _⟩ := h
    rfl
  · obtain ⟨r, c, ps, rfl, R, hD, few, q⟩ := h
    refine ⟨_, pss_cons (ps_set (i := 1) scNwr.nd rfl (Or.inl rfl) (pe_lst pa_nil))
      (pss_cons (ps_for PassesOwn.never rfl (pi_tup (pe_ix ix_tup (pv 0) pe_int (fun _ _ => rfl))) (pg_name (i := 2) scNwr.nd rfl (Or.inl rfl))
        (pss_one (ps_if (pt_val (pe_callB call_isi (by rfl) T.isi (by decide +kernel) (pa_cons (pv 2) (pa_cons (pe_bltn (v := .ty "str") (by rfl) T.str (by decide +kernel) rfl) pa_nil))))
          (pss_one (ps_expr (pe_bm PySem.F.plainAttrs_list PySem.F.slot_list_append PySem.F.type_list_append mt_append (pv 1) (pa_cons (pv 2) pa_nil))))
          (pss_one (ps_expr (pe_bm PySem.F.plainAttrs_list PySem.F.slot_list_extend PySem.F.type_list_extend mt_extend (pv 1) (pa_cons (pe_call G hr (by rfl) gN F.kp bN .nil pass0 (pa_cons (pv 2) pa_nil)) pa_nil)))))))
      (pss_one (ps_ret (pv 1)))), ?_⟩
    obtain ⟨pp, vs, hr1, hp1, PS⟩ := R
    refine ⟨Nat.zero_le _, fun l nl => ?_⟩
    have s1 : Same H (upd H l (.lst [])) := same_new nl
    refine ⟨.ref r, rfl, r, _, 1, .ref pp, rfl, rfl, SqT.of (s1 _ _ hr1), atI_nat (j := 1) rfl, pp, rfl, ⟨_, (hp1.tups (Same.tups s1)).seq⟩, for_tup (K := K) (a := pp) (xs := vs) (fun i σ H1 => ∃ y2 : Option V, σ = [some (.ref r), some (.ref l), y2] ∧
      Same H H1 ∧ H1 l = some (.lst ((namesOf (ps.take i)).map V.str))) ⟨none, rfl, s1, upd_same⟩ (fun i σ H1 _ ⟨_, _, s2, _⟩ => (hp1.tups (Same.tups s2)).seq) ?_ ?_⟩
    · rintro i x σ H1 hx ⟨y2, rfl, s2, h1⟩
      obtain ⟨p, hp, pa⟩ := PS.at hx
      have pa1 := pa.tups (Same.tups s2).tup
      have e := namesOf_take hp
      have le := namesOf_le ps (i + 1)
      have le0 := namesOf_le ps i
      obtain ⟨ty, ty1, ty2⟩ := isi_part (K := K) pa1
      refine ⟨x, rfl, _, _, ty, .type "str", _, rfl, .ty _, ty1, ty2, _, rfl, ?_⟩
      cases p with
      | inl z =>
        cases pa
        refine iteT ⟨.ref l, rfl, .inl ⟨rfl, _, SqL.of h1⟩, .str z, rfl, l, _, _, rfl, rfl, h1, ?_, _, rfl, fun d o c => ?_, ?_⟩
        · rw [List.length_map]
          exact small1000 (by omega)
        · rw [upd_ne (ne_of_none c nl)]
          exact s2 d o c
        · rw [upd_same, e, List.map_append]
          rfl
      | inr y =>
        obtain ⟨c', ns⟩ := y
        obtain ⟨q', rfl, R'⟩ := pa1.req
        have mem : Sum.inr (c', ns) ∈ ps := List.mem_of_getElem? hp
        have en : namesOf (ns.map Sum.inl) = ns := namesOf_names ns
        have e1 : namesOf [(Sum.inr (c', ns) : Part)] = ns := List.append_nil ns
        rw [e1] at e
        have lens := congrArg List.length e
        rw [List.length_append] at lens
        refine iteF ⟨.ref l, rfl, .inl ⟨rfl, _, SqL.of h1⟩, .ref q', rfl, q', c', ns.map Sum.inl, rfl, R', imp ps hD c' ns mem, by rw [en]; omega, fun p2 H2 s3 np2 h2 => ?_⟩
        rw [en] at h2
        refine ⟨l, p2, _, _, rfl, rfl, s3 _ _ h1, h2, ?_, _, rfl, fun d o c => ?_, ?_⟩
        · rw [List.length_map, List.length_map]
          exact Nat.le_of_lt (small1000 (by omega))
        · rw [upd_ne (ne_of_none c nl)]
          exact s3 _ _ (s2 d o c)
        · rw [upd_same, e, List.map_append]
    · rintro σ H1 ⟨y2, rfl, s2, h1⟩
      rw [PS.length, List.take_length] at h1
      exact ⟨.ref l, rfl, q l H1 s2 nl h1⟩
/-! names_in -/
abbrev sNin : Stmt := top 21
theorem scNin : FnScope ["requirement"] ["requirement"] (defScope sNin) := ⟨rfl, rfl, rfl, by decide +kernel, rfl, by decide +kernel, by decide +kernel⟩
def spNin : Sp := fun vs H Q _ => ∃ (r : Addr) (c : Int) (ps : List Part), vs = [.ref r] ∧ ReqAt H r c ps ∧ (namesOf ps).length < 64 ∧
  ∀ (p : Addr) (ys : List Str) (H' : Hp), Same H H' → H p = none → H' p = some (.tup (ys.map V.str)) → sortedS ys = true → ys.Nodup → (∀ x, x ∈ ys ↔ x ∈ namesOf ps) → Q (.ref p) H'
theorem ok_nin {f fN fW : Addr} {fd fdN fdW : FuncData} {k : Nat} (F : Fun K "names_in" "names_in" sNin f fd) (FN : Fun K "node_set" "node_set" sNs fN fdN) (bN : Binds K fdN ["names"] []) (gN : mg "node_set" = some (.ref fN))
    (FW : Fun K "names_with_repetition" "names_with_repetition" sNwr fW fdW) (bW : Binds K fdW ["requirement"] []) (gW : mg "names_with_repetition" = some (.ref fW)) (GN : FnOk P w K mg base CX0 k fN fdN ["names"] (spNs K)) (GW : FnOk P w K mg base CX0 k fW fdW ["requirement"] (spNwr fun _ => True)) :
    FnOk P w K mg base CX0 (k + 1) f fd ["requirement"] spNin := by
  refine F.ok scNin (fun vs H Q E h => ?_) (fun cdv A outer s H vs Q E hr h => ?_)
  · obtain ⟨r, c, ps, rfl, _⟩ := h
    rfl
  · obtain ⟨r, c, ps, rfl, R, few, q⟩ := h
    refine ⟨_, pss_one (ps_ret (pe_call GN hr (by rfl) gN FN.kp bN .nil pass0 (pa_cons (pe_call GW hr (by rfl) gW FW.kp bW .nil pass0 (pa_cons (pv 0) pa_nil)) pa_nil))), ?_⟩
    refine ⟨.ref r, rfl, r, c, ps, rfl, R, trivial, by omega, fun l H1 s1 nl h1 => ?_⟩
    exact ⟨l, _, rfl, SqL.of h1, few, fun p ys H2 s2 np h2 a1 a2 a3 => q p ys H2 (s1.trans s2) (s1.free np) h2 a1 a2 a3⟩
end
end Moot
namespace Moot
open PySem PySem.Spec PyProof.Rows L2
/-- the names that are left -/
def outs (S : List Str) (ps : List Part) : List Str := (namesOf ps).filter fun x => decide (x ∉ S)
def blk (S : List Str) (c : Int) (ps : List Part) : Bool := !sat (outs S ps) c ps
theorem sat_outs {S zs : List Str} {c : Int} {ps : List Part} (h : ∀ x, x ∈ zs ↔ x ∈ namesOf ps) : sat (zs.filter fun x => decide (x ∉ S)) c ps = sat (outs S ps) c ps := by
  refine sat_same fun x _ => ?_
  unfold outs
  rw [List.mem_filter, List.mem_filter, h x]
/-- every inner one is short -/
def Short (ps : List Part) : Prop := ∀ c ns, Sum.inr (c, ns) ∈ ps → ns.length ≤ 1000
def ShortP (p : Part) : Prop := ∀ c ns, p = .inr (c, ns) → ns.length ≤ 1000
theorem Short.p {ps : List Part} (h : Short ps) : ∀ p ∈ ps, ShortP p := fun p m c ns e => h c ns (e ▸ m)
def AllNames (ps : List Part) : Prop := ∀ p ∈ ps, p.isLeft = true
theorem allNames (ns : List Str) : AllNames (ns.map Sum.inl) := fun p m => by
  obtain ⟨x, _, rfl⟩ := List.mem_map.mp m
  rfl
theorem nodup_le : ∀ {l D : List Str}, l.Nodup → (∀ y ∈ l, y ∈ D) → l.length ≤ D.length
  | [], _, _, _ => Nat.zero_le _
  | y :: l, D, n, s => by
    obtain ⟨n1, n2⟩ := List.nodup_cons.mp n
    have my := s y List.mem_cons_self
    have := nodup_le (D := D.erase y) n2 fun z mz => (List.mem_erase_of_ne fun (e : z = y) => n1 (e ▸ mz)).mpr (s z (List.mem_cons_of_mem _ mz))
    have e := List.length_erase_of_mem my
    have := List.length_pos_of_mem my
    rw [List.length_cons]
    omega
section
variable {P : Program} {w : World} {K : PySem.W.Frag} {mg : Str → Option Value} {base : Heap}
/-- satisfies, for all requirements -/
theorem ok_nwr_all {f : Addr} {fd : FuncData} (F : Fun K "names_with_repetition" "names_with_repetition" sNwr f fd) (b : Binds K fd ["requirement"] []) (g : mg "names_with_repetition" = some (.ref f)) (T : Blt mg) : FnOk P w K mg base CX0 2 f fd ["requirement"] (spNwr fun _ => True) := by
  have g0 : FnOk P w K mg base CX0 0 f fd ["requirement"] (spNwr fun _ => False) := fn_none 0 fun vs H Q E ⟨r, c, ps, _, _, h, _⟩ => h
  have g1 : FnOk P w K mg base CX0 1 f fd ["requirement"] (spNwr AllNames) := ok_nwr F b g T g0 fun ps h c ns m => by
    have := h _ m
    cases this
  exact ok_nwr F b g T g1 fun ps _ c ns m => allNames ns
end
end Moot
namespace Moot
open PySem PySem.Spec PyProof.Rows L2
section
variable {P : Program} {w : World} {K : PySem.W.Frag} {mg : Str → Option Value} {base : Heap}
/-! _law_says -/
abbrev sSays : Stmt := top 35
abbrev nSays : List Str := ["_law_found", "_law_due"]
theorem scSays : FnScope nSays nSays (defScope sSays) := ⟨rfl, rfl, rfl, by decide +kernel, rfl, by decide +kernel, by decide +kernel⟩
def spSays : Sp := fun vs H Q _ => ∃ b : Bool, vs = [.bl b, .bl b] ∧ Q (.bl true) H
theorem ok_says {f : Addr} {fd : FuncData} {k : Nat} (F : Fun K "_law_says" "_law_says" sSays f fd) (T : Blt mg) : FnOk P w K mg base CX0 (k + 1) f fd nSays spSays := by
  refine F.ok scSays (fun vs H Q E h => ?_) (fun cdv A outer s H vs Q E hr h => ?_)
  · obtain ⟨b, rfl, _⟩ := h
    rfl
  · obtain ⟨b, rfl, q⟩ := h
    refine ⟨_, pss_one (ps_ret (pe_and (pe_callB call_isi (by rfl) T.isi (by decide +kernel) (pa_cons (pv 0) (pa_cons (pe_bltn (v := .ty "bool") (by rfl) T.bool (by decide +kernel) rfl) pa_nil))) (pe_one (pe_cmpR op_eq (pv 0) (pv 1) (nomark _))))), ?_⟩
    refine ⟨.bl b, rfl, _, _, .type "bool", .type "bool", true, rfl, .ty _, .base (.bl b), kit_ty (r := true) (by decide +kernel), true, rfl, ?_⟩
    refine iteT ⟨.bl b, rfl, .bl b, rfl, rfl, ?_⟩
    rw [decide_eq_true rfl]
    exact q
/-! _law_listed -/
abbrev sLis : Stmt := top 38
abbrev nLis : List Str := ["_law_parts", "_law_part"]
theorem scLis : FnScope nLis ["_law_parts"] (defScope sLis) := ⟨rfl, rfl, rfl, by decide +kernel, rfl, by decide +kernel, by decide +kernel⟩
def spLis : Sp := fun vs H Q _ => ∃ (l : Addr) (us : List V) (ps : List Part), vs = [.ref l] ∧ H l = some (.lst us) ∧ Parts H us ps ∧ ps.length ≤ 900 ∧ ∀ H' : Hp, Same H H' → Q (.int ((namesOf ps).length : Nat)) H'
theorem sum_push : ∀ (ns : List Int) (z : Int), (ns ++ [z]).sum = ns.sum + z
  | [], z => by simp
  | n :: ns, z => by
    rw [List.cons_append, List.sum_cons, List.sum_cons, sum_push ns z]
    omega
theorem ok_lis {f : Addr} {fd : FuncData} {k : Nat} (F : Fun K "_law_listed" "_law_listed" sLis f fd) (T : Blt mg) : FnOk P w K mg base CX0 (k + 1) f fd ["_law_parts"] spLis := by
  refine F.ok scLis (fun vs H Q E h => ?_) (fun cdv A outer s H vs Q E hr h => ?_)
  · obtain ⟨l, us, ps, rfl, _⟩ := h
    rfl
  · obtain ⟨l, us, ps, rfl, hl, PS, few, q⟩ := h
    refine ⟨_, pss_one (ps_ret (pe_callB (cr_sum rfl) (by rfl) T.sum (by decide +kernel) (pa_cons
      (pe_lc (own := [("_law_part", 1)]) (g := gName 1) (tt := tYes) (by rfl) scLis.nd (pi_list (pv 0)) (blkOk_by (N := nLis) (sc := defScope sLis) (by decide +kernel))
        (fun _ _ _ _ _ => pg_name (i := 1) scLis.nd rfl (Or.inl rfl)) (fun _ _ _ _ _ => pts_nil)
        (fun _ _ _ _ _ => pe_ifExp (pt_val (pe_callB (show CallR _ (.builtin "isinstance") (rIsi K) from call_isi) (by rfl) T.isi (by decide +kernel) (pa_cons (pv 1) (pa_cons (pe_bltn (v := .ty "str") (by rfl) T.str (by decide +kernel) rfl) pa_nil)))) pe_int
          (pe_callB (show CallR _ (.builtin "len") (rLen K) from call_len_seq) (by rfl) T.len PySem.boot_len (pa_cons (pe_ix (show IxR _ (rIxT K) from ix_tup) (pv 1) pe_int (fun _ _ => rfl)) pa_nil)))) pa_nil))), ?_⟩
    refine ⟨.ref l, rfl, l, rfl, ⟨_, SqL.of hl⟩, fun D nD => lc_list (K := K) (a := l) (xs := us) (fun i H1 => Same H H1 ∧ ∃ ns : List Int, H1 D = some (.lst (ns.map V.int)) ∧ ns.length = i ∧ ns.sum = ((namesOf (ps.take i)).length : Nat)) ?_ (fun i H1 _ h => SqL.of (h.1 _ _ hl)) ?_ ?_⟩
    · exact ⟨same_new nD, [], upd_same, rfl, rfl⟩
    · rintro i x H1 hx ⟨s1, ns, hD, ln, sm⟩
      have lt := (List.getElem?_eq_some_iff.mp hx).1
      rw [PS.length] at lt
      obtain ⟨p, hp, pa⟩ := PS.at hx
      have pa1 := pa.tups (Same.tups s1).tup
      obtain ⟨ty, ty1, ty2⟩ := isi_part (K := K) pa1
      have room : (ns.map V.int).length < sizeLine := by
        rw [List.length_map]
        exact small1000 (by omega)
      have nt := congrArg List.length (namesOf_take hp)
      rw [List.length_append] at nt
      have fin : ∀ z : Int, z = ((namesOf [p]).length : Nat) → Same H (upd H1 D (.lst (ns.map V.int ++ [.int z]))) ∧ ∃ ns : List Int, upd H1 D (.lst (_ ++ [.int z])) D = some (.lst (ns.map V.int)) ∧ ns.length = i + 1 ∧ ns.sum = ((namesOf (ps.take (i + 1))).length : Nat) := fun z hz => by
        refine ⟨fun d o e => ?_, ns ++ [z], ?_, ?_, by rw [sum_push, sm, hz, nt]; omega⟩
        · rw [upd_ne (ne_of_none e nD)]
          exact s1 d o e
        · rw [upd_same, List.map_append]
          rfl
        · rw [List.length_append, ln]
          rfl
      refine ⟨rfl, x, rfl, _, _, ty, .type "str", _, rfl, .ty _, ty1, ty2, _, rfl, ?_⟩
      cases p with
      | inl z => exact iteT ⟨_, hD, room, fin 1 rfl⟩
      | inr y =>
        obtain ⟨c', ms⟩ := y
        obtain ⟨a, p', rfl, g1, g2⟩ := pa1
        exact iteF ⟨.ref a, rfl, a, _, 1, .ref p', rfl, rfl, SqT.of g1, atI_nat (j := 1) rfl, p', _, rfl, .inr (SqT.of g2), _, hD, room, fin _ (by rw [List.length_map, show namesOf [(Sum.inr (c', ms) : Part)] = ms from List.append_nil ms])⟩
    · rintro H1 ⟨s1, ns, hD, ln, sm⟩
      rw [PS.length, List.take_length] at sm
      refine ⟨D, ns, rfl, SqL.of hD, ?_⟩
      rw [sm]
      exact q H1 s1
end
end Moot
namespace Moot
open PySem PySem.Spec PyProof.Rows L2
/-! parts as data -/
def partD : Part → PyData
  | .inl x => .str x
  | .inr (c, ns) => .tuple [.int c, .tuple (ns.map PyData.str)]
theorem dp_strs {K : PySem.W.Frag} {H : Hp} : ∀ ns : List Str, DpAll K H (ns.map V.str) (ns.map PyData.str)
  | [] => .nil
  | x :: ns => .cons (.str x) (dp_strs ns)
theorem PartAt.dp {K : PySem.W.Frag} {H : Hp} {v : V} {p : Part} (h : PartAt H v p) : Dp K H v (partD p) := by
  cases p with
  | inl x =>
    cases h
    exact .str x
  | inr y =>
    obtain ⟨c, ns⟩ := y
    obtain ⟨q, p, rfl, h1, h2⟩ := h
    exact .tup (SqT.of h1) (.cons (.int c) (.cons (.tup (SqT.of h2) (dp_strs ns)) .nil))
theorem Parts.dp {K : PySem.W.Frag} {H : Hp} {vs : List V} {ps : List Part} (h : Parts H vs ps) : DpAll K H vs (ps.map partD) := by
  induction h with
  | nil => exact .nil
  | cons a _ ih => exact .cons a.dp ih
/-- a drawn part of a requirement over the names xs -/
def Good (xs : List Str) : Part → Prop
  | .inl x => x ∈ xs
  | .inr (c, ns) => 1 ≤ ns.length ∧ ns.length ≤ 8 ∧ 1 ≤ c ∧ c ≤ ns.length ∧ (xs.Nodup → ns.Nodup) ∧ ∀ y ∈ ns, y ∈ xs
theorem lay_strs : ∀ {ns : List Str}, (∀ y ∈ ns, PyData.strOk y = true) → PyData.canLayAll0 (ns.map PyData.str) = true
  | [], _ => rfl
  | x :: ns, h => by
    show (PyData.strOk x && PyData.canLayAll0 (ns.map PyData.str)) = true
    rw [h x List.mem_cons_self, lay_strs fun y m => h y (List.mem_cons_of_mem _ m)]
    rfl
theorem depth_strs : ∀ ns : List Str, PyData.depthAll (ns.map PyData.str) = 0
  | [] => rfl
  | x :: ns => by
    show max 0 (PyData.depthAll (ns.map PyData.str)) = 0
    rw [depth_strs ns]
    rfl
theorem Good.lay {xs : List Str} (ok : ∀ x ∈ xs, PyData.strOk x = true) {p : Part} (h : Good xs p) : PyData.canLay0 (partD p) = true ∧ PyData.depth (partD p) ≤ 2 := by
  cases p with
  | inl x => exact ⟨ok x h, Nat.zero_le _⟩
  | inr y =>
    obtain ⟨c, ns⟩ := y
    have l := lay_strs fun y m => ok y (h.2.2.2.2.2 y m)
    refine ⟨?_, ?_⟩
    · show (true && (PyData.canLayAll0 (ns.map PyData.str) && true)) = true
      rw [l]
      rfl
    · show max 0 (max (PyData.depthAll (ns.map PyData.str) + 1) 0) + 1 ≤ 2
      rw [depth_strs]
      decide
theorem goods_lay {xs : List Str} (ok : ∀ x ∈ xs, PyData.strOk x = true) : ∀ {ps : List Part}, (∀ p ∈ ps, Good xs p) → PyData.canLayAll0 (ps.map partD) = true ∧ PyData.depthAll (ps.map partD) ≤ 2
  | [], _ => ⟨rfl, Nat.zero_le _⟩
  | p :: ps, h => by
    obtain ⟨a1, a2⟩ := Good.lay ok (h p List.mem_cons_self)
    obtain ⟨b1, b2⟩ := goods_lay ok fun q m => h q (List.mem_cons_of_mem _ m)
    refine ⟨?_, ?_⟩
    · show (PyData.canLay0 (partD p) && PyData.canLayAll0 (ps.map partD)) = true
      rw [a1, b1]
      rfl
    · show max (PyData.depth (partD p)) (PyData.depthAll (ps.map partD)) ≤ 2
      omega
theorem shaped_part {xs : List Str} (ok : ∀ x ∈ xs, PyData.strOk x = true) {p : Part} (h : Good xs p) : SeqAt.shaped (partD p) = true := by
  obtain ⟨a1, a2⟩ := Good.lay ok h
  unfold SeqAt.shaped
  rw [a1, decide_eq_true (by omega : PyData.depth (partD p) ≤ 64)]
  rfl
theorem shaped_parts {xs : List Str} (ok : ∀ x ∈ xs, PyData.strOk x = true) {ps : List Part} (h : ∀ p ∈ ps, Good xs p) : SeqAt.shaped (.list (ps.map partD)) = true := by
  obtain ⟨a1, a2⟩ := goods_lay ok h
  unfold SeqAt.shaped
  have d : PyData.depth (.list (ps.map partD)) ≤ 64 := by
    show PyData.depthAll (ps.map partD) + 1 ≤ 64
    omega
  rw [decide_eq_true d]
  show (PyData.canLayAll0 (ps.map partD) && true) = true
  rw [a1]
  rfl
/-- a drawn list of parts -/
structure Fine (xs : List Str) (len names : Nat) (ps : List Part) : Prop where
  all : ∀ p ∈ ps, Good xs p
  len : ps.length ≤ len
  nam : (namesOf ps).length ≤ names
  nd : xs.Nodup → ps.Nodup
theorem namesOf_sub {qs ps : List Part} (h : qs.Sublist ps) : (namesOf qs).length ≤ (namesOf ps).length := by
  have one : ∀ (a : Part) (r : List Part), (namesOf (a :: r)).length = (namesOf [a]).length + (namesOf r).length := fun a r => by
    rw [show a :: r = [a] ++ r from rfl, namesOf_append, List.length_append]
  induction h with
  | slnil => exact Nat.le_refl _
  | cons a _ ih =>
    rw [one]
    omega
  | @cons_cons l1 l2 a _ ih =>
    have e1 := one a l1
    have e2 := one a l2
    omega
theorem inl_nodup {ys : List Str} (h : ys.Nodup) : (ys.map (Sum.inl : Str → Part)).Nodup := List.Pairwise.map _ (fun a b ne e => ne (Sum.inl.inj e)) h
theorem not_among {ps : List Part} {p : Part} (lay : PyData.canLay0 (partD p) = true) (h : (!((ps.map partD).any fun d => PyData.eqv d (partD p))) = true) : p ∉ ps := fun m => by
  have : ((ps.map partD).any fun d => PyData.eqv d (partD p)) = true := List.any_eq_true.mpr ⟨partD p, List.mem_map_of_mem m, SeqAt.eqv_refl _ lay⟩
  rw [this] at h
  cases h
theorem Parts.append {H : Hp} {us vs : List V} {ps qs : List Part} (h : Parts H us ps) (h2 : Parts H vs qs) : Parts H (us ++ vs) (ps ++ qs) := by
  induction h with
  | nil => exact h2
  | cons a _ ih => exact .cons a ih
theorem Parts.cut {H : Hp} {us : List V} {ps : List Part} (h : Parts H us ps) : ∀ j, Parts H (us.take j) (ps.take j) ∧ Parts H (us.drop j) (ps.drop j) := by
  induction h with
  | nil => intro j; exact ⟨by simpa using Parts.nil, by simpa using Parts.nil⟩
  | cons a b ih =>
    intro j
    cases j with
    | zero => exact ⟨.nil, .cons a b⟩
    | succ j => exact ⟨.cons a (ih j).1, (ih j).2⟩
theorem five {v : Int} (h0 : 0 ≤ v) (h1 : v < 5) : ∃ s : Int, atI [V.int 0, V.int 0, V.int 1, V.int 2, V.int 4] v = some (.int s) ∧ 0 ≤ s ∧ s ≤ 4 := by
  have c : v = 0 ∨ v = 1 ∨ v = 2 ∨ v = 3 ∨ v = 4 := by omega
  rcases c with rfl | rfl | rfl | rfl | rfl
  · exact ⟨0, rfl, by decide, by decide⟩
  · exact ⟨0, rfl, by decide, by decide⟩
  · exact ⟨1, rfl, by decide, by decide⟩
  · exact ⟨2, rfl, by decide, by decide⟩
  · exact ⟨4, rfl, by decide, by decide⟩
theorem cut_to (ys : List Str) {j : Int} (h : 0 ≤ j) : cutV (ys.map V.str) none (some j) = (ys.take j.toNat).map V.str := by
  obtain ⟨n, rfl⟩ := Int.eq_ofNat_of_zero_le h
  unfold cutV
  rw [HT.sIx_none, HT.sIx_nat]
  show ((ys.map V.str).drop 0).take (min n (ys.map V.str).length - 0) = _
  rw [List.drop_zero, Nat.sub_zero, List.map_take, List.length_map]
  show _ = (ys.map V.str).take n
  rw [List.take_eq_take_iff, List.length_map]
  omega
/-- the drawn names do not stand at the box -/
theorem Box.apart {H : Hp} {b g m p : Addr} {n : Nat} {xs : List Str} (B : Box H b g m n) (h : GLs H p (xs.map V.str)) : p ≠ b ∧ p ≠ g := by
  obtain ⟨o, _, h⟩ := h
  obtain ⟨x, c, gs, ms, hb, hg, _⟩ := B.ex
  exact ⟨fun e => (by rw [e, hb] at h; cases h), fun e => (by rw [e, hg] at h; cases h)⟩
section
variable {P : Program} {w : World} {K : PySem.W.Frag} {mg : Str → Option Value} {base : Heap}
/-! _law_requirement -/
abbrev sReq : Stmt := top 33
abbrev nReq : List Str := ["_law_box_here", "_law_names_here", "_law_parts", "_law_k", "_law_inner", "_law_part"]
theorem scReq : FnScope nReq ["_law_box_here", "_law_names_here"] (defScope sReq) := ⟨rfl, rfl, rfl, by decide +kernel, rfl, by decide +kernel, by decide +kernel⟩
/-- a requirement whose tuple of parts is known -/
def ReqG (H : Hp) (r : Addr) (c : Int) (ps : List Part) : Prop := ∃ p vs, H r = some (.tup [.int c, .ref p]) ∧ GTp H p vs ∧ Parts H vs ps
theorem ReqG.at {H : Hp} {r : Addr} {c : Int} {ps : List Part} (h : ReqG H r c ps) : ReqAt H r c ps := let ⟨p, vs, a, b, d⟩ := h; ⟨p, vs, a, .inl b, d⟩
theorem ReqG.tups {H H' : Hp} {r : Addr} {c : Int} {ps : List Part} (h : ReqG H r c ps) (t : Tups H H') : ReqG H' r c ps := by
  obtain ⟨p, vs, a, ⟨o, g, e⟩, d⟩ := h
  exact ⟨p, vs, t.tup _ _ a, ⟨o, g, t.frz _ _ _ e⟩, d.tups t.tup⟩
def spReq : Sp := fun vs H Q _ => ∃ (b g m vp : Addr) (n : Nat) (xs : List Str), vs = [.ref b, .ref vp] ∧ Box H b g m n ∧ n ≤ 800000 ∧ GLs H vp (xs.map V.str) ∧ 1 ≤ xs.length ∧ xs.length ≤ 8 ∧ (∀ x ∈ xs, Nm x) ∧
  ∀ (r : Addr) (c : Int) (ps : List Part) (H' : Hp), H r = none → ReqG H' r c ps → Fine xs 12 12 ps → 1 ≤ c → c ≤ ps.length → Box H' b g m (n + 100) → Keep b g H H' → Q (.ref r) H'
/-- the list of the parts: known, or without texts -/
def Lst (H : Hp) (l : Addr) (us : List V) : Prop := GLs H l us ∨ (H l = some (.lst us) ∧ ∀ x ∈ us, ∃ a, x = V.ref a)
theorem Lst.seq {K : PySem.W.Frag} {H : Hp} {l : Addr} {us : List V} (h : Lst H l us) : SqL K H l us := h.elim (fun h => h.seq) fun h => SqL.of h.1
theorem ok_req {f fT fS fC fL : Addr} {fd fdT fdS fdC fdL : FuncData} {k : Nat} (F : Fun K "_law_requirement" "_law_requirement" sReq f fd)
    (FT : Fun K "_law_take" "_law_take" sTake fT fdT) (bT : Binds K fdT ["_law_box_here", "_law_size"] []) (gT : mg "_law_take" = some (.ref fT)) (GT : FnOk P w K mg base CX0 k fT fdT ["_law_box_here", "_law_size"] spTake)
    (FS : Fun K "_law_some" "_law_some" sSome fS fdS) (bS : Binds K fdS ["_law_box_here", "_law_values"] []) (gS : mg "_law_some" = some (.ref fS)) (GS : FnOk P w K mg base CX0 k fS fdS ["_law_box_here", "_law_values"] spSome)
    (FC : Fun K "_law_count" "_law_count" sCount fC fdC) (bC : Binds K fdC ["_law_box_here", "_law_many"] []) (gC : mg "_law_count" = some (.ref fC)) (GC : FnOk P w K mg base CX0 k fC fdC ["_law_box_here", "_law_many"] spCount)
    (FL : Fun K "_law_listed" "_law_listed" sLis fL fdL) (bL : Binds K fdL ["_law_parts"] []) (gL : mg "_law_listed" = some (.ref fL)) (GL : FnOk P w K mg base CX0 k fL fdL ["_law_parts"] spLis) (hk : 1 ≤ k) (T : Blt mg) :
    FnOk P w K mg base CX0 (k + 1) f fd ["_law_box_here", "_law_names_here"] spReq := by
  refine F.ok scReq (fun vs H Q E h => ?_) (fun cdv A outer s H vs Q E hr h => ?_)
  · obtain ⟨b, g, m, vp, n, xs, rfl, _⟩ := h
    rfl
  · obtain ⟨b, g, m, vp, n, xs, rfl, B, hn, hv, x1, x8, nm, q⟩ := h
    have hu : (A.deeper (envOfC "_law_requirement" (defScope sReq) s.heap.objs.size f cdv)).units + 65 < cLine := by
      have := hr.un
      omega
    refine ⟨_, pss_cons (ps_set (i := 2) scReq.nd rfl (Or.inl rfl) (pe_call GS hr (by rfl) gS FS.kp bS .nil pass0 (pa_cons (pv 0) (pa_cons (pv 1) pa_nil))))
      (pss_cons (ps_for PassesOwn.never rfl (pi_range1 rfl T.rng (pa_cons (pe_ix ix_list (pe_lst (pa_cons pe_int (pa_cons pe_int (pa_cons pe_int (pa_cons pe_int (pa_cons pe_int pa_nil)))))) (pe_call GT hr (by rfl) gT FT.kp bT .nil pass0 (pa_cons (pv 0) (pa_cons pe_int pa_nil))) (fun _ _ => rfl)) pa_nil)) (pg_name (i := 3) scReq.nd rfl (Or.inl rfl))
        (pss_cons (ps_set (i := 4) scReq.nd rfl (Or.inl rfl) (pe_slice sl_list (pe_call GS hr (by rfl) gS FS.kp bS .nil pass0 (pa_cons (pv 0) (pa_cons (pv 1) pa_nil))) po_none (po_some (pe_op op_add pe_int (pe_call GT hr (by rfl) gT FT.kp bT .nil pass0 (pa_cons (pv 0) (pa_cons pe_int pa_nil)))))))
        (pss_cons (ps_set (i := 5) scReq.nd rfl (Or.inl rfl) (pe_tup (pa_cons (pe_call GC hr (by rfl) gC FC.kp bC .nil pass0 (pa_cons (pv 0) (pa_cons (pe_callB call_len_seq (by rfl) T.len PySem.boot_len (pa_cons (pv 4) pa_nil)) pa_nil)))
            (pa_cons (pe_callTy call_tuple_of (by rfl) T.tup (by decide +kernel) (pa_cons (pv 4) pa_nil)) pa_nil))))
        (pss_one (ps_if (PW.pt (pw_and (pt_cmpR (op_notInD hu) (pv 5) (pv 2) (by rfl)) (pw_and1 (pt_cmpR op_lt (pe_call GL hr (by rfl) gL FL.kp bL .nil pass0 (pa_cons (pe_op op_catS (pv 2) (pe_lst (pa_cons (pv 5) pa_nil))) pa_nil)) pe_int (nomark _)))))
          (pss_one (ps_expr (pe_bm PySem.F.plainAttrs_list PySem.F.slot_list_insert PySem.F.type_list_insert mt_insertG (pv 2) (pa_cons (pe_call GT hr (by rfl) gT FT.kp bT .nil pass0 (pa_cons (pv 0) (pa_cons (pe_op op_add (pe_callB call_len_seq (by rfl) T.len PySem.boot_len (pa_cons (pv 2) pa_nil)) pe_int) pa_nil))) (pa_cons (pv 5) pa_nil))))) pss_nil)))))
      (pss_cons (ps_setLc (i := 4) (own := [("_law_part", 5)]) (g := gName 5) (by rfl) scReq.nd rfl rfl (sw_true rfl rfl rfl (by decide +kernel)) (pi_list (pv 2)) (blkOk_by (N := nReq) (sc := defScope sReq) (by decide +kernel))
        (fun _ _ _ _ _ => pg_name (i := 5) scReq.nd rfl (Or.inl rfl)) (fun _ _ _ _ _ => pts_one (pt_not (pt_val (pe_callB (show CallR _ (.builtin "isinstance") (rIsi K) from call_isi) (by rfl) T.isi (by decide +kernel) (pa_cons (pv 5) (pa_cons (pe_bltn (v := .ty "str") (by rfl) T.str (by decide +kernel) rfl) pa_nil)))))) (fun _ _ _ _ _ => pv 5))
      (C8.pss_cut (ps_if (PW.pt (pw_and (pt_cmpR op_gt (pe_callB call_len_seq (by rfl) T.len PySem.boot_len (pa_cons (pv 4) pa_nil)) pe_int (nomark _)) (pw_and1 (pt_cmpR op_eq (pe_call GT hr (by rfl) gT FT.kp bT .nil pass0 (pa_cons (pv 0) (pa_cons pe_int pa_nil))) pe_int (nomark _)))))
        (pss_one (ps_set (i := 2) scReq.nd rfl (Or.inl rfl) (pv 4))) pss_nil)
      (pss_one (ps_ret (pe_tup (pa_cons (pe_call GC hr (by rfl) gC FC.kp bC .nil pass0 (pa_cons (pv 0) (pa_cons (pe_callB call_len_seq (by rfl) T.len PySem.boot_len (pa_cons (pv 2) pa_nil)) pa_nil)))
            (pa_cons (pe_callTy call_tupleG (by rfl) T.tup (by decide +kernel) (pa_cons (pv 2) pa_nil)) pa_nil)))))))), ?_⟩
    have okx : ∀ x ∈ xs, PyData.strOk x = true := fun x mx => (nm x mx).ok
    obtain ⟨vb, vg⟩ := B.apart hv
    obtain ⟨ov, gv, ev⟩ := hv
    have sub : ∀ {ys zs : List Str}, (ys ++ zs).Perm xs → ys.length ≤ 8 ∧ (∀ y ∈ ys, y ∈ xs) ∧ (xs.Nodup → ys.Nodup) := fun {ys zs} pm => by
      have e := pm.length_eq
      rw [List.length_append] at e
      exact ⟨by omega, fun y my => pm.mem_iff.mp (List.mem_append_left _ my), fun nd => (List.nodup_append.mp (pm.nodup_iff.mpr nd)).1⟩
    -- parts = _law_some(..)
    refine ⟨.ref b, rfl, .ref vp, rfl, b, g, m, vp, n, xs, rfl, B, by omega, ⟨ov, gv, ev⟩, x1, by omega, fun l ys zs H1 nl h1 y1 pm B1 K1 => ?_⟩
    obtain ⟨lb, lg, lm⟩ := B.ne nl
    obtain ⟨y8, ysub, ynd⟩ := sub pm
    have nf : ∀ o u, H l ≠ some (.frz o u) := fun o u e => by
      rw [nl] at e
      cases e
    -- how often
    refine ⟨by show 5 ≤ sizeLine; decide, fun l5 n5 => ?_⟩
    obtain ⟨l5b, l5g, l5m⟩ := B1.ne n5
    refine ⟨.ref b, rfl, b, g, m, _, 5, rfl, B1.same (same_new n5), by omega, by decide, by decide, fun v0 H2 a0 a1 B2 K2 => ?_⟩
    obtain ⟨cnt, at5, c0, c4⟩ := five a0 a1
    have K12 : Keep b g H1 H2 := (Same.keep (same_new n5)).trans K2
    obtain ⟨o1, g1, e1⟩ := h1
    refine ⟨l5, _, v0, .int cnt, rfl, rfl, SqL.of (K2 _ _ upd_same l5b l5g), at5, cnt, rfl, by omega, by omega, for_range (lo := 0) (n := cnt.toNat) (fun i σ H3 => ∃ (us : List V) (ps : List Part) (y3 y4 y5 : Option V), σ = [some (.ref b), some (.ref vp), some (.ref l), y3, y4, y5] ∧
      Box H3 b g m (n + 10 + 14 * i) ∧ Keep b g H H3 ∧ GLs H3 l us ∧ Parts H3 us ps ∧ Fine xs (8 + i) 12 ps ∧ 1 ≤ ps.length) ?_ ?_ ?_⟩
    · refine ⟨ys.map V.str, ys.map Sum.inl, none, none, none, rfl, B2.more (by omega), K1.trans K12, ⟨o1, g1, K12 _ _ e1 lb lg⟩, Parts.names ys, ⟨fun p mp => ?_, ?_, ?_, fun nd => inl_nodup (ynd nd)⟩, by rw [List.length_map]; exact y1⟩
      · obtain ⟨y, my, rfl⟩ := List.mem_map.mp mp
        exact ysub y my
      · rw [List.length_map]
        omega
      · rw [namesOf_names]
        omega
    · rintro i σ H3 hi ⟨us, ps, y3, y4, y5, rfl, B3, K3, ⟨o3, g3, h3⟩, PS, fine, one⟩
      have i4 : i < 4 := by omega
      have hv3 : GLs H3 vp (xs.map V.str) := ⟨ov, gv, K3 _ _ ev vb vg⟩
      -- inner = _law_some(..)[:..]
      refine ⟨.ref b, rfl, .ref vp, rfl, b, g, m, vp, _, xs, rfl, B3, by omega, hv3, x1, by omega, fun l2 ys2 zs2 H4 nl2 h4 y21 pm2 B4 K4 => ?_⟩
      obtain ⟨y28, y2sub, y2nd⟩ := sub pm2
      obtain ⟨l2b, l2g, l2m⟩ := B3.ne nl2
      obtain ⟨o4, g4, e4⟩ := h4
      refine ⟨.ref b, rfl, b, g, m, _, 4, rfl, B4, by omega, by decide, by decide, fun v1 H5 e0 e1 B5 K5 => ?_⟩
      refine ⟨_, _, rfl, rfl, 1 + v1, rfl, l2, _, rfl, .inl (.inr ⟨o4, K5 _ _ e4 l2b l2g⟩), fun l3 nl3 => ?_⟩
      rw [cut_to ys2 (by omega)]
      have is1 : 1 ≤ (ys2.take (1 + v1).toNat).length := by
        rw [List.length_take]
        omega
      have is8 : (ys2.take (1 + v1).toNat).length ≤ 8 := by
        rw [List.length_take]
        omega
      have isub : ∀ y ∈ ys2.take (1 + v1).toNat, y ∈ xs := fun y my => y2sub y (List.mem_of_mem_take my)
      have isnd : xs.Nodup → (ys2.take (1 + v1).toNat).Nodup := fun nd => (y2nd nd).sublist (List.take_sublist _ _)
      generalize ys2.take (1 + v1).toNat = is at is1 is8 isub isnd
      obtain ⟨l3b, l3g, l3m⟩ := B5.ne nl3
      have il : (is.map V.str).length = is.length := List.length_map _
      -- part = (.., tuple(inner))
      refine ⟨.ref b, rfl, .ref l3, rfl, l3, _, rfl, .inl (SqL.of upd_same), b, g, m, _, _, rfl, B5.same (same_new nl3), by omega, by omega, by omega, fun c' H7 d0 d1 B7 K7 => ?_⟩
      have h7 : H7 l3 = some (.lst (is.map V.str)) := K7 _ _ upd_same l3b l3g
      refine ⟨.ref l3, rfl, l3, _, rfl, .inl ⟨SqL.of h7, fun t1 nt1 => ⟨by show 2 ≤ sizeLine; decide, fun t2 nt2 => ?_⟩⟩⟩
      have K37 : Keep b g H3 H7 := ((K4.trans K5).trans (Same.keep (same_new nl3))).trans K7
      have s9 : Same H7 (upd (upd H7 t1 (.tup (is.map V.str))) t2 (.tup [.int c', .ref t1])) := (same_new nt1).trans (same_new nt2)
      have t12 : t1 ≠ t2 := ne_of_none (upd_same (H := H7) (o := .tup (is.map V.str))) nt2
      have pt : PartAt (upd (upd H7 t1 (.tup (is.map V.str))) t2 (.tup [.int c', .ref t1])) (.ref t2) (.inr (c', is)) := ⟨t2, t1, rfl, upd_same, by rw [upd_ne t12, upd_same]⟩
      generalize upd (upd H7 t1 (.tup (is.map V.str))) t2 (.tup [.int c', .ref t1]) = H9 at s9 pt ⊢
      have K39 : Keep b g H3 H9 := K37.trans (Same.keep s9)
      have tup39 : Tups H3 H9 := K39.tups B3
      have h9 : H9 l = some (.frz o3 (.lst us)) := K39 _ _ h3 lb lg
      have PS9 := PS.tups tup39.tup
      have B9 : Box H9 b g m (n + 10 + 14 * i + 13) := (B7.same s9).more (by omega)
      have good : Good xs (.inr (c', is)) := ⟨is1, is8, d0, by omega, isnd, isub⟩
      have ulen := PS.length
      have pl := fine.len
      have room : us.length < sizeLine := small1000 (by omega)
      have skip : ∀ H', Same H9 H' → ∃ (us : List V) (ps : List Part) (y3' y4 y5 : Option V), [some (.ref b), some (.ref vp), some (.ref l), some (.int (0 + i)), some (.ref l3), some (.ref t2)] = [some (.ref b), some (.ref vp), some (.ref l), y3', y4, y5] ∧
          Box H' b g m (n + 10 + 14 * (i + 1)) ∧ Keep b g H H' ∧ GLs H' l us ∧ Parts H' us ps ∧ Fine xs (8 + (i + 1)) 12 ps ∧ 1 ≤ ps.length := fun H' s' =>
        ⟨us, ps, _, _, _, rfl, (B9.same s').more (by omega), (K3.trans K39).trans (Same.keep s'), ⟨o3, g3, s' _ _ h9⟩, PS9.tups (Same.tups s').tup, ⟨fine.all, by have := fine.len; omega, fine.nam, fine.nd⟩, one⟩
      refine ⟨.ref t2, rfl, .ref l, rfl, _, _, pt.dp, .lst (.inl (.inr ⟨o3, h9⟩)) PS9.dp, shaped_part okx good, shaped_parts okx fine.all, _, rfl, ite2 (fun fresh => ?_) (fun _ => skip H9 (Same.refl _))⟩
      have fresh := not_among (Good.lay okx good).1 fresh
      refine ⟨.ref l, rfl, .ref t2, rfl, by show 1 ≤ sizeLine; decide, fun l7 nl7 => ⟨l, l7, us, [.ref t2], rfl, rfl, .inr ⟨o3, same_new nl7 _ _ h9⟩, .inl upd_same, ?_, fun l8 nl8 => ?_⟩⟩
      · show us.length + 1 ≤ sizeLine
        omega
      have s8 := (same_new (o := .lst [.ref t2]) nl7).trans (same_new (o := .lst (us ++ [.ref t2])) nl8)
      refine ⟨l8, _, ps ++ [Sum.inr (c', is)], rfl, upd_same, (PS9.append (.cons pt .nil)).tups (Same.tups s8).tup, ?_, fun H10 s10 => ?_⟩
      · rw [List.length_append]
        show ps.length + 1 ≤ 900
        omega
      have s910 := s8.trans s10
      refine ⟨_, _, rfl, rfl, _, rfl, ite2 (fun small => ?_) (fun _ => skip H10 s910)⟩
      have small := of_decide_eq_true small
      rw [namesOf_append, List.length_append, show namesOf [(Sum.inr (c', is) : Part)] = is from List.append_nil is] at small
      -- parts.insert(.., part)
      have h10 := s910 _ _ h9
      have g10 : GLs H10 l us := ⟨o3, g3, h10⟩
      refine ⟨.ref l, rfl, .inl ⟨rfl, _, g10.seq⟩, .ref b, rfl, .ref l, rfl, l, _, rfl, .inl g10.seq, _, _, rfl, rfl, b, g, m, _, _, rfl, B9.same s910, by omega, by omega, by omega, fun v2 H11 f0 f1 B11 K11 => ?_⟩
      have h11 := K11 _ _ h10 lb lg
      have tup11 : Tups H9 H11 := (Same.tups s910).trans (K11.tups (B9.same s910))
      have PS11 := PS9.tups tup11.tup
      have pt11 := pt.tups tup11.tup
      have cutp := PS11.cut v2.toNat
      have whole : ps.take v2.toNat ++ ps.drop v2.toNat = ps := List.take_append_drop _ _
      have namesN : (namesOf (ps.take v2.toNat ++ [Sum.inr (c', is)] ++ ps.drop v2.toNat)).length = (namesOf ps).length + is.length := by
        have e := congrArg (fun q => (namesOf q).length) whole
        rw [namesOf_append, List.length_append] at e
        rw [namesOf_append, namesOf_append, List.length_append, List.length_append, show namesOf [(Sum.inr (c', is) : Part)] = is from List.append_nil is]
        omega
      have lensN : (ps.take v2.toNat ++ [Sum.inr (c', is)] ++ ps.drop v2.toNat).length = ps.length + 1 := by
        have e := congrArg List.length whole
        rw [List.length_append] at e
        rw [List.length_append, List.length_append, List.length_singleton]
        omega
      have permN : (ps.take v2.toNat ++ [Sum.inr (c', is)] ++ ps.drop v2.toNat).Perm (Sum.inr (c', is) :: ps) := by
        rw [List.append_assoc]
        have := put_perm ps v2.toNat (Sum.inr (c', is))
        simpa using this
      refine ⟨.ref t2, rfl, l, us, v2, t2, rfl, rfl, ⟨o3, g3, h11⟩, nf, room, f0, by omega, fun o' g' => ⟨us.take v2.toNat ++ [.ref t2] ++ us.drop v2.toNat, ps.take v2.toNat ++ [Sum.inr (c', is)] ++ ps.drop v2.toNat, _, _, _, rfl, (B11.store lb lg lm).more (by omega), ?_, ⟨o', g', upd_same⟩, ?_, ⟨?_, ?_, ?_, ?_⟩, ?_⟩⟩
      · intro d o e n1 n2
        rw [upd_ne (ne_of_none e nl)]
        exact K11 _ _ (s910 _ _ (K39 _ _ (K3 _ _ e n1 n2) n1 n2)) n1 n2
      · refine ((cutp.1.append (.cons pt11 .nil)).append cutp.2).tups fun a xs e => ?_
        rw [upd_ne (fun z => by rw [z, h11] at e; cases e)]
        exact e
      · intro p mp
        rcases List.mem_append.mp mp with mp | mp
        · rcases List.mem_append.mp mp with mp | mp
          · exact fine.all p (List.mem_of_mem_take mp)
          · rw [List.mem_singleton.mp mp]
            exact good
        · exact fine.all p (List.mem_of_mem_drop mp)
      · rw [lensN]
        omega
      · rw [namesN]
        omega
      · intro nd
        exact permN.nodup_iff.mpr (List.nodup_cons.mpr ⟨fresh, fine.nd nd⟩)
      · rw [lensN]
        omega
    · rintro σ H3 ⟨us, ps, y3, y4, y5, rfl, B3, K3, ⟨o3, g3, h3⟩, PS, fine, one⟩
      have cn : cnt.toNat ≤ 4 := by omega
      refine ⟨.ref l, rfl, l, rfl, ⟨_, .inl (.inr ⟨o3, h3⟩)⟩, fun D nD => lc_list (K := K) (a := l) (xs := us) (fun i H4 => Same H3 H4 ∧ ∃ (vs : List V) (qs : List Part), H4 D = some (.lst vs) ∧ (∀ x ∈ vs, ∃ a, x = V.ref a) ∧ Parts H4 vs qs ∧ (∀ p ∈ qs, Good xs p) ∧ qs.Sublist (ps.take i)) ?_ (fun i H4 _ h => .inl (.inr ⟨o3, h.1 _ _ h3⟩)) ?_ ?_⟩
      · exact ⟨same_new nD, [], [], upd_same, fun x mx => by simp at mx, .nil, fun p mp => by simp at mp, List.Sublist.refl _⟩
      · rintro i x H4 hx ⟨s4, vs, qs, hD, rf, QS, gq, sl⟩
        have lt := (List.getElem?_eq_some_iff.mp hx).1
        rw [PS.length] at lt
        have pl := fine.len
        obtain ⟨p, hp, pa⟩ := PS.at hx
        have pa4 := pa.tups (Same.tups s4).tup
        obtain ⟨ty, ty1, ty2⟩ := isi_part (K := K) pa4
        have tk : ps.take (i + 1) = ps.take i ++ [p] := by
          rw [List.take_add_one, hp]
          rfl
        have ql : qs.length ≤ ps.length := by
          have := sl.length_le
          rw [List.length_take] at this
          omega
        refine ⟨rfl, x, rfl, _, _, ty, .type "str", _, rfl, .ty _, ty1, ty2, _, rfl, ?_⟩
        cases p with
        | inl z => exact iteF ⟨s4, vs, qs, hD, rf, QS, gq, by rw [tk]; exact sl.trans (List.sublist_append_left _ _)⟩
        | inr y =>
          refine iteT ⟨x, rfl, vs, hD, ?_, fun d o e => ?_, vs ++ [x], qs ++ [Sum.inr y], upd_same, ?_, ?_, ?_, ?_⟩
          · rw [QS.length]
            exact small1000 (by omega)
          · rw [upd_ne (ne_of_none e nD)]
            exact s4 d o e
          · intro z mz
            rcases List.mem_append.mp mz with mz | mz
            · exact rf z mz
            · rw [List.mem_singleton.mp mz]
              obtain ⟨cy, ny⟩ := y
              obtain ⟨a, _, ea, _⟩ := pa4
              exact ⟨a, ea⟩
          · exact (QS.append (.cons pa4 .nil)).tups (tups_store hD).tup
          · intro p mp
            rcases List.mem_append.mp mp with mp | mp
            · exact gq p mp
            · rw [List.mem_singleton.mp mp]
              exact fine.all _ (List.mem_of_getElem? hp)
          · rw [tk]
            exact sl.append (List.Sublist.refl _)
      · rintro H4 ⟨s4, vs, qs, hD, rf, QS, gq, sl⟩
        rw [PS.length, List.take_length] at sl
        have fl := fine.len
        have fnm := fine.nam
        have ql := sl.length_le
        have h4 := s4 _ _ h3
        have K4 : Keep b g H H4 := K3.trans (Same.keep s4)
        have B4 : Box H4 b g m (n + 66) := (B3.same s4).more (by omega)
        obtain ⟨Db, Dg, Dm⟩ := B3.ne nD
        refine ⟨fun σ H5 => ∃ (l' : Addr) (us' : List V) (ps' : List Part) (z3 z4 z5 : Option V), σ = [some (.ref b), some (.ref vp), some (.ref l'), z3, z4, z5] ∧ l' ≠ b ∧ l' ≠ g ∧ Box H5 b g m (n + 67) ∧ Keep b g H H5 ∧ Lst H5 l' us' ∧ Parts H5 us' ps' ∧ Fine xs 12 12 ps' ∧ 1 ≤ ps'.length, ?_, ?_⟩
        · have stay : ∀ H5, Keep b g H4 H5 → Box H5 b g m (n + 67) → ∃ (l' : Addr) (us' : List V) (ps' : List Part) (z3 z4 z5 : Option V), [some (.ref b), some (.ref vp), some (.ref l), y3, some (.ref D), y5] = [some (.ref b), some (.ref vp), some (.ref l'), z3, z4, z5] ∧ l' ≠ b ∧ l' ≠ g ∧ Box H5 b g m (n + 67) ∧ Keep b g H H5 ∧ Lst H5 l' us' ∧ Parts H5 us' ps' ∧ Fine xs 12 12 ps' ∧ 1 ≤ ps'.length := fun H5 K5 B5 =>
            ⟨l, us, ps, _, _, _, rfl, lb, lg, B5, K4.trans K5, .inl ⟨o3, g3, K5 _ _ h4 lb lg⟩, (PS.tups (Same.tups s4).tup).tups (K5.tups B4).tup, ⟨fine.all, by omega, fnm, fine.nd⟩, one⟩
          refine ⟨.ref D, rfl, D, _, rfl, .inl (SqL.of hD), _, _, rfl, rfl, _, rfl, ite2 (fun e => ?_) (fun _ => stay H4 (Keep.refl _ _ _) (B4.more (by omega)))⟩
          have pos := of_decide_eq_true e
          rw [QS.length] at pos
          refine ⟨.ref b, rfl, b, g, m, _, 4, rfl, B4, by omega, by decide, by decide, fun v H5 a0 a1 B5 K5 => ⟨rfl, _, rfl, ite2 (fun _ => ?_) (fun _ => stay H5 K5 B5)⟩⟩
          exact ⟨.ref D, rfl, D, vs, qs, _, _, _, rfl, Db, Dg, B5, K4.trans K5, .inr ⟨K5 _ _ hD Db Dg, rf⟩, QS.tups (K5.tups B4).tup, ⟨gq, by omega, Nat.le_trans (namesOf_sub sl) fnm, fun nd => (fine.nd nd).sublist sl⟩, by omega⟩
        · rintro σ H5 ⟨l', us', ps', z3, z4, z5, rfl, l'b, l'g, B5, K5, h5, PS', fine', one'⟩
          have ul := PS'.length
          have fl' := fine'.len
          refine ⟨.ref b, rfl, .ref l', rfl, l', _, rfl, .inl h5.seq, b, g, m, _, _, rfl, B5, by omega, by omega, by omega, fun c H6 e1 e2 B6 K6 => ?_⟩
          have h6 : GLs H6 l' us' ∨ (SqL K H6 l' us' ∧ ∀ x ∈ us', ∃ a, x = V.ref a) := by
            rcases h5 with ⟨o, go, e⟩ | ⟨e, r⟩
            · exact .inl ⟨o, go, K6 _ _ e l'b l'g⟩
            · exact .inr ⟨SqL.of (K6 _ _ e l'b l'g), r⟩
          refine ⟨.ref l', rfl, l', _, rfl, h6, fun t1 ot nt1 gt => ⟨by show 2 ≤ sizeLine; decide, fun t2 nt2 => ?_⟩⟩
          have s8 := (same_new (o := .frz ot (.tup us')) nt1).trans (same_new (o := .tup [.int c, .ref t1]) nt2)
          have t12 : t1 ≠ t2 := ne_of_none (upd_same (H := H6) (o := .frz ot (.tup us'))) nt2
          have K06 : Keep b g H H6 := K5.trans K6
          obtain ⟨t2b, t2g, _⟩ := B6.ne (p := t2) (by
            have z := nt2
            rw [upd_ne t12.symm] at z
            exact z)
          have new : H t2 = none := by
            refine K06.free t2b t2g ?_
            have z := nt2
            rw [upd_ne t12.symm] at z
            exact z
          refine q t2 c ps' _ new ⟨t1, us', upd_same, ⟨ot, gt, by rw [upd_ne t12, upd_same]⟩, (PS'.tups (K6.tups B5).tup).tups (Same.tups s8).tup⟩ fine' e1 (by omega) ((B6.same s8).more (by omega)) (K06.trans (Same.keep s8))
end
end Moot
namespace Moot
open PySem PySem.Spec PyProof.Rows L2
structure Bq (mg : Str → Option Value) : Prop where
  T : Blt mg
  all : mg "all" = none
  letters : ∃ u, mg "LETTERS" = some u ∧ RelV (.str abc) u
  longest : ∃ u, mg "LONGEST_NAME" = some u ∧ RelV (.int 8) u
  mostn : ∃ u, mg "MOST_NAMES" = some u ∧ RelV (.int 12) u
  mostd : ∃ u, mg "MOST_DIFFERENT_NAMES" = some u ∧ RelV (.int 8) u
theorem abc_mem {c : Nat} (h : 97 ≤ c ∧ c ≤ 122) : c ∈ abc.cps.toList := by
  rw [abc_list]
  exact List.mem_map.mpr ⟨c - 97, List.mem_range.mpr (by omega), by omega⟩
theorem all_true {α : Type} (l : List α) : ((l.map fun _ => true).all id) = true := by
  rw [List.all_map]
  exact List.all_eq_true.mpr fun _ _ => rfl
/-- an inner requirement as it must be -/
def InnOk (c : Int) (ns : List Str) : Prop := 1 ≤ c ∧ c ≤ (ns.length : Int) ∧ ns.length ≤ 12 ∧ ns.Nodup ∧ ∀ x ∈ ns, Nm x
/-- a requirement as it must be, over the names xs -/
structure Valid (xs : List Str) (c : Int) (ps : List Part) : Prop where
  c1 : 1 ≤ c
  c2 : c ≤ (ps.length : Int)
  nd : ps.Nodup
  nam : (namesOf ps).length ≤ 12
  few : xs.length ≤ 8
  sub : ∀ x ∈ namesOf ps, x ∈ xs
  nm : ∀ x ∈ xs, Nm x
  inn : ∀ d ns, Sum.inr (d, ns) ∈ ps → InnOk d ns
theorem mem_names {ps : List Part} {p : Part} (m : p ∈ ps) {x : Str} (h : x ∈ namesOf [p]) : x ∈ namesOf ps := by
  obtain ⟨a, b, rfl⟩ := List.append_of_mem m
  rw [namesOf_append, show p :: b = [p] ++ b from rfl, namesOf_append]
  exact List.mem_append_right _ (List.mem_append_left _ h)
theorem len_names : ∀ {ps : List Part}, (∀ d ns, Sum.inr (d, ns) ∈ ps → 1 ≤ ns.length) → ps.length ≤ (namesOf ps).length
  | [], _ => Nat.le_refl _
  | .inl x :: ps, h => by
    have := len_names (ps := ps) fun d ns m => h d ns (List.mem_cons_of_mem _ m)
    show ps.length + 1 ≤ (x :: namesOf ps).length
    rw [List.length_cons]
    omega
  | .inr (d, ns) :: ps, h => by
    have := len_names (ps := ps) fun d ns m => h d ns (List.mem_cons_of_mem _ m)
    have := h d ns List.mem_cons_self
    show ps.length + 1 ≤ (ns ++ namesOf ps).length
    rw [List.length_append]
    omega
theorem Valid.len {xs : List Str} {c : Int} {ps : List Part} (h : Valid xs c ps) : ps.length ≤ 12 := by
  have := len_names (ps := ps) fun d ns m => by
    have := h.inn d ns m
    have := this.1
    have := (h.inn d ns m).2.1
    omega
  have := h.nam
  omega
section
variable {P : Program} {w : World} {K : PySem.W.Frag} {mg : Str → Option Value} {base : Heap}
/-! is_name -/
abbrev sIn : Stmt := top 14
abbrev nIn : List Str := ["value", "letter"]
theorem scIn : FnScope nIn ["value"] (defScope sIn) := ⟨rfl, rfl, rfl, by decide +kernel, rfl, by decide +kernel, by decide +kernel⟩
def spIn (K : PySem.W.Frag) : Sp := fun vs H Q _ => (∃ z : Str, vs = [.str z] ∧ Nm z ∧ ∀ H', Same H H' → Q (.bl true) H') ∨ ∃ a, vs = [.ref a] ∧ TyX K H (.ref a) (.type "tuple") ∧ Q (.bl false) H
theorem ok_isname {f : Addr} {fd : FuncData} {k : Nat} (F : Fun K "is_name" "is_name" sIn f fd) (T : Bq mg) : FnOk P w K mg base CX0 (k + 1) f fd ["value"] (spIn K) := by
  obtain ⟨uL, mL, rL⟩ := T.letters
  obtain ⟨uG, mG, rG⟩ := T.longest
  refine F.ok scIn (fun vs H Q E h => ?_) (fun cdv A outer s H vs Q E hr h => ?_)
  · rcases h with ⟨z, rfl, _⟩ | ⟨a, rfl, _⟩ <;> rfl
  · refine ⟨_, pss_cons (ps_if (pt_not (pt_val (pe_callB call_isi (by rfl) T.T.isi (by decide +kernel) (pa_cons (pv 0) (pa_cons (pe_bltn (v := .ty "str") (by rfl) T.T.str (by decide +kernel) rfl) pa_nil))))) (pss_one (ps_ret pe_bl)) pss_nil)
      (pss_cons (ps_if (pt_not (pt_chain op_le op_le pe_int (pe_callB call_len_str (by rfl) T.T.len PySem.boot_len (pa_cons (pv 0) pa_nil)) (pe_glob (by rfl) mG rG))) (pss_one (ps_ret pe_bl)) pss_nil)
      (pss_one (ps_ret (pe_callB (cr_all rfl) (by rfl) T.all (by decide +kernel) (pa_cons (pe_lc (own := [("letter", 1)]) (g := gName 1) (tt := tYes) (by rfl) scIn.nd (pi_str (pv 0)) (blkOk_by (N := nIn) (sc := defScope sIn) (by decide +kernel))
          (fun _ _ _ _ _ => pg_name (i := 1) scIn.nd rfl (Or.inl rfl)) (fun _ _ _ _ _ => pts_nil) (fun _ _ _ _ _ => pe_cmpR op_in_sign (pv 1) (pe_glob (by rfl) mL rL) (by rfl))) pa_nil))))), ?_⟩
    rcases h with ⟨z, rfl, nz, q⟩ | ⟨a, rfl, ty, q⟩
    rotate_left
    · exact ⟨.ref a, rfl, _, _, .type "tuple", .type "str", false, rfl, .ty _, ty, kit_ty (r := false) (by decide +kernel), _, rfl, iteT q⟩
    have l8 : z.length ≤ 8 := nz.hi
    have l1 : 1 ≤ z.length := nz.lo
    refine ⟨.str z, rfl, _, _, .type "str", .type "str", true, rfl, .ty _, .base (.str z), kit_ty (r := true) (by decide +kernel), _, rfl, iteF ?_⟩
    refine ⟨.str z, rfl, z, rfl, Nat.le_of_lt (small1000 (by omega)), _, _, rfl, rfl, _, rfl, ?_⟩
    rw [decide_eq_true (show (1 : Int) ≤ (z.length : Int) by omega)]
    refine iteT ⟨_, _, rfl, rfl, _, rfl, ?_⟩
    rw [decide_eq_true (show (z.length : Int) ≤ 8 by omega)]
    refine iteF ?_
    refine ⟨.str z, rfl, z, rfl, fun D nD => ?_⟩
    refine lc_it walk_str (fun j H1 => Same H H1 ∧ H1 D = some (.lst (((z.cps.toList.take j).map fun _ => true).map V.bl))) ?_ (fun _ _ _ _ => trivial) ?_ ?_
    · exact ⟨same_new nD, upd_same⟩
    · rintro j x H1 H2 hj ⟨s1, hD⟩ ⟨rfl, c, hc, rfl⟩
      have tk : z.cps.toList.take (j + 1) = z.cps.toList.take j ++ [c] := by
        rw [List.take_add_one, Array.getElem?_toList, hc]
        rfl
      have mc : c ∈ z.cps.toList := List.mem_of_getElem? (by rw [Array.getElem?_toList]; exact hc)
      refine ⟨rfl, .str (sg c), rfl, c, abc, rfl, rfl, ?_⟩
      rw [decide_eq_true (abc_mem (nz.low c mc))]
      refine ⟨_, hD, ?_, fun a o e => ?_, ?_⟩
      · rw [List.length_map, List.length_map, List.length_take]
        have : z.cps.toList.length = z.length := by simp [Str.length]
        exact small1000 (by omega)
      · rw [upd_ne (ne_of_none e nD)]
        exact s1 a o e
      · rw [upd_same, tk, List.map_append, List.map_append]
        rfl
    · rintro H1 ⟨s1, hD⟩
      refine ⟨D, _, rfl, SqL.of hD, ?_⟩
      rw [all_true]
      exact q H1 s1
/-! is_whole_number -/
abbrev sWh : Stmt := top 15
theorem scWh : FnScope ["value"] ["value"] (defScope sWh) := ⟨rfl, rfl, rfl, by decide +kernel, rfl, by decide +kernel, by decide +kernel⟩
def spWh : Sp := fun vs H Q _ => ∃ i : Int, vs = [.int i] ∧ Q (.bl true) H
theorem ok_whole {f : Addr} {fd : FuncData} {k : Nat} (F : Fun K "is_whole_number" "is_whole_number" sWh f fd) (T : Bq mg) : FnOk P w K mg base CX0 (k + 1) f fd ["value"] spWh := by
  refine F.ok scWh (fun vs H Q E h => ?_) (fun cdv A outer s H vs Q E hr h => ?_)
  · obtain ⟨i, rfl, _⟩ := h
    rfl
  · obtain ⟨i, rfl, q⟩ := h
    refine ⟨_, pss_one (ps_ret (pe_and (pe_callB call_isi (by rfl) T.T.isi (by decide +kernel) (pa_cons (pv 0) (pa_cons (pe_bltn (v := .ty "int") (by rfl) T.T.int (by decide +kernel) rfl) pa_nil)))
      (pe_one (pe_not (pe_callB call_isi (by rfl) T.T.isi (by decide +kernel) (pa_cons (pv 0) (pa_cons (pe_bltn (v := .ty "bool") (by rfl) T.T.bool (by decide +kernel) rfl) pa_nil))))))), ?_⟩
    exact ⟨.int i, rfl, _, _, .type "int", .type "int", true, rfl, .ty _, .base (.int i), kit_ty (r := true) (by decide +kernel), _, rfl, iteT ⟨.int i, rfl, _, _, .type "int", .type "bool", false, rfl, .ty _, .base (.int i), kit_ty (r := false) (by decide +kernel), _, rfl, q⟩⟩
/-! is_counted_tuple -/
abbrev sCt : Stmt := top 16
abbrev nCt : List Str := ["value", "count", "parts"]
theorem scCt : FnScope nCt ["value"] (defScope sCt) := ⟨rfl, rfl, rfl, by decide +kernel, rfl, by decide +kernel, by decide +kernel⟩
theorem PTup.ty {H : Hp} {p : Addr} {vs : List V} (h : PTup H p vs) : TyX K H (.ref p) (.type "tuple") := by
  rcases h with ⟨o, _, e⟩ | ⟨e, _⟩
  · exact .fTuple e
  · exact .base (.tup e)
def spCt : Sp := fun vs H Q _ => ∃ (r p : Addr) (c : Int) (ws : List V), vs = [.ref r] ∧ H r = some (.tup [.int c, .ref p]) ∧ PTup H p ws ∧ 1 ≤ c ∧ c ≤ (ws.length : Int) ∧ Q (.bl true) H
theorem ok_counted {f fW : Addr} {fd fdW : FuncData} {k : Nat} (F : Fun K "is_counted_tuple" "is_counted_tuple" sCt f fd) (T : Bq mg) (FW : Fun K "is_whole_number" "is_whole_number" sWh fW fdW) (bW : Binds K fdW ["value"] []) (gW : mg "is_whole_number" = some (.ref fW)) :
    FnOk P w K mg base CX0 (k + 2) f fd ["value"] spCt := by
  have GW : FnOk P w K mg base CX0 (k + 1) fW fdW ["value"] spWh := ok_whole FW T
  refine F.ok scCt (fun vs H Q E h => ?_) (fun cdv A outer s H vs Q E hr h => ?_)
  · obtain ⟨r, p, c, ws, rfl, _⟩ := h
    rfl
  · obtain ⟨r, p, c, ws, rfl, hr1, hp1, c1, c2, q⟩ := h
    refine ⟨_, pss_cons (ps_if (PW.pt (pw_or (pt_not (pt_val (pe_callB call_isi (by rfl) T.T.isi (by decide +kernel) (pa_cons (pv 0) (pa_cons (pe_bltn (v := .ty "tuple") (by rfl) T.T.tup (by decide +kernel) rfl) pa_nil)))))
          (pw_or1 (pt_cmpR op_ne (pe_callB call_len_seq (by rfl) T.T.len PySem.boot_len (pa_cons (pv 0) pa_nil)) pe_int (nomark _))))) (pss_one (ps_ret pe_bl)) pss_nil)
      (pss_cons (ps_asg (pv 0) (pg_tup (by rfl) (pgs_cons (pg_name (i := 1) scCt.nd rfl (Or.inl rfl)) (pgs_cons (pg_name (i := 2) scCt.nd rfl (Or.inl rfl)) pgs_nil))))
      (pss_cons (ps_if (PW.pt (pw_or (pt_not (pt_val (pe_call GW hr (by rfl) gW FW.kp bW .nil pass0 (pa_cons (pv 1) pa_nil)))) (pw_or1 (pt_not (pt_val (pe_callB call_isi (by rfl) T.T.isi (by decide +kernel) (pa_cons (pv 2) (pa_cons (pe_bltn (v := .ty "tuple") (by rfl) T.T.tup (by decide +kernel) rfl) pa_nil)))))))) (pss_one (ps_ret pe_bl)) pss_nil)
      (pss_one (ps_ret (pe_chain op_le op_le pe_int (pv 1) (pe_callB call_len_seq (by rfl) T.T.len PySem.boot_len (pa_cons (pv 2) pa_nil))))))), ?_⟩
    refine ⟨.ref r, rfl, _, _, .type "tuple", .type "tuple", true, rfl, .ty _, .base (.tup hr1), kit_ty (r := true) (by decide +kernel), _, rfl, iteF ⟨.ref r, rfl, r, _, rfl, .inr (SqT.of hr1), rfl, _, rfl, iteF ?_⟩⟩
    refine ⟨.ref r, rfl, r, _, rfl, SqT.of hr1, rfl, _, _, rfl, _, _, rfl, rfl, ?_⟩
    refine ⟨.int c, rfl, c, rfl, _, rfl, iteF ⟨.ref p, rfl, _, _, .type "tuple", .type "tuple", true, rfl, .ty _, hp1.ty, kit_ty (r := true) (by decide +kernel), _, rfl, iteF ?_⟩⟩
    refine ⟨.int c, rfl, _, _, rfl, rfl, _, rfl, ?_⟩
    rw [decide_eq_true c1]
    refine iteT ⟨.ref p, rfl, p, _, rfl, .inr hp1.seq, _, _, rfl, rfl, ?_⟩
    show Q (.bl (decide (c ≤ (ws.length : Int)))) H
    rw [decide_eq_true c2]
    exact q
/-! has_duplicates -/
abbrev sHd : Stmt := top 17
theorem scHd : FnScope ["parts"] ["parts"] (defScope sHd) := ⟨rfl, rfl, rfl, by decide +kernel, rfl, by decide +kernel, by decide +kernel⟩
/-- none twice: texts alone, or mixed with tokens -/
def spHd (K : PySem.W.Frag) : Sp := fun vs H Q _ => ∃ p, vs = [.ref p] ∧ ((∃ zs : List Str, NodesAt K H p zs ∧ zs.length < 64 ∧ zs.Nodup) ∨ ∃ (ws : List V) (ps : List Part), GTp H p ws ∧ Parts H ws ps ∧ ps.length < 63 ∧ ps.Nodup) ∧ ∀ H', Same H H' → Q (.bl false) H'
theorem ok_dup {f : Addr} {fd : FuncData} {k : Nat} (F : Fun K "has_duplicates" "has_duplicates" sHd f fd) (T : Bq mg) : FnOk P w K mg base CX0 (k + 1) f fd ["parts"] (spHd K) := by
  refine F.ok scHd (fun vs H Q E h => ?_) (fun cdv A outer s H vs Q E hr h => ?_)
  · obtain ⟨p, rfl, _⟩ := h
    rfl
  · obtain ⟨p, rfl, hp, q⟩ := h
    have hu : (A.deeper (envOfC "has_duplicates" (defScope sHd) s.heap.objs.size f cdv)).units + 12 < cLine := by
      have := hr.un
      omega
    refine ⟨_, pss_one (ps_ret (pe_cmpR op_lt (pe_callB (CallR.or cr_txtLen cr_mixLen) (by rfl) T.T.len PySem.boot_len (pa_cons (pe_callTy (CallR.or (cr_txtSetA rfl) (cr_mixSet rfl hu)) (by rfl) T.T.set (by decide +kernel) (pa_cons (pv 0) pa_nil)) pa_nil)) (pe_callB call_len_seq (by rfl) T.T.len PySem.boot_len (pa_cons (pv 0) pa_nil)) (nomark _))), ?_⟩
    rcases hp with ⟨zs, hp, few, nd⟩ | ⟨ws, ps, hp, PS, few, nd⟩
    · refine ⟨.ref p, rfl, .inl ⟨p, zs, rfl, hp, few, fun a m na hm => .inl ⟨a, _, m, rfl, upd_same, by omega, fun least => ?_⟩⟩⟩
      have le := least zs nd fun k mk => decide_eq_true mk
      have s1 := same_new (o := TxtSet P w a (fun k => decide (k ∈ zs)) m) na
      refine ⟨.ref p, rfl, p, _, rfl, hp.same s1, _, _, rfl, rfl, ?_⟩
      show Q (.bl (decide ((m : Int) < ((zs.map V.str).length : Int)))) _
      rw [List.length_map, decide_eq_false (show ¬ ((m : Int) < (zs.length : Int)) by omega)]
      exact q _ s1
    · refine ⟨.ref p, rfl, .inr ⟨p, ws, ps, rfl, hp, PS, few, fun a n na hn all _ => .inr ⟨a, n, rfl, upd_same, by omega, ?_⟩⟩⟩
      have e := all nd
      have s1 := same_new (o := NSet a n) na
      have hp1 : PTup (upd H a (NSet a n)) p ws := (show PTup H p ws from .inl hp).tups (Same.tups s1)
      refine ⟨.ref p, rfl, p, _, rfl, .inr hp1.seq, _, _, rfl, rfl, ?_⟩
      show Q (.bl (decide ((n : Int) < (ws.length : Int)))) _
      rw [PS.length, decide_eq_false (show ¬ ((n : Int) < (ps.length : Int)) by omega)]
      exact q _ s1
/-! is_simple_requirement -/
abbrev sSr : Stmt := top 18
abbrev nSr : List Str := ["value", "names", "name"]
theorem scSr : FnScope nSr ["value"] (defScope sSr) := ⟨rfl, rfl, rfl, by decide +kernel, rfl, by decide +kernel, by decide +kernel⟩
def spSr : Sp := fun vs H Q _ => ∃ (r p : Addr) (c : Int) (ns : List Str), vs = [.ref r] ∧ H r = some (.tup [.int c, .ref p]) ∧ H p = some (.tup (ns.map V.str)) ∧ InnOk c ns ∧ ∀ H', Same H H' → Q (.bl true) H'
theorem ok_simple {f f1 f2 f4 : Addr} {fd fd1 fd2 fd4 : FuncData} {k : Nat} (F : Fun K "is_simple_requirement" "is_simple_requirement" sSr f fd) (T : Bq mg)
    (F1 : Fun K "is_counted_tuple" "is_counted_tuple" sCt f1 fd1) (b1 : Binds K fd1 ["value"] []) (g1 : mg "is_counted_tuple" = some (.ref f1)) (G1 : FnOk P w K mg base CX0 k f1 fd1 ["value"] spCt)
    (F2 : Fun K "is_name" "is_name" sIn f2 fd2) (b2 : Binds K fd2 ["value"] []) (g2 : mg "is_name" = some (.ref f2)) (G2 : FnOk P w K mg base CX0 k f2 fd2 ["value"] (spIn K))
    (F4 : Fun K "has_duplicates" "has_duplicates" sHd f4 fd4) (b4 : Binds K fd4 ["parts"] []) (g4 : mg "has_duplicates" = some (.ref f4)) (G4 : FnOk P w K mg base CX0 k f4 fd4 ["parts"] (spHd K)) :
    FnOk P w K mg base CX0 (k + 1) f fd ["value"] spSr := by
  refine F.ok scSr (fun vs H Q E h => ?_) (fun cdv A outer s H vs Q E hr h => ?_)
  · obtain ⟨r, p, c, ns, rfl, _⟩ := h
    rfl
  · obtain ⟨r, p, c, ns, rfl, hr1, hp1, ⟨c1, c2, few, nd, nm⟩, q⟩ := h
    refine ⟨_, pss_cons (ps_if (pt_not (pt_val (pe_call G1 hr (by rfl) g1 F1.kp b1 .nil pass0 (pa_cons (pv 0) pa_nil)))) (pss_one (ps_ret pe_bl)) pss_nil)
      (pss_cons (ps_set (i := 1) scSr.nd rfl (Or.inl rfl) (pe_ix ix_tup (pv 0) pe_int (fun _ _ => rfl)))
      (pss_one (ps_ret (pe_and (pe_callB (cr_all rfl) (by rfl) T.all (by decide +kernel) (pa_cons (pe_lc (own := [("name", 2)]) (g := gName 2) (tt := tYes) (by rfl) scSr.nd (pi_tup (pv 1)) (blkOk_by (N := nSr) (sc := defScope sSr) (by decide +kernel))
          (fun _ _ _ _ _ => pg_name (i := 2) scSr.nd rfl (Or.inl rfl)) (fun _ _ _ _ _ => pts_nil)
          (fun _ _ _ _ _ => pe_call G2 hr (by rfl) g2 F2.kp b2 .nil pass0 (pa_cons (pv 2) pa_nil))) pa_nil))
        (pe_one (pe_not (pe_call G4 hr (by rfl) g4 F4.kp b4 .nil pass0 (pa_cons (pv 1) pa_nil)))))))), ?_⟩
    refine ⟨.ref r, rfl, r, p, c, _, rfl, hr1, .inr ⟨hp1, ns, rfl⟩, c1, by rw [List.length_map]; exact c2, _, rfl, iteF ?_⟩
    refine ⟨.ref r, rfl, r, _, 1, .ref p, rfl, rfl, SqT.of hr1, atI_nat (j := 1) rfl, ?_⟩
    refine ⟨.ref p, rfl, p, rfl, ⟨_, SqT.of hp1⟩, fun D nD => lc_tup (K := K) (a := p) (xs := ns.map V.str) (fun i H1 => Same H H1 ∧ H1 D = some (.lst (((ns.take i).map fun _ => true).map V.bl))) ⟨same_new nD, upd_same⟩ (fun i H1 _ h => SqT.of (h.1 _ _ hp1)) ?_ ?_⟩
    · rintro i x H1 hx ⟨s1, hD⟩
      rw [List.getElem?_map] at hx
      obtain ⟨z, hz, rfl⟩ := Option.map_eq_some_iff.mp hx
      have tk : ns.take (i + 1) = ns.take i ++ [z] := by
        rw [List.take_add_one, hz]
        rfl
      refine ⟨rfl, .str z, rfl, .inl ⟨z, rfl, nm z (List.mem_of_getElem? hz), fun H2 s2 => ?_⟩⟩
      refine ⟨_, s2 _ _ hD, ?_, fun d o e => ?_, ?_⟩
      · rw [List.length_map, List.length_map, List.length_take]
        exact small1000 (by omega)
      · rw [upd_ne (ne_of_none e nD)]
        exact s2 _ _ (s1 d o e)
      · rw [upd_same, tk, List.map_append, List.map_append]
        rfl
    · rintro H1 ⟨s1, hD⟩
      refine ⟨D, _, rfl, SqL.of hD, ?_⟩
      rw [all_true]
      refine ⟨_, rfl, iteT ?_⟩
      exact ⟨.ref p, rfl, p, rfl, .inl ⟨ns, .inr (SqT.of (s1 _ _ hp1)), by omega, nd⟩, fun H2 s2 => ⟨_, rfl, q H2 (s1.trans s2)⟩⟩
/-! is_requirement -/
abbrev sIr : Stmt := top 19
abbrev nIr : List Str := ["value", "parts", "names", "part"]
theorem scIr : FnScope nIr ["value"] (defScope sIr) := ⟨rfl, rfl, rfl, by decide +kernel, rfl, by decide +kernel, by decide +kernel⟩
def spIr : Sp := fun vs H Q _ => ∃ (r : Addr) (c : Int) (ps : List Part) (xs : List Str), vs = [.ref r] ∧ ReqAt H r c ps ∧ Valid xs c ps ∧ ∀ H', Same H H' → Q (.bl true) H'
theorem ok_isreq {f f1 f2 f3 f4 f5 : Addr} {fd fd1 fd2 fd3 fd4 fd5 : FuncData} {k : Nat} (F : Fun K "is_requirement" "is_requirement" sIr f fd) (T : Bq mg)
    (F1 : Fun K "is_counted_tuple" "is_counted_tuple" sCt f1 fd1) (b1 : Binds K fd1 ["value"] []) (g1 : mg "is_counted_tuple" = some (.ref f1)) (G1 : FnOk P w K mg base CX0 k f1 fd1 ["value"] spCt)
    (F2 : Fun K "is_name" "is_name" sIn f2 fd2) (b2 : Binds K fd2 ["value"] []) (g2 : mg "is_name" = some (.ref f2)) (G2 : FnOk P w K mg base CX0 k f2 fd2 ["value"] (spIn K))
    (F3 : Fun K "is_simple_requirement" "is_simple_requirement" sSr f3 fd3) (b3 : Binds K fd3 ["value"] []) (g3 : mg "is_simple_requirement" = some (.ref f3)) (G3 : FnOk P w K mg base CX0 k f3 fd3 ["value"] spSr)
    (F4 : Fun K "has_duplicates" "has_duplicates" sHd f4 fd4) (b4 : Binds K fd4 ["parts"] []) (g4 : mg "has_duplicates" = some (.ref f4)) (G4 : FnOk P w K mg base CX0 k f4 fd4 ["parts"] (spHd K))
    (F5 : Fun K "names_with_repetition" "names_with_repetition" sNwr f5 fd5) (b5 : Binds K fd5 ["requirement"] []) (g5 : mg "names_with_repetition" = some (.ref f5)) (G5 : FnOk P w K mg base CX0 k f5 fd5 ["requirement"] (spNwr fun _ => True)) :
    FnOk P w K mg base CX0 (k + 1) f fd ["value"] spIr := by
  obtain ⟨uN, mN, rN⟩ := T.mostn
  obtain ⟨uD, mD, rD⟩ := T.mostd
  refine F.ok scIr (fun vs H Q E h => ?_) (fun cdv A outer s H vs Q E hr h => ?_)
  · obtain ⟨r, c, ps, xs, rfl, _⟩ := h
    rfl
  · obtain ⟨r, c, ps, xs, rfl, R, V0, q⟩ := h
    refine ⟨_, pss_cons (ps_if (pt_not (pt_val (pe_call G1 hr (by rfl) g1 F1.kp b1 .nil pass0 (pa_cons (pv 0) pa_nil)))) (pss_one (ps_ret pe_bl)) pss_nil)
      (pss_cons (ps_set (i := 1) scIr.nd rfl (Or.inl rfl) (pe_ix ix_tup (pv 0) pe_int (fun _ _ => rfl)))
      (pss_cons (ps_if (pt_not (pt_val (pe_callB (cr_all rfl) (by rfl) T.all (by decide +kernel) (pa_cons (pe_lc (own := [("part", 3)]) (g := gName 3) (tt := tYes) (by rfl) scIr.nd (pi_tup (pv 1)) (blkOk_by (N := nIr) (sc := defScope sIr) (by decide +kernel))
          (fun _ _ _ _ _ => pg_name (i := 3) scIr.nd rfl (Or.inl rfl)) (fun _ _ _ _ _ => pts_nil)
          (fun _ _ _ _ _ => pe_or (pe_call G2 hr (by rfl) g2 F2.kp b2 .nil pass0 (pa_cons (pv 3) pa_nil)) (pe_one (pe_call G3 hr (by rfl) g3 F3.kp b3 .nil pass0 (pa_cons (pv 3) pa_nil))))) pa_nil)))) (pss_one (ps_ret pe_bl)) pss_nil)
      (pss_cons (ps_if (pt_val (pe_call G4 hr (by rfl) g4 F4.kp b4 .nil pass0 (pa_cons (pv 1) pa_nil))) (pss_one (ps_ret pe_bl)) pss_nil)
      (pss_cons (ps_set (i := 2) scIr.nd rfl (Or.inl rfl) (pe_call G5 hr (by rfl) g5 F5.kp b5 .nil pass0 (pa_cons (pv 0) pa_nil)))
      (pss_one (ps_ret (pe_and (pe_cmpR op_le (pe_callB call_len_seq (by rfl) T.T.len PySem.boot_len (pa_cons (pv 2) pa_nil)) (pe_glob (by rfl) mN rN) (nomark _))
        (pe_one (pe_cmpR op_le (pe_callB cr_txtLen2 (by rfl) T.T.len PySem.boot_len (pa_cons (pe_callTy (cr_txtSetA rfl) (by rfl) T.T.set (by decide +kernel) (pa_cons (pv 2) pa_nil)) pa_nil)) (pe_glob (by rfl) mD rD) (nomark _)))))))))), ?_⟩
    obtain ⟨p, ws, hr1, hp1, PS⟩ := id R
    have l12 := V0.len
    have wl := PS.length
    refine ⟨.ref r, rfl, r, p, c, _, rfl, hr1, hp1, V0.c1, by rw [wl]; exact V0.c2, _, rfl, iteF ?_⟩
    refine ⟨.ref r, rfl, r, _, 1, .ref p, rfl, rfl, SqT.of hr1, atI_nat (j := 1) rfl, ?_⟩
    refine ⟨.ref p, rfl, p, rfl, ⟨_, hp1.seq⟩, fun D nD => lc_tup (K := K) (a := p) (xs := ws) (fun i H1 => Same H H1 ∧ H1 D = some (.lst (((ps.take i).map fun _ => true).map V.bl))) ⟨same_new nD, upd_same⟩ (fun i H1 _ h => (hp1.tups (Same.tups h.1)).seq) ?_ ?_⟩
    · rintro i x H1 hx ⟨s1, hD⟩
      obtain ⟨pt, hpt, pa⟩ := PS.at hx
      have mem : pt ∈ ps := List.mem_of_getElem? hpt
      have tk : ps.take (i + 1) = ps.take i ++ [pt] := by
        rw [List.take_add_one, hpt]
        rfl
      have fin : ∀ H2, Same H1 H2 → ∃ acc, H2 D = some (.lst acc) ∧ acc.length < sizeLine ∧ Same H (upd H2 D (.lst (acc ++ [.bl true]))) ∧ upd H2 D (.lst (acc ++ [.bl true])) D = some (.lst (((ps.take (i + 1)).map fun _ => true).map V.bl)) := fun H2 s2 => by
        refine ⟨_, s2 _ _ hD, ?_, fun d o e => ?_, ?_⟩
        · rw [List.length_map, List.length_map, List.length_take]
          exact small1000 (by omega)
        · rw [upd_ne (ne_of_none e nD)]
          exact s2 _ _ (s1 d o e)
        · rw [upd_same, tk, List.map_append, List.map_append]
          rfl
      have pa1 := pa.tups (Same.tups s1).tup
      cases pt with
      | inl z =>
        cases pa
        exact ⟨rfl, .str z, rfl, .inl ⟨z, rfl, V0.nm z (V0.sub z (mem_names mem List.mem_cons_self)), fun H2 s2 => ⟨_, rfl, iteT (fin H2 s2)⟩⟩⟩
      | inr y =>
        obtain ⟨d, ns⟩ := y
        obtain ⟨a, b, rfl, ha, hb⟩ := pa1
        exact ⟨rfl, .ref a, rfl, .inr ⟨a, rfl, .base (.tup ha), _, rfl, iteF ⟨.ref a, rfl, a, b, d, ns, rfl, ha, hb, V0.inn d ns mem, fun H2 s2 => fin H2 s2⟩⟩⟩
    · rintro H1 ⟨s1, hD⟩
      refine ⟨D, _, rfl, SqL.of hD, ?_⟩
      rw [all_true]
      refine ⟨_, rfl, iteF ?_⟩
      have dup : (∃ zs : List Str, NodesAt K H1 p zs ∧ zs.length < 64 ∧ zs.Nodup) ∨ ∃ (ws : List V) (ps : List Part), GTp H1 p ws ∧ Parts H1 ws ps ∧ ps.length < 63 ∧ ps.Nodup := by
        rcases hp1 with ⟨o, g, e⟩ | ⟨e, ns, rfl⟩
        · exact .inr ⟨ws, ps, ⟨o, g, s1 _ _ e⟩, PS.tups (Same.tups s1).tup, by omega, V0.nd⟩
        · have en : ps = ns.map Sum.inl := by
            clear V0 l12 wl q e hD R hr1 s1 nD
            have : ∀ {us : List V} {qs : List Part}, Parts H us qs → ∀ ms : List Str, us = ms.map V.str → qs = ms.map Sum.inl := by
              intro us qs h
              induction h with
              | nil =>
                intro ms e
                cases ms with
                | nil => rfl
                | cons _ _ => cases e
              | @cons v vs p ps a _ ih =>
                intro ms e
                cases ms with
                | nil => cases e
                | cons y ms =>
                  rw [List.map_cons] at e
                  injection e with e1 e2
                  subst e1
                  rw [ih ms e2]
                  cases p with
                  | inl z =>
                    have a : V.str y = .str z := a
                    injection a with a
                    rw [a]
                    rfl
                  | inr z =>
                    obtain ⟨d, l⟩ := z
                    obtain ⟨_, _, e, _⟩ := a
                    cases e
            exact this PS ns rfl
          refine .inl ⟨ns, .inr (SqT.of (s1 _ _ e)), ?_, ?_⟩
          · have := l12
            rw [en, List.length_map] at this
            omega
          · have := V0.nd
            rw [en] at this
            exact List.Pairwise.of_map Sum.inl (fun a b ne e => ne (congrArg Sum.inl e)) this
      refine ⟨.ref p, rfl, p, rfl, dup, fun H2 s2 => ⟨_, rfl, iteF ?_⟩⟩
      have s02 := s1.trans s2
      have n12 := V0.nam
      refine ⟨.ref r, rfl, r, c, ps, rfl, R.tups (Same.tups s02), trivial, by omega, fun l H3 s3 nl hl => ?_⟩
      refine ⟨.ref l, rfl, l, _, rfl, .inl (SqL.of hl), _, _, rfl, rfl, _, rfl, ?_⟩
      rw [List.length_map, decide_eq_true (show (((namesOf ps).length : Nat) : Int) ≤ 12 by omega)]
      refine iteT ⟨.ref l, rfl, l, namesOf ps, rfl, .inl (SqL.of hl), by omega, fun a m na hm => ⟨a, _, m, rfl, upd_same, by omega, fun most => ⟨_, _, rfl, rfl, ?_⟩⟩⟩
      have le := most xs fun k hk => V0.sub k (of_decide_eq_true hk)
      have f8 := V0.few
      show Q (.bl (decide ((m : Int) ≤ 8))) _
      rw [decide_eq_true (show (m : Int) ≤ 8 by omega)]
      exact q _ ((s02.trans s3).trans (same_new na))
end
end Moot
namespace Moot
open PySem PySem.Spec PyProof.Rows L2
/-- more of the builtins -/
structure Bn (mg : Str → Option Value) : Prop where
  any : mg "any" = none
  dict : mg "dict" = none
theorem nd_len {α : Type} [DecidableEq α] : ∀ (l D : List α), l.Nodup → (∀ y ∈ l, y ∈ D) → l.length ≤ D.length
  | [], _, _, _ => Nat.zero_le _
  | y :: l, D, n, s => by
    obtain ⟨n1, n2⟩ := List.nodup_cons.mp n
    have my := s y List.mem_cons_self
    have := nd_len l (D.erase y) n2 fun z mz => (List.mem_erase_of_ne fun (e : z = y) => n1 (e ▸ mz)).mpr (s z (List.mem_cons_of_mem _ mz))
    have e := List.length_erase_of_mem my
    have := List.length_pos_of_mem my
    rw [List.length_cons]
    omega
/-! one sorted list of the same names -/
theorem lt_tr {a b c : List Nat} (h1 : ltCps b a = false) (h2 : ltCps c b = false) : ltCps c a = false := by
  rw [ltCps_eq] at h1 h2 ⊢
  have h1' : ¬ b < a := of_decide_eq_false h1
  have h2' : ¬ c < b := of_decide_eq_false h2
  exact decide_eq_false (List.not_lt.mpr (List.le_trans (List.not_lt.mp h1') (List.not_lt.mp h2')))
theorem rising_all : ∀ {r : List Str} {x : Str}, risingS x r = true → (∀ y ∈ r, ltCps y.cps.toList x.cps.toList = false) ∧ r.Pairwise fun a b => ltCps b.cps.toList a.cps.toList = false
  | [], _, _ => ⟨fun y m => by simp at m, List.Pairwise.nil⟩
  | z :: r, x, h => by
    have h' : (!ltCps z.cps.toList x.cps.toList && risingS z r) = true := h
    rw [Bool.and_eq_true, Bool.not_eq_true'] at h'
    obtain ⟨a, b⟩ := rising_all h'.2
    refine ⟨fun y m => ?_, List.pairwise_cons.mpr ⟨a, b⟩⟩
    rcases List.mem_cons.mp m with e | m
    · rw [e]
      exact h'.1
    · exact lt_tr h'.1 (a y m)
theorem sorted_pairs {l : List Str} (h : sortedS l = true) : l.Pairwise fun a b => ltCps b.cps.toList a.cps.toList = false := by
  cases l with
  | nil => exact List.Pairwise.nil
  | cons x r => exact List.pairwise_cons.mpr (rising_all h)
abbrev Srt (L : List Str) : Prop := L.Pairwise fun a b => ltCps b.cps.toList a.cps.toList = false
theorem srt_one {a b : List Str} (ha : Srt a) (na : a.Nodup) (hb : Srt b) (nb : b.Nodup) (h : ∀ x, x ∈ a ↔ x ∈ b) : a = b := by
  refine List.Perm.eq_of_pairwise (fun x y _ _ h1 h2 => ?_) ha hb ((List.perm_ext_iff_of_nodup na nb).mpr h)
  rw [ltCps_eq] at h1 h2
  have h1' : ¬ y.cps.toList < x.cps.toList := of_decide_eq_false h1
  have h2' : ¬ x.cps.toList < y.cps.toList := of_decide_eq_false h2
  have e := List.le_antisymm (List.not_lt.mp h1') (List.not_lt.mp h2')
  rcases x with ⟨x⟩
  rcases y with ⟨y⟩
  have : x = y := Array.toList_inj.mp e
  rw [this]
section
variable {P : Program} {w : World} {K : PySem.W.Frag} {mg : Str → Option Value} {base : Heap}
/-! of node sets -/
def spNs2 (K : PySem.W.Frag) : Sp := fun vs H Q _ => ∃ (l : Addr) (zs : List Str), vs = [.ref l] ∧ NodesAt K H l zs ∧ zs.length < 64 ∧
  ∀ (p : Addr) (ys : List Str) (H' : Hp), Same H H' → H p = none → H' p = some (.tup (ys.map V.str)) → Srt ys → ys.Nodup → (∀ x, x ∈ ys ↔ x ∈ zs) → Q (.ref p) H'
theorem ok_ns2 {f : Addr} {fd : FuncData} {k : Nat} (F : Fun K "node_set" "node_set" sNs f fd) (T : Bq mg) : FnOk P w K mg base CX0 (k + 1) f fd ["names"] (spNs2 K) := by
  refine F.ok scNs (fun vs H Q E h => ?_) (fun cdv A outer s H vs Q E hr h => ?_)
  · obtain ⟨l, zs, rfl, _⟩ := h
    rfl
  · obtain ⟨l, zs, rfl, hl, few, q⟩ := h
    refine ⟨_, pss_one (ps_ret (pe_callTy call_tuple_of (by rfl) T.T.tup (by decide +kernel) (pa_cons (pe_callB (cr_txtSorted rfl) (by rfl) T.T.srt (by decide +kernel)
      (pa_cons (pe_callTy (cr_txtSetA rfl) (by rfl) T.T.set (by decide +kernel) (pa_cons (pv 0) pa_nil)) pa_nil)) pa_nil))), ?_⟩
    refine ⟨.ref l, rfl, l, zs, rfl, hl, few, fun a m na hm => ?_⟩
    refine ⟨a, _, m, rfl, upd_same, by omega, fun ys p srt nd mem len np => ?_⟩
    refine ⟨p, _, rfl, .inl ⟨SqL.of upd_same, fun t nt => ?_⟩⟩
    have s1 := same_new (o := TxtSet P w a (fun k => decide (k ∈ zs)) m) na
    have s2 := same_new (o := .lst (ys.map V.str)) np
    have s3 := same_new (o := .tup (ys.map V.str)) nt
    exact q t ys _ ((s1.trans s2).trans s3) ((s1.trans s2).free nt) upd_same (sorted_pairs srt) nd fun x => (mem x).trans (by simp)

end
/-! tuple(d), d a dict; a dict comprehension over a list -/
section
variable {X : Cx}
def rTupD : List V → Hp → VK → Prop := fun xs H Q => ∃ (p : Addr) (kvs : List (L2.Key × V)), xs = [.ref p] ∧ H p = some (.dK kvs) ∧ ∀ q, H q = none → Q (.ref q) (upd H q (.tup (kvs.map fun kv => kV kv.1)))
theorem call_tuple_dK (hc : X.calm = true) : CallR X (.type "tuple") rTupD := by
  intro pins s σ H xs us Q I r h
  obtain ⟨p, kvs, rfl, hk, q⟩ := h
  obtain ⟨u, rfl, rx⟩ := vals1 r
  cases rx
  obtain ⟨z, lo, vs, rk, hd⟩ := (show ObjOk X.prog X.w H s.heap p (.dK kvs) from I.hok p _ hk)
  obtain ⟨ep, hat⟩ := hd.dictAt
  have hl : kvs.length = vs.length := Paired.length rk
  have ht : s.TypeIs (.ref p) "dict" := by
    obtain ⟨o, es, ep', e1, e2, _⟩ := hd
    exact ⟨o, e1, e2.1⟩
  refine callType_codes (Q₁ := fun obj s₁ => s₁.TypeIs obj "tuple" ∧ EP X pins σ Q obj s₁) F.called_tuple (F.typeCall_tuple_1 _) F.entry_object_init ?_ fun obj s₁ h₁ => ?_
  · refine codeAny_of_tree ?_
    show wpAny _ _ (do checkBuiltinCall "tuple.__new__" ⟨[.type "tuple", .ref p], []⟩; again (.builtin "tuple.__new__" ⟨[.type "tuple", .ref p], []⟩)) _ _ s
    refine wpAny_bind (wpAny_of_eq (F.newCall_tuple_1 _) (wpAny_pure ⟨plainId_quiet F.plain_tuple_new _, codeAny_builtin F.entry_tuple_new ?_⟩))
    rw [Around.under_plainId F.plain_tuple_new _]
    have hsub := sub_tuple_self
    have hinit := init_tuple_lookup
    have hmh := madeHere_tuple
    have src := PySem.W.kdl_dict (prog := X.prog) (w := X.w) (knd := mixKind X.prog X.w) (kvs := vs) (ep := ep) lo
    unfold Builtin.«tuple.__new__»
    generalize hcol : collect = col
    wp_walk using wpAny_typeOf ht
    subst hcol
    refine PySem.W.kdu_collect src (I.ok.hd hc) hat (by rw [← hl]; exact z) fun h' tk acc hkeep hacc => ?_
    have el : acc.toList.length = vs.length := by rw [Array.length_toList, hacc.1]
    have vals : Vals (kvs.map fun kv => kV kv.1) acc.toList := by
      have e := keys_at el fun j v e => hacc.2 j v (by rw [← Array.getElem?_toList]; exact e)
      have e2 : (vs.map fun p => kV p.1) = kvs.map fun kv => kV kv.1 := by
        have e3 := congrArg (List.map kV) (KV.keys rk)
        rw [List.map_map, List.map_map] at e3
        exact e3.symm
      rw [e2] at e
      exact e
    have I1 : Inv X pins σ H { s with heap := h', toks := tk } := I.kept hkeep
    show wpAny _ _ (Builtin.Tuple.tupleExact acc.toList.toArray >>= fun v => ret v) _ _ _
    unfold Builtin.Tuple.tupleExact
    refine wpAny_bind (wpAny_newObj_type ?_ (by show acc.toList.toArray.size ≤ sizeLine; rw [List.size_toArray, el, ← hl]; exact z))
    refine wpAny_pure ⟨⟨_, Heap.get?_push_size _ rfl, rfl⟩, .ref _, _, I1.laid (t' := tk) (o := .tup (kvs.map fun kv => kV kv.1)) (fun b ob q => Heap.get?_push_of_some _ q) (Nat.le_refl _) ?_, rfl, q _ (I1.hok.fresh (Nat.le_refl _))⟩
    exact ⟨by rw [List.length_map]; exact z, acc.toList, vals, ⟨_, Heap.get?_push_size _ rfl, rfl, 0, rfl⟩⟩
  · exact ⟨h₁.1, F.args_object_init_2 obj _, object_init_meets F.called_tuple.init.lookup F.called_tuple.made (by decide) X.prog X.w X.A.in1 _ s₁ ⟨h₁.1, rfl, h₁.2⟩⟩
end
theorem dc_it {J : It} {n : Nat} {G : Hp → Prop} {Y : Nat → Hp → V → Hp → Prop} (wk : Walk J n G Y) {g : TG} {tt : TT} {tk tv : TE} {vs : List Nat} {σ : L2.St} {H1 : Hp} {D : Addr} {Qd : Hp → Prop} (Pv : Nat → Hp → Prop) (h0 : Pv 0 (upd H1 D (.dK []))) (hG : ∀ i H, i ≤ n → Pv i H → G H)
    (hs : ∀ i x H H', i < n → Pv i H → Y i H x H' → g x (wipe σ vs) H' fun σ2 H2 => wipe σ2 vs = wipe σ vs ∧ tt σ2 H2 fun b H3 =>
      if b = true then tk σ2 H3 fun y H4 => tv σ2 H4 fun z H5 => ∃ kvs k, y = kV k ∧ H5 D = some (.dK kvs) ∧ kvs.length < sizeLine ∧ Pv (i + 1) (upd H5 D (.dK (putK kvs k z))) else Pv (i + 1) H3) (hd : ∀ H, Pv n H → Qd H) :
    ∃ W : Nat → Nat → Hp → Prop, (∃ m, W 0 m (upd H1 D (.dK []))) ∧ ∀ i m H, W i m H →
      (J.stop i H ∧ Qd H) ∨ (J.go i H ∧ ∃ Nx : Hp → Prop, (∀ H', Nx H' → ∃ m', m' < m ∧ W (i + 1) m' H') ∧ ∀ x H', J.yld i H x H' → g x (wipe σ vs) H' fun σ2 H2 => wipe σ2 vs = wipe σ vs ∧ tt σ2 H2 fun b H3 =>
        if b = true then tk σ2 H3 fun y H4 => tv σ2 H4 fun z H5 => ∃ kvs k, y = kV k ∧ H5 D = some (.dK kvs) ∧ kvs.length < sizeLine ∧ Nx (upd H5 D (.dK (putK kvs k z))) else Nx H3) := by
  refine ⟨fun i m H => m + i = n ∧ Pv i H, ⟨n, rfl, h0⟩, ?_⟩
  rintro i m H ⟨e, p⟩
  have q := hG i H (by omega) p
  by_cases lt : i < n
  · exact .inr ⟨wk.goes i H lt q, Pv (i + 1), fun H' p' => ⟨n - (i + 1), by omega, by omega, p'⟩, fun x H' y => hs i x H H' lt p (wk.yields i H x H' lt q y)⟩
  · obtain rfl : i = n := by omega
    exact .inl ⟨wk.stops H q, hd H p⟩
end Moot
namespace Moot
open PySem PySem.Spec PyProof.Rows L2
/-- what each name requires -/
abbrev Rq := Str → Int × List Part
/-! a dict from names to requirements -/
abbrev Rws := List (Str × Addr)
def kvs (rs : Rws) : List (L2.Key × V) := rs.map fun p => ((Sum.inr p.1 : L2.Key), V.ref p.2)
theorem kvs_len (rs : Rws) : (kvs rs).length = rs.length := List.length_map _
theorem val_in : ∀ {rs : Rws} {y : Str}, y ∈ rs.map (·.1) → ∃ r, (y, r) ∈ rs ∧ valV (kvs rs) (Sum.inr y : L2.Key) = some (.ref r)
  | [], _, h => by cases h
  | (x, r) :: rs, y, h => by
    by_cases e : x = y
    · subst e
      exact ⟨r, List.mem_cons_self, valV_pos (p := ((Sum.inr x : L2.Key), V.ref r)) rfl⟩
    · have m : y ∈ rs.map (·.1) := by
        rcases List.mem_cons.mp h with h | h
        · exact absurd h.symm e
        · exact h
      obtain ⟨r', m', e'⟩ := val_in m
      refine ⟨r', List.mem_cons_of_mem _ m', ?_⟩
      show valV (((Sum.inr x : L2.Key), V.ref r) :: kvs rs) (Sum.inr y : L2.Key) = _
      rw [← e']
      unfold valV
      rw [List.find?_cons_of_neg (by simpa using e)]
theorem val_out {rs : Rws} {y : Str} (h : y ∉ rs.map (·.1)) : valV (kvs rs) (Sum.inr y : L2.Key) = none := by
  unfold valV kvs
  rw [List.find?_eq_none.mpr]
  · rfl
  · intro p mp
    obtain ⟨q, mq, rfl⟩ := List.mem_map.mp mp
    simp
    intro e
    exact h (List.mem_map.mpr ⟨q, mq, e⟩)
/-- rows as a list of pairs -/
def RowsAt (H : Hp) (ts : List Addr) (rs : Rws) : Prop := ts.length = rs.length ∧ ∀ (i : Nat) (t : Addr), ts[i]? = some t → ∃ x r, rs[i]? = some (x, r) ∧ Rd H t (.tup [.str x, .ref r])
theorem RowsAt.same {H H' : Hp} {ts : List Addr} {rs : Rws} (h : RowsAt H ts rs) (s : Same H H') : RowsAt H' ts rs := ⟨h.1, fun i t e => let ⟨x, r, h1, h2⟩ := h.2 i t e; ⟨x, r, h1, h2.imp (fun e => s _ _ e) fun ⟨o, e⟩ => ⟨o, s _ _ e⟩⟩⟩
section
variable {P : Program} {w : World} {K : PySem.W.Frag} {mg : Str → Option Value} {base : Heap}
/-! requirements_by_name -/
abbrev sRb : Stmt := top 23
abbrev nRb : List Str := ["rows", "requirements", "name", "requirement"]
theorem scRb : FnScope nRb ["rows"] (defScope sRb) := ⟨rfl, rfl, rfl, by decide +kernel, rfl, by decide +kernel, by decide +kernel⟩
/-- what rows of this kind keep -/
structure Fit (H : Hp) (c : Rq) (xs : List Str) (rs : Rws) : Prop where
  nd : xs.Nodup
  few : xs.length ≤ 8
  nm : ∀ x ∈ xs, Nm x
  ok : ∀ x ∈ xs, Valid xs (c x).1 (c x).2
  keys : (rs.map (·.1)).Perm xs
  each : ∀ q ∈ rs, ReqAt H q.2 (c q.1).1 (c q.1).2
theorem Fit.same {H H' : Hp} {c : Rq} {xs : List Str} {rs : Rws} (h : Fit H c xs rs) (s : Same H H') : Fit H' c xs rs := { h with each := fun q m => (h.each q m).tups (Same.tups s) }
theorem Fit.len {H : Hp} {c : Rq} {xs : List Str} {rs : Rws} (h : Fit H c xs rs) : rs.length = xs.length := by
  have := h.keys.length_eq
  rwa [List.length_map] at this
def spRb (K : PySem.W.Frag) : Sp := fun vs H Q _ => ∃ (l : Addr) (ts : List Addr) (rs : Rws) (c : Rq) (xs : List Str), vs = [.ref l] ∧ SqL K H l (ts.map V.ref) ∧ RowsAt H ts rs ∧ Fit H c xs rs ∧ ∀ (D : Addr) (H' : Hp), Same H H' → H D = none → H' D = some (.dK (kvs rs)) → Q (.ref D) H'
theorem ok_byname {f f1 f2 : Addr} {fd fd1 fd2 : FuncData} {k : Nat} (F : Fun K "requirements_by_name" "requirements_by_name" sRb f fd) (T : Bq mg)
    (F1 : Fun K "is_name" "is_name" sIn f1 fd1) (b1 : Binds K fd1 ["value"] []) (g1 : mg "is_name" = some (.ref f1)) (G1 : FnOk P w K mg base CX0 k f1 fd1 ["value"] (spIn K))
    (F2 : Fun K "is_requirement" "is_requirement" sIr f2 fd2) (b2 : Binds K fd2 ["value"] []) (g2 : mg "is_requirement" = some (.ref f2)) (G2 : FnOk P w K mg base CX0 k f2 fd2 ["value"] spIr) :
    FnOk P w K mg base CX0 (k + 1) f fd ["rows"] (spRb K) := by
  refine F.ok scRb (fun vs H Q E h => ?_) (fun cdv A outer s H vs Q E hr h => ?_)
  · obtain ⟨l, ts, rs, c, xs, rfl, _⟩ := h
    rfl
  · obtain ⟨l, ts, rs, c, xs, rfl, hl, ra, fit, q⟩ := h
    have hu := hu_of hr
    refine ⟨_, pss_cons (ps_set (i := 1) scRb.nd rfl (Or.inl rfl) pe_dnewK)
      (pss_cons (ps_for PassesOwn.never rfl (pi_list (pv 0)) (pg_tup (by rfl) (pgs_cons (pg_name (i := 2) scRb.nd rfl (Or.inl rfl)) (pgs_cons (pg_name (i := 3) scRb.nd rfl (Or.inl rfl)) pgs_nil)))
        (pss_cons (ps_if (pt_not (pt_val (pe_call G1 hr (by rfl) g1 F1.kp b1 .nil pass0 (pa_cons (pv 2) pa_nil)))) (pss_one ps_never) pss_nil)
        (pss_cons (ps_if (pt_cmp (pc_din hu (pv 2) (pv 1))) (pss_one ps_never) pss_nil)
        (pss_cons (ps_if (pt_not (pt_val (pe_call G2 hr (by rfl) g2 F2.kp b2 .nil pass0 (pa_cons (pv 3) pa_nil)))) (pss_one ps_never) pss_nil)
        (pss_one (ps_dput hu (pv 1) (pv 2) (pv 3) rfl))))))
      (pss_one (ps_ret (pv 1)))), ?_⟩
    intro D nD
    have flen := fit.len
    have few := fit.few
    have knd : (rs.map (·.1)).Nodup := fit.keys.nodup_iff.mpr fit.nd
    refine ⟨.ref l, rfl, l, rfl, ⟨_, Same.seq (same_new nD) hl⟩, for_list (K := K) (a := l) (xs := ts.map V.ref) (fun i σ H1 => ∃ (y2 y3 : Option V), σ = [some (.ref l), some (.ref D), y2, y3] ∧ Same H H1 ∧ H1 D = some (.dK (kvs (rs.take i)))) ?_ ?_ ?_ ?_⟩
    · exact ⟨none, none, rfl, same_new nD, upd_same⟩
    · rintro i σ H1 _ ⟨_, _, _, s1, _⟩
      exact Same.seq s1 hl
    · rintro i y σ H1 hy ⟨y2, y3, rfl, s1, hD⟩
      rw [List.getElem?_map] at hy
      obtain ⟨t, ht, rfl⟩ := Option.map_eq_some_iff.mp hy
      obtain ⟨x, r, hxr, htt⟩ := ra.2 i t ht
      have mem : (x, r) ∈ rs := List.mem_of_getElem? hxr
      have tk : rs.take (i + 1) = rs.take i ++ [(x, r)] := by
        rw [List.take_add_one, hxr]
        rfl
      have xin : x ∈ xs := fit.keys.mem_iff.mp (List.mem_map.mpr ⟨_, mem, rfl⟩)
      have new : x ∉ (rs.take i).map (·.1) := by
        intro m
        have e : rs.map (·.1) = (rs.take i).map (·.1) ++ (rs.drop i).map (·.1) := by rw [← List.map_append, List.take_append_drop]
        rw [e] at knd
        refine (List.nodup_append.mp knd).2.2 x m x ?_ rfl
        refine List.mem_map.mpr ⟨(x, r), ?_, rfl⟩
        exact List.mem_of_getElem? (i := 0) (by rw [List.getElem?_drop]; exact hxr)
      refine ⟨t, _, rfl, .inl (htt.imp (fun e => s1 _ _ e) fun ⟨o, e⟩ => ⟨o, s1 _ _ e⟩), rfl, _, _, rfl, _, _, rfl, rfl, ?_⟩
      refine ⟨.str x, rfl, .inl ⟨x, rfl, fit.nm x xin, fun H2 s2 => ⟨_, rfl, iteF ?_⟩⟩⟩
      have hD2 := s2 _ _ hD
      refine ⟨.str x, rfl, .ref D, rfl, D, _, rfl, DGet.k (k := Sum.inr x) hD2, _, rfl, ?_⟩
      rw [val_out new]
      refine iteF ?_
      have u2 : ReqAt H2 r (c x).1 (c x).2 := (fit.each _ mem).tups (Same.tups (s1.trans s2))
      refine ⟨.ref r, rfl, r, _, _, xs, rfl, u2, fit.ok x xin, fun H3 s3 => ⟨_, rfl, iteF ?_⟩⟩
      have hD3 := s3 _ _ hD2
      refine ⟨.ref r, rfl, .ref D, rfl, .str x, rfl, D, _, rfl, DPut.k (k := Sum.inr x) hD3 ?_, ?_⟩
      · rw [kvs_len, List.length_take]
        exact small1000 (by omega)
      · refine ⟨_, _, rfl, fun d o e => ?_, ?_⟩
        · rw [upd_ne (ne_of_none e nD)]
          exact s3 _ _ (s2 _ _ (s1 d o e))
        · rw [upd_same, putK_new _ (val_out new), tk]
          show some (HO.dK (kvs (rs.take i) ++ _)) = some (HO.dK ((rs.take i ++ [(x, r)]).map _))
          rw [List.map_append]
          rfl
    · rintro σ H1 ⟨y2, y3, rfl, s1, hD⟩
      rw [List.length_map, ra.1, List.take_length] at hD
      exact ⟨.ref D, rfl, q D H1 s1 nD hD⟩
end
end Moot
namespace Moot
open PySem PySem.Spec PyProof.Rows L2
/-- all but what stands at D stays -/
def But (D : Addr) (H H' : Hp) : Prop := ∀ b o, H b = some o → b ≠ D → H' b = some o
theorem But.refl (D : Addr) (H : Hp) : But D H H := fun _ _ e _ => e
theorem But.same {D : Addr} {H H1 H2 : Hp} (b : But D H H1) (s : Same H1 H2) : But D H H2 := fun c o e n => s c o (b c o e n)
theorem but_upd {D : Addr} {H : Hp} {o : HO} : But D H (upd H D o) := fun b u e n => by rw [upd_ne n]; exact e
theorem But.req {D : Addr} {H H' : Hp} {o : HO} {r : Addr} {c : Int} {ps : List Part} (b : But D H H') (hD : H D = some o) (no : (∀ xs, o ≠ .tup xs) ∧ ∀ u x, o ≠ .frz u x) (h : ReqAt H r c ps) : ReqAt H' r c ps :=
  h.tups ⟨fun a xs e => b _ _ e fun z => by rw [z, hD] at e; cases e; exact no.1 _ rfl, fun a u x e => b _ _ e fun z => by rw [z, hD] at e; cases e; exact no.2 _ _ rfl⟩
section
variable {P : Program} {w : World} {K : PySem.W.Frag} {mg : Str → Option Value} {base : Heap}
/-! check_names_used -/
abbrev sCu : Stmt := top 24
abbrev nCu : List Str := ["requirements", "name", "used"]
theorem scCu : FnScope nCu ["requirements"] (defScope sCu) := ⟨rfl, rfl, rfl, by decide +kernel, rfl, by decide +kernel, by decide +kernel⟩
def spCu : Sp := fun vs H Q _ => ∃ (D : Addr) (rs : Rws) (c : Rq) (xs : List Str), vs = [.ref D] ∧ H D = some (.dK (kvs rs)) ∧ Fit H c xs rs ∧ ∀ H', Same H H' → Q .non H'
theorem ok_used {f f1 : Addr} {fd fd1 : FuncData} {k : Nat} (F : Fun K "check_names_used" "check_names_used" sCu f fd) (T : Bq mg)
    (F1 : Fun K "names_in" "names_in" sNin f1 fd1) (b1 : Binds K fd1 ["requirement"] []) (g1 : mg "names_in" = some (.ref f1)) (G1 : FnOk P w K mg base CX0 k f1 fd1 ["requirement"] spNin) : FnOk P w K mg base CX0 (k + 1) f fd ["requirements"] spCu := by
  refine F.ok scCu (fun vs H Q E h => ?_) (fun cdv A outer s H vs Q E hr h => ?_)
  · obtain ⟨D, rs, c, xs, rfl, _⟩ := h
    rfl
  · obtain ⟨D, rs, c, xs, rfl, hD, fit, q⟩ := h
    have hu := hu_of hr
    refine ⟨_, pss_one (ps_lock (ps_for PassesOwn.never rfl (pi_keys (pv 0)) (pg_name (i := 1) scCu.nd rfl (Or.inl rfl))
      (pss_one (ps_for PassesOwn.never rfl (pi_tup (pe_call G1 hr (by rfl) g1 F1.kp b1 .nil pass0 (pa_cons (pe_dget hu (pv 0) (pv 1) (fun _ _ => rfl)) pa_nil))) (pg_name (i := 2) scCu.nd rfl (Or.inl rfl))
        (pss_one (ps_if (pt_cmp (pc_dnotin hu (pv 2) (pv 0))) (pss_one ps_never) pss_nil)))))), ?_⟩
    refine ⟨D, _, hD, trivial, fun od => ?_⟩
    have bt : But D H (upd H D (.frz od (.dK (kvs rs)))) := but_upd
    have hF : upd H D (.frz od (.dK (kvs rs))) D = some (.frz od (.dK (kvs rs))) := upd_same
    generalize upd H D (.frz od (.dK (kvs rs))) = H1 at bt hF ⊢
    refine ⟨.ref D, rfl, D, od, rfl, .inl ⟨_, hF, ?_⟩⟩
    refine for_it walk_keys (fun i σ H2 => ∃ y1 y2 : Option V, σ = [some (.ref D), y1, y2] ∧ But D H H2 ∧ H2 D = some (.frz od (.dK (kvs rs)))) ⟨none, none, rfl, bt, hF⟩ (fun i σ H2 _ ⟨_, _, _, _, h⟩ => h) ?_ ?_
    · rintro i x σ H2 H2' hi ⟨y1, y2, rfl, bt2, hF2⟩ ⟨rfl, kk, vv, hkv, rfl⟩
      obtain ⟨⟨x, r⟩, hxr, e⟩ : ∃ q, rs[i]? = some q ∧ ((Sum.inr q.1 : L2.Key), V.ref q.2) = (kk, vv) := by
        unfold kvs at hkv
        rw [List.getElem?_map] at hkv
        obtain ⟨q, h1, h2⟩ := Option.map_eq_some_iff.mp hkv
        exact ⟨q, h1, h2⟩
      cases e
      have mem : (x, r) ∈ rs := List.mem_of_getElem? hxr
      obtain ⟨r', mem', hv⟩ := val_in (rs := rs) (y := x) (List.mem_map.mpr ⟨_, mem, rfl⟩)
      have R := bt2.req hD ⟨fun _ z => (by cases z), fun _ _ z => (by cases z)⟩ (fit.each _ mem')
      have ok := fit.ok x (fit.keys.mem_iff.mp (List.mem_map.mpr ⟨_, mem', rfl⟩))
      have few := ok.nam
      refine ⟨.ref D, rfl, .str x, rfl, D, _, rfl, .inl ⟨_, Sum.inr x, .inr ⟨od, hF2⟩, rfl, hv.symm⟩, ?_⟩
      refine ⟨r', (c x).1, (c x).2, rfl, R, by omega, fun p ys H3 s3 np hp srt nd mem3 => ?_⟩
      refine ⟨p, rfl, ⟨_, SqT.of hp⟩, for_tup (K := K) (a := p) (xs := ys.map V.str) (fun j σ H4 => H4 = H3 ∧ ∃ y2 : Option V, σ = [some (.ref D), some (.str x), y2]) ⟨rfl, _, rfl⟩ (fun j σ H4 _ ⟨e, _⟩ => by rw [e]; exact SqT.of hp) ?_ ?_⟩
      · rintro j y σ H4 hy ⟨rfl, y2', rfl⟩
        rw [List.getElem?_map] at hy
        obtain ⟨z, hz, rfl⟩ := Option.map_eq_some_iff.mp hy
        have mz : z ∈ rs.map (·.1) := by
          exact fit.keys.mem_iff.mpr (ok.sub z ((mem3 z).mp (List.mem_of_getElem? hz)))
        obtain ⟨r2, _, hv2⟩ := val_in mz
        refine ⟨.str z, rfl, .ref D, rfl, D, _, rfl, .inl ⟨_, Sum.inr z, .inr ⟨od, s3 _ _ hF2⟩, rfl, hv2.symm⟩, _, rfl, iteF ⟨rfl, _, rfl⟩⟩
      · rintro σ H4 ⟨rfl, y2', rfl⟩
        exact ⟨_, _, rfl, bt2.same s3, s3 _ _ hF2⟩
    · rintro σ H2 ⟨y1, y2, rfl, bt2, hF2⟩
      refine ⟨hF2, q _ fun b o e => ?_⟩
      by_cases eb : b = D
      · subst eb
        rw [hD] at e
        cases e
        exact upd_same
      · rw [upd_ne eb]
        exact bt2 b o e eb
/-! Network -/
structure Txt (K : PySem.W.Frag) (mg : Str → Option Value) (C : Addr) : Prop where
  cl : Cls K C
  nR : NoAttr K C "requirements"
  mgC : mg "Network" = some (.ref C)
abbrev fld (D : Addr) : List (Str × V) := [("requirements", V.ref D)]
theorem fld_get (D : Addr) : (fld D).lookup ("requirements" : Str) = some (.ref D) := by
  have e : fld D = putF "requirements" (V.ref D) [] := rfl
  rw [e, lookup_putF, if_pos rfl]
/-- a network -/
structure NetAt (C : Addr) (H : Hp) (net D : Addr) (c : Rq) (xs : List Str) (rs : Rws) : Prop where
  ob : ∃ dx, H net = some (.ins C dx (fld D))
  dc : H D = some (.dK (kvs rs))
  fit : Fit H c xs rs
  srt : Srt (rs.map (·.1))
theorem NetAt.same {C : Addr} {H H' : Hp} {net D : Addr} {c : Rq} {xs : List Str} {rs : Rws} (h : NetAt C H net D c xs rs) (s : Same H H') : NetAt C H' net D c xs rs :=
  ⟨let ⟨dx, e⟩ := h.ob; ⟨dx, s _ _ e⟩, s _ _ h.dc, h.fit.same s, h.srt⟩
abbrev sNi : Stmt := inClass (top 25) 0
abbrev nNi : List Str := ["self", "rows", "requirements", "name"]
theorem scNi : FnScope nNi ["self", "rows"] (defScope sNi) := ⟨rfl, rfl, rfl, by decide +kernel, rfl, by decide +kernel, by decide +kernel⟩
def spNi (K : PySem.W.Frag) (C : Addr) : Sp := fun vs H Q _ => ∃ (net dx l : Addr) (ts : List Addr) (rs : Rws) (c : Rq) (xs : List Str), vs = [.ref net, .ref l] ∧ H net = some (.ins C dx []) ∧ SqL K H l (ts.map V.ref) ∧ RowsAt H ts rs ∧ Fit H c xs rs ∧
  ∀ (D : Addr) (rs' : Rws) (H' : Hp), NetAt C H' net D c xs rs' → (∀ q ∈ rs', q ∈ rs) → But net H H' → Q .non H'
theorem pairs_of {rs : Rws} : ∀ (ys : List Str), (∀ y ∈ ys, y ∈ rs.map (·.1)) → ∃ rs' : Rws, rs'.map (·.1) = ys ∧ (∀ q ∈ rs', q ∈ rs ∧ valV (kvs rs) (Sum.inr q.1 : L2.Key) = some (.ref q.2))
  | [], _ => ⟨[], rfl, fun q m => by cases m⟩
  | y :: ys, h => by
    obtain ⟨r, m, e⟩ := val_in (h y List.mem_cons_self)
    obtain ⟨rs', e1, e2⟩ := pairs_of (rs := rs) ys fun z mz => h z (List.mem_cons_of_mem _ mz)
    refine ⟨(y, r) :: rs', by rw [List.map_cons, e1], fun q mq => ?_⟩
    rcases List.mem_cons.mp mq with rfl | mq
    · exact ⟨m, e⟩
    · exact e2 q mq
theorem ok_netinit {f C f1 f2 e : Addr} {fd fd1 fd2 : FuncData} {k : Nat} (F : FunD K "__init__" "Network.__init__" (defArgs sNi) (defBody sNi) (defScope sNi) [.ref e] [] f fd) (T : Bq mg) (X : Txt K mg C)
    (F1 : Fun K "requirements_by_name" "requirements_by_name" sRb f1 fd1) (b1 : Binds K fd1 ["rows"] []) (g1 : mg "requirements_by_name" = some (.ref f1)) (G1 : FnOk P w K mg base CX0 k f1 fd1 ["rows"] (spRb K))
    (F2 : Fun K "check_names_used" "check_names_used" sCu f2 fd2) (b2 : Binds K fd2 ["requirements"] []) (g2 : mg "check_names_used" = some (.ref f2)) (G2 : FnOk P w K mg base CX0 k f2 fd2 ["requirements"] spCu) :
    FnOk P w K mg base CX0 (k + 1) f fd ["self", "rows"] (spNi K C) := by
  refine F.ok scNi (fun vs H Q E h => ?_) (fun cdv A outer s H vs Q E hr h => ?_)
  · obtain ⟨net, dx, l, ts, rs, c, xs, rfl, _⟩ := h
    rfl
  · obtain ⟨net, dx, l, ts, rs, c, xs, rfl, hn, hl, ra, fit, q⟩ := h
    have hu := hu_of hr
    refine ⟨_, pss_cons (ps_set (i := 2) scNi.nd rfl (Or.inr rfl) (pe_call G1 hr (by rfl) g1 F1.kp b1 .nil pass0 (pa_cons (pv 1) pa_nil)))
      (pss_cons (ps_expr (pe_call G2 hr (by rfl) g2 F2.kp b2 .nil pass0 (pa_cons (pv 2) pa_nil)))
      (pss_one (ps_fld (pv 0) (pe_dc (own := [("name", 3)]) (g := gName 3) (tt := tYes) (by rfl) scNi.nd (pi_list (pe_callB (call_sortedD rfl) (by rfl) T.T.srt (by decide +kernel) (pa_cons (pv 2) pa_nil))) (blkOk_by (N := nNi) (sc := defScope sNi) (by decide +kernel))
        (fun _ _ _ _ _ => pg_name (i := 3) scNi.nd rfl (Or.inl rfl)) (fun _ _ _ _ _ => pts_nil) (fun _ _ _ _ _ => pv 3) (fun _ _ _ _ _ => pe_dget hu (pv 2) (pv 3) (fun _ _ => rfl))) rfl))), ?_⟩
    refine ⟨.ref l, rfl, l, ts, rs, c, xs, rfl, hl, ra, fit, fun D H1 s1 nD hD => ?_⟩
    refine ⟨.ref D, rfl, D, rs, c, xs, rfl, hD, fit.same s1, fun H2 s2 => ?_⟩
    have hD2 := s2 _ _ hD
    have flen := fit.len
    have few := fit.few
    refine ⟨.ref D, rfl, D, _, rs.map (·.1), rfl, .inl hD2, by unfold kvs; rw [List.map_map, List.map_map]; rfl, by rw [List.length_map]; omega, fun ys p pm srt np => ?_⟩
    have s3 := same_new (o := .lst (ys.map V.str)) np
    have hp : (upd H2 p (.lst (ys.map V.str))) p = some (.lst (ys.map V.str)) := upd_same
    generalize upd H2 p (.lst (ys.map V.str)) = H3 at s3 hp ⊢
    obtain ⟨rs', e1, e2⟩ := pairs_of (rs := rs) ys fun y my => pm.mem_iff.mp my
    have nd1 : (rs.map (·.1)).Nodup := fit.keys.nodup_iff.mpr fit.nd
    have nd2 : ys.Nodup := pm.nodup_iff.mpr nd1
    have l2 : rs'.length = ys.length := by rw [← e1, List.length_map]
    refine ⟨p, rfl, ⟨_, SqL.of hp⟩, fun D2 nD2 => ?_⟩
    refine dc_it (walk_list (K := K) (a := p) (xs := ys.map V.str)) (fun i H4 => Same H3 H4 ∧ H4 D2 = some (.dK (kvs (rs'.take i)))) ⟨same_new nD2, upd_same⟩ (fun i H4 _ h => SqL.of (h.1 _ _ hp)) ?_ ?_
    · rintro i x H4 H4' hi ⟨s4, hD4⟩ ⟨rfl, hx⟩
      rw [List.getElem?_map] at hx
      obtain ⟨y, hy, rfl⟩ := Option.map_eq_some_iff.mp hx
      obtain ⟨r, hr'⟩ : ∃ r, rs'[i]? = some (y, r) := by
        rw [← e1, List.getElem?_map] at hy
        obtain ⟨⟨y', r⟩, h1, h2⟩ := Option.map_eq_some_iff.mp hy
        cases h2
        exact ⟨r, h1⟩
      have val := (e2 _ (List.mem_of_getElem? hr')).2
      have tk : rs'.take (i + 1) = rs'.take i ++ [(y, r)] := by
        rw [List.take_add_one, hr']
        rfl
      have new : y ∉ (rs'.take i).map (·.1) := by
        intro m
        have e : rs'.map (·.1) = (rs'.take i).map (·.1) ++ (rs'.drop i).map (·.1) := by rw [← List.map_append, List.take_append_drop]
        rw [← e1, e] at nd2
        refine (List.nodup_append.mp nd2).2.2 y m y ?_ rfl
        exact List.mem_map.mpr ⟨(y, r), List.mem_of_getElem? (i := 0) (by rw [List.getElem?_drop]; exact hr'), rfl⟩
      have hDD := s4 _ _ (s3 _ _ hD2)
      refine ⟨rfl, .str y, rfl, .ref D, rfl, .str y, rfl, D, _, rfl, .inl ⟨_, Sum.inr y, .inl hDD, rfl, val.symm⟩, _, Sum.inr y, rfl, hD4, ?_, fun b o eb => ?_, ?_⟩
      · rw [kvs_len, List.length_take]
        have := pm.length_eq
        rw [List.length_map] at this
        exact small1000 (by omega)
      · rw [upd_ne (ne_of_none eb nD2)]
        exact s4 b o eb
      · rw [upd_same, putK_new _ (val_out new), tk]
        show some (HO.dK (kvs (rs'.take i) ++ _)) = some (HO.dK ((rs'.take i ++ [(y, r)]).map _))
        rw [List.map_append]
        rfl
    · rintro H4 ⟨s4, hD4⟩
      rw [List.length_map, ← l2, List.take_length] at hD4
      have s04 : Same H H4 := ((s1.trans s2).trans s3).trans s4
      have nD2n : D2 ≠ net := (ne_of_none (s3 _ _ (s2 _ _ (s1 _ _ hn))) nD2).symm
      refine ⟨.ref net, rfl, net, C, dx, [], rfl, s04 _ _ hn, X.cl, X.nR, by show 0 < 1000; decide, ?_⟩
      have bt : But net H (upd H4 net (.ins C dx (putF "requirements" (.ref D2) []))) := fun b o eb nb => by
        rw [upd_ne nb]
        exact s04 b o eb
      have unis : ∀ r c' ps, ReqAt H r c' ps → ReqAt (upd H4 net (.ins C dx (putF "requirements" (.ref D2) []))) r c' ps := fun r c' ps u => bt.req hn ⟨fun _ z => (by cases z), fun _ _ z => (by cases z)⟩ u
      refine q D2 rs' _ ⟨⟨dx, upd_same⟩, ?_, ⟨fit.nd, fit.few, fit.nm, fit.ok, ?_, fun q mq => unis _ _ _ (fit.each _ (e2 q mq).1)⟩, ?_⟩ (fun q mq => (e2 q mq).1) bt
      · rw [upd_ne nD2n]
        exact hD4
      · rw [e1]
        exact pm.trans fit.keys
      · rw [e1]
        exact sorted_pairs srt
/-! node_names -/
abbrev sNn : Stmt := inClass (top 25) 3
theorem scNn : FnScope ["self"] ["self"] (defScope sNn) := ⟨rfl, rfl, rfl, by decide +kernel, rfl, by decide +kernel, by decide +kernel⟩
def spNn (C : Addr) : Sp := fun vs H Q _ => ∃ (net D : Addr) (c : Rq) (xs : List Str) (rs : Rws), vs = [.ref net] ∧ NetAt C H net D c xs rs ∧ ∀ (p : Addr) (H' : Hp), Same H H' → H p = none → H' p = some (.tup ((rs.map (·.1)).map V.str)) → Q (.ref p) H'
theorem ok_nodenames {f C : Addr} {fd : FuncData} {k : Nat} (F : Fun K "node_names" "Network.node_names" sNn f fd) (T : Bq mg) (X : Txt K mg C) : FnOk P w K mg base CX0 (k + 1) f fd ["self"] (spNn C) := by
  refine F.ok scNn (fun vs H Q E h => ?_) (fun cdv A outer s H vs Q E hr h => ?_)
  · obtain ⟨net, D, c, xs, rs, rfl, _⟩ := h
    rfl
  · obtain ⟨net, D, c, xs, rs, rfl, N, q⟩ := h
    refine ⟨_, pss_one (ps_ret (pe_callTy (call_tuple_dK rfl) (by rfl) T.T.tup (by decide +kernel) (pa_cons (pe_fld (pv 0) rfl) pa_nil))), ?_⟩
    obtain ⟨dx, hn⟩ := N.ob
    refine ⟨.ref net, rfl, net, C, dx, _, _, rfl, hn, X.cl, X.nR, fld_get D, D, _, rfl, N.dc, fun p np => ?_⟩
    have e : (kvs rs).map (fun kv => kV kv.1) = (rs.map (·.1)).map V.str := by
      unfold kvs
      rw [List.map_map, List.map_map]
      rfl
    rw [e]
    exact q p _ (same_new np) np upd_same
/-! check_nodes -/
abbrev sCn : Stmt := inClass (top 25) 5
abbrev nCn : List Str := ["self", "names", "name"]
theorem scCn : FnScope nCn ["self", "names"] (defScope sCn) := ⟨rfl, rfl, rfl, by decide +kernel, rfl, by decide +kernel, by decide +kernel⟩
def spCn (K : PySem.W.Frag) (C : Addr) : Sp := fun vs H Q _ => ∃ (net D a : Addr) (c : Rq) (xs : List Str) (rs : Rws) (S : List Str), vs = [.ref net, .ref a] ∧ NetAt C H net D c xs rs ∧ NodesAt K H a S ∧ (∀ x ∈ S, x ∈ xs) ∧ Q .non H
end
end Moot
namespace Moot
open PySem PySem.Spec PyProof.Rows L2
theorem pi_or {X : Cx} {tg e : Expr} {w1 w2 : TI} (h1 : PI X tg e w1) (h2 : PI X tg e w2) : PI X tg e (fun σ H R => w1 σ H R ∨ w2 σ H R) :=
  ⟨fun pins s σ H R I h => h.elim (h1.run pins s σ H R I) (h2.run pins s σ H R I)⟩
theorem fld_no (D : Addr) {m : Str} (h : ¬ m = "requirements") : (fld D).lookup m = none := by
  have e : fld D = putF "requirements" (V.ref D) [] := rfl
  rw [e, lookup_putF, if_neg h]
  rfl
/-- whether a set satisfies what a name requires -/
def okN (c : Rq) (x : Str) (S : List Str) : Bool := sat S (c x).1 (c x).2
/-- what first_removable gives -/
def frV (c : Rq) (R Fs : List Str) : V := match R.find? fun x => !okN c x (R ++ Fs) with
  | some x => .str x
  | none => .non
theorem Valid.short {xs : List Str} {c : Int} {ps : List Part} (h : Valid xs c ps) : Short ps := fun d ns m => by
  have := (h.inn d ns m).2.2.1
  omega
section
variable {P : Program} {w : World} {K : PySem.W.Frag} {mg : Str → Option Value} {base : Heap}
theorem ok_checknodes {f C : Addr} {fd : FuncData} {k : Nat} (F : Fun K "check_nodes" "Network.check_nodes" sCn f fd) (T : Bq mg) (X : Txt K mg C) : FnOk P w K mg base CX0 (k + 1) f fd ["self", "names"] (spCn K C) := by
  refine F.ok scCn (fun vs H Q E h => ?_) (fun cdv A outer s H vs Q E hr h => ?_)
  · obtain ⟨net, D, a, c, xs, rs, S, rfl, _⟩ := h
    rfl
  · obtain ⟨net, D, a, c, xs, rs, S, rfl, N, ha, sub, q⟩ := h
    have hu := hu_of hr
    obtain ⟨dx, hn⟩ := N.ob
    refine ⟨_, pss_one (ps_for PassesOwn.never rfl (pi_or (pi_list (pv 1)) (pi_tup (pv 1))) (pg_name (i := 2) scCn.nd rfl (Or.inl rfl))
      (pss_one (ps_if (pt_cmp (pc_dnotin hu (pv 2) (pe_fld (pv 0) rfl))) (pss_one ps_never) pss_nil))), ?_⟩
    rcases ha with ha | ha
    · refine .inl ⟨.ref a, rfl, a, rfl, ⟨_, ha⟩, for_it (walk_list (K := K) (a := a) (xs := S.map V.str)) (fun i σ H1 => H1 = H ∧ ∃ y2 : Option V, σ = [some (.ref net), some (.ref a), y2]) ⟨rfl, none, rfl⟩ (fun i σ H1 _ ⟨e, _⟩ => by rw [e]; exact ha) ?_ ?_⟩
      · rintro i y σ H1 H2 hi ⟨rfl, y2, rfl⟩ ⟨rfl, hy⟩
        rw [List.getElem?_map] at hy
        obtain ⟨z, hz, rfl⟩ := Option.map_eq_some_iff.mp hy
        obtain ⟨r, _, hv⟩ := val_in (N.fit.keys.mem_iff.mpr (sub z (List.mem_of_getElem? hz)))
        exact ⟨.str z, rfl, .ref net, rfl, net, C, dx, _, _, rfl, hn, X.cl, X.nR, fld_get D, D, _, rfl, .inl ⟨_, Sum.inr z, .inl N.dc, rfl, hv.symm⟩, _, rfl, iteF ⟨rfl, _, rfl⟩⟩
      · rintro σ H1 ⟨rfl, y2, rfl⟩
        exact q
    · refine .inr ⟨.ref a, rfl, a, rfl, ⟨_, ha⟩, for_it (walk_tup (K := K) (a := a) (xs := S.map V.str)) (fun i σ H1 => H1 = H ∧ ∃ y2 : Option V, σ = [some (.ref net), some (.ref a), y2]) ⟨rfl, none, rfl⟩ (fun i σ H1 _ ⟨e, _⟩ => by rw [e]; exact ha) ?_ ?_⟩
      · rintro i y σ H1 H2 hi ⟨rfl, y2, rfl⟩ ⟨rfl, hy⟩
        rw [List.getElem?_map] at hy
        obtain ⟨z, hz, rfl⟩ := Option.map_eq_some_iff.mp hy
        obtain ⟨r, _, hv⟩ := val_in (N.fit.keys.mem_iff.mpr (sub z (List.mem_of_getElem? hz)))
        exact ⟨.str z, rfl, .ref net, rfl, net, C, dx, _, _, rfl, hn, X.cl, X.nR, fld_get D, D, _, rfl, .inl ⟨_, Sum.inr z, .inl N.dc, rfl, hv.symm⟩, _, rfl, iteF ⟨rfl, _, rfl⟩⟩
      · rintro σ H1 ⟨rfl, y2, rfl⟩
        exact q
/-! requirement_of -/
abbrev sRo : Stmt := inClass (top 25) 7
theorem scRo : FnScope ["self", "name"] ["self", "name"] (defScope sRo) := ⟨rfl, rfl, rfl, by decide +kernel, rfl, by decide +kernel, by decide +kernel⟩
def spRo (C : Addr) : Sp := fun vs H Q _ => ∃ (net D : Addr) (c : Rq) (xs : List Str) (rs : Rws) (x : Str), vs = [.ref net, .str x] ∧ NetAt C H net D c xs rs ∧ x ∈ xs ∧ ∀ (r : Addr) (H' : Hp), Same H H' → ReqAt H' r (c x).1 (c x).2 → Q (.ref r) H'
theorem ok_reqof {f f1 C : Addr} {fd fd1 : FuncData} {k : Nat} (F : Fun K "requirement_of" "Network.requirement_of" sRo f fd) (T : Bq mg) (X : Txt K mg C) (M1 : Meth K C "check_nodes" f1) (b1 : Binds K fd1 ["self", "names"] []) (G1 : FnOk P w K mg base CX0 k f1 fd1 ["self", "names"] (spCn K C)) :
    FnOk P w K mg base CX0 (k + 1) f fd ["self", "name"] (spRo C) := by
  refine F.ok scRo (fun vs H Q E h => ?_) (fun cdv A outer s H vs Q E hr h => ?_)
  · obtain ⟨net, D, c, xs, rs, x, rfl, _⟩ := h
    rfl
  · obtain ⟨net, D, c, xs, rs, x, rfl, N, mx, q⟩ := h
    have hu := hu_of hr
    obtain ⟨dx, hn⟩ := N.ob
    refine ⟨_, pss_cons (ps_expr (pe_meth (pv 0) X.cl M1 G1 hr b1 .nil pass0 (pa_cons (pe_lst (pa_cons (pv 1) pa_nil)) pa_nil)))
      (pss_one (ps_ret (pe_dget hu (pe_fld (pv 0) rfl) (pv 1) (fun _ _ => rfl)))), ?_⟩
    refine ⟨.ref net, rfl, net, dx, _, rfl, hn, fld_no D (by decide +kernel), .str x, rfl, by show 1 ≤ sizeLine; decide, fun l nl => ?_⟩
    have s1 := same_new (o := .lst [.str x]) nl
    have hl : (upd H l (.lst [.str x])) l = some (.lst ([x].map V.str)) := upd_same
    generalize upd H l (.lst [.str x]) = H1 at s1 hl ⊢
    have N1 := N.same s1
    obtain ⟨dx1, hn1⟩ := N1.ob
    obtain ⟨r, mr, hv⟩ := val_in (N1.fit.keys.mem_iff.mpr mx)
    refine ⟨net, D, l, c, xs, rs, [x], rfl, N1, .inl (SqL.of hl), fun y my => by rw [List.mem_singleton.mp my]; exact mx, ?_⟩
    exact ⟨.ref net, rfl, net, C, dx1, _, _, rfl, hn1, X.cl, X.nR, fld_get D, .str x, rfl, D, _, rfl, .inl ⟨_, Sum.inr x, .inl N1.dc, rfl, hv.symm⟩, q r H1 s1 (N1.fit.each _ mr)⟩
end
end Moot
namespace Moot
open PySem PySem.Spec PyProof.Rows L2
theorem cut_from (ys : List Str) {j : Int} (h : 0 ≤ j) : cutV (ys.map V.str) (some j) none = (ys.drop j.toNat).map V.str := by
  obtain ⟨n, rfl⟩ := Int.eq_ofNat_of_zero_le h
  unfold cutV
  rw [HT.sIx_none, HT.sIx_nat, List.length_map]
  show ((ys.map V.str).drop (min n ys.length)).take (ys.length - min n ys.length) = _
  rw [← List.map_drop, ← List.map_take]
  congr 1
  rw [List.take_of_length_le (by rw [List.length_drop]; exact Nat.le_refl _)]
  rw [Nat.min_def]
  split
  · rfl
  · rw [List.drop_eq_nil_of_le (Nat.le_refl _), List.drop_eq_nil_of_le (by show ys.length ≤ n; omega)]
/-- a requirement of names alone -/
theorem names_valid {xs zs : List Str} {c : Int} (few : xs.length ≤ 8) (nm : ∀ x ∈ xs, Nm x) (nd : zs.Nodup) (sub : ∀ z ∈ zs, z ∈ xs) (c1 : 1 ≤ c) (c2 : c ≤ (zs.length : Int)) : Valid xs c (zs.map Sum.inl) := by
  have l : zs.length ≤ xs.length := nd_len zs xs nd sub
  refine ⟨c1, by rw [List.length_map]; exact c2, inl_nodup nd, by rw [namesOf_names]; omega, few, fun x m => ?_, nm, fun d ns m => ?_⟩
  · rw [namesOf_names] at m
    exact sub x m
  · obtain ⟨z, _, e⟩ := List.mem_map.mp m
    cases e
theorem fine_valid {xs : List Str} {c : Int} {ps : List Part} (few : xs.length ≤ 8) (nd : xs.Nodup) (nm : ∀ x ∈ xs, Nm x) (fine : Fine xs 12 12 ps) (c1 : 1 ≤ c) (c2 : c ≤ (ps.length : Int)) : Valid xs c ps := by
  refine ⟨c1, c2, fine.nd nd, fine.nam, few, ?_, nm, fun d ns m => ?_⟩
  · intro x m
    have go : ∀ {qs : List Part}, (∀ p ∈ qs, Good xs p) → ∀ x ∈ namesOf qs, x ∈ xs := by
      intro qs
      induction qs with
      | nil => intro _ x m; cases m
      | cons p qs ih =>
        intro g x m
        cases p with
        | inl y =>
          rcases List.mem_cons.mp (show x ∈ y :: namesOf qs from m) with e | m
          · rw [e]
            exact g _ List.mem_cons_self
          · exact ih (fun p m => g p (List.mem_cons_of_mem _ m)) x m
        | inr y =>
          rcases List.mem_append.mp (show x ∈ y.2 ++ namesOf qs from m) with m | m
          · exact (g _ List.mem_cons_self).2.2.2.2.2 x m
          · exact ih (fun p m => g p (List.mem_cons_of_mem _ m)) x m
    exact go fine.all x m
  · have g := fine.all _ m
    exact ⟨g.2.2.1, g.2.2.2.1, by have := g.2.1; omega, g.2.2.2.2.1 nd, fun x mx => nm x (g.2.2.2.2.2 x mx)⟩
/-- some requirement that is as it must be -/
def Some1 (H : Hp) (xs : List Str) (r : Addr) : Prop := ∃ d ps, ReqAt H r d ps ∧ Valid xs d ps
theorem Some1.tups {H H' : Hp} {xs : List Str} {r : Addr} (h : Some1 H xs r) (t : Tups H H') : Some1 H' xs r := let ⟨d, ps, a, b⟩ := h; ⟨d, ps, a.tups t, b⟩
theorem fit_of {H : Hp} {xs : List Str} {rs : Rws} (nd : xs.Nodup) (few : xs.length ≤ 8) (nm : ∀ x ∈ xs, Nm x) (keys : rs.map (·.1) = xs) (each : ∀ q ∈ rs, Some1 H xs q.2) : ∃ c : Rq, Fit H c xs rs := by
  have one : ∀ y : Str, ∃ dp : Int × List Part, ∀ r, (y, r) ∈ rs → ReqAt H r dp.1 dp.2 ∧ Valid xs dp.1 dp.2 := fun y => by
    by_cases m : y ∈ xs
    · rw [← keys] at m
      obtain ⟨⟨y', r⟩, mr, rfl⟩ := List.mem_map.mp m
      obtain ⟨d, ps, a, b⟩ := each _ mr
      refine ⟨(d, ps), fun r' mr' => ?_⟩
      have e : r' = r := by
        have uniq : ∀ {l : Rws}, (l.map (·.1)).Nodup → (y', r) ∈ l → (y', r') ∈ l → r' = r := by
          intro l
          induction l with
          | nil => intro _ h; cases h
          | cons q l ih =>
            intro n h1 h2
            obtain ⟨n1, n2⟩ := List.nodup_cons.mp n
            rcases List.mem_cons.mp h1 with e1 | h1 <;> rcases List.mem_cons.mp h2 with e2 | h2
            · rw [← e1] at e2
              exact (Prod.mk.inj e2).2
            · exact absurd (List.mem_map.mpr ⟨_, h2, rfl⟩) (by rw [← e1] at n1; exact n1)
            · exact absurd (List.mem_map.mpr ⟨_, h1, rfl⟩) (by rw [← e2] at n1; exact n1)
            · exact ih n2 h1 h2
        exact uniq (by rw [keys]; exact nd) mr mr'
      subst e
      exact ⟨a, b⟩
    · exact ⟨(0, []), fun r mr => absurd (by rw [← keys]; exact List.mem_map.mpr ⟨_, mr, rfl⟩) m⟩
  refine ⟨fun y => Classical.choose (one y), ⟨nd, few, nm, fun x mx => ?_, by rw [keys], fun q mq => ?_⟩⟩
  · rw [← keys] at mx
    obtain ⟨⟨y', r⟩, mr, rfl⟩ := List.mem_map.mp mx
    exact (Classical.choose_spec (one y') r mr).2
  · exact (Classical.choose_spec (one q.1) q.2 mq).1
theorem RowsAt.tups {H H' : Hp} {ts : List Addr} {rs : Rws} (h : RowsAt H ts rs) (t : Tups H H') : RowsAt H' ts rs := ⟨h.1, fun i a e => let ⟨x, r, h1, h2⟩ := h.2 i a e; ⟨x, r, h1, h2.imp (fun e => t.tup _ _ e) fun ⟨o, e⟩ => ⟨o, t.frz _ _ _ e⟩⟩⟩
theorem RowsAt.snoc {H : Hp} {ts : List Addr} {rs : Rws} {p r : Addr} {x : Str} (h : RowsAt H ts rs) (e : H p = some (.tup [.str x, .ref r])) : RowsAt H (ts ++ [p]) (rs ++ [(x, r)]) := by
  refine ⟨by rw [List.length_append, List.length_append, h.1]; rfl, fun j tj hj => ?_⟩
  by_cases lt : j < ts.length
  · rw [List.getElem?_append_left lt] at hj
    obtain ⟨x', r', h1, h2⟩ := h.2 j tj hj
    exact ⟨x', r', by rw [List.getElem?_append_left (by rw [← h.1]; exact lt)]; exact h1, h2⟩
  · rw [List.getElem?_append_right (by omega)] at hj
    have l2 := (List.getElem?_eq_some_iff.mp hj).1
    rw [List.length_singleton] at l2
    have j0 : j - ts.length = 0 := by omega
    rw [j0] at hj
    cases hj
    exact ⟨x, r, by rw [List.getElem?_append_right (by rw [← h.1]; omega), ← h.1, j0]; rfl, .inl e⟩
theorem RowsAt.put {H : Hp} {ts : List Addr} {rs : Rws} {p r : Addr} {x : Str} {j : Nat} (h : RowsAt H ts rs) (hj : j < ts.length) (e : H p = some (.tup [.str x, .ref r])) : RowsAt H (ts.set j p) (rs.set j (x, r)) := by
  refine ⟨by rw [List.length_set, List.length_set, h.1], fun i ti hi => ?_⟩
  by_cases eq : j = i
  · subst eq
    rw [List.getElem?_set_self hj] at hi
    cases hi
    exact ⟨x, r, List.getElem?_set_self (by rw [← h.1]; exact hj), .inl e⟩
  · rw [List.getElem?_set_ne eq] at hi
    obtain ⟨x', r', h1, h2⟩ := h.2 i ti hi
    exact ⟨x', r', by rw [List.getElem?_set_ne eq]; exact h1, h2⟩
section
variable {P : Program} {w : World} {K : PySem.W.Frag} {mg : Str → Option Value} {base : Heap}
/-! _law_rows -/
abbrev sRows : Stmt := top 34
abbrev nRows : List Str := ["_law_box_here", "_law_most", "_law_names_here", "_law_core", "_law_way", "_law_rows_here", "_law_at", "_law_ring", "_law_some_here"]
theorem scRows : FnScope nRows ["_law_box_here", "_law_most"] (defScope sRows) := ⟨rfl, rfl, rfl, by decide +kernel, rfl, by decide +kernel, by decide +kernel⟩
def spRows : Sp := fun vs H Q _ => ∃ (b g m : Addr) (n most : Nat), vs = [.ref b, .int most] ∧ Box H b g m n ∧ n ≤ 700000 ∧ 1 ≤ most ∧ most ≤ 8 ∧
  ∀ (l : Addr) (ts : List Addr) (rs : Rws) (c : Rq) (xs : List Str) (H' : Hp), H l = none → H' l = some (.lst (ts.map V.ref)) → RowsAt H' ts rs → Fit H' c xs rs → 1 ≤ xs.length → xs.length ≤ most → Box H' b g m (n + 3000) → Keep b g H H' → Q (.ref l) H'
theorem ok_rows {f f1 f2 f3 : Addr} {fd fd1 fd2 fd3 : FuncData} {k : Nat} (F : Fun K "_law_rows" "_law_rows" sRows f fd)
    (FT : Fun K "_law_take" "_law_take" sTake f1 fd1) (bT : Binds K fd1 ["_law_box_here", "_law_size"] []) (gT : mg "_law_take" = some (.ref f1)) (GT : FnOk P w K mg base CX0 k f1 fd1 ["_law_box_here", "_law_size"] spTake)
    (FN : Fun K "_law_names" "_law_names" sNames f2 fd2) (bN : Binds K fd2 ["_law_box_here", "_law_many"] []) (gN : mg "_law_names" = some (.ref f2)) (GN : FnOk P w K mg base CX0 k f2 fd2 ["_law_box_here", "_law_many"] spNames)
    (FR : Fun K "_law_requirement" "_law_requirement" sReq f3 fd3) (bR : Binds K fd3 ["_law_box_here", "_law_names_here"] []) (gR : mg "_law_requirement" = some (.ref f3)) (GR : FnOk P w K mg base CX0 k f3 fd3 ["_law_box_here", "_law_names_here"] spReq) (T : Blt mg) :
    FnOk P w K mg base CX0 (k + 1) f fd ["_law_box_here", "_law_most"] spRows := by
  refine F.ok scRows (fun vs H Q E h => ?_) (fun cdv A outer s H vs Q E hr h => ?_)
  · obtain ⟨b, g, m, n, most, rfl, _⟩ := h
    rfl
  · obtain ⟨b, g, m, n, most, rfl, B, hn, m1, m8, q⟩ := h
    refine ⟨_, pss_cons (ps_set (i := 2) scRows.nd rfl (Or.inl rfl) (pe_call GN hr (by rfl) gN FN.kp bN .nil pass0 (pa_cons (pv 0) (pa_cons (pe_op op_add pe_int (pe_call GT hr (by rfl) gT FT.kp bT .nil pass0 (pa_cons (pv 0) (pa_cons (pv 1) pa_nil)))) pa_nil))))
      (pss_cons (ps_set (i := 3) scRows.nd rfl (Or.inl rfl) (pe_callTy call_tuple_of (by rfl) T.tup (by decide +kernel) (pa_cons (pe_slice sl_list (pv 2) po_none (po_some (pe_callB (call_max2 rfl) (by rfl) T.max (by decide +kernel) (pa_cons pe_int (pa_cons (pe_op op_sub (pe_callB call_len_seq (by rfl) T.len PySem.boot_len (pa_cons (pv 2) pa_nil)) (pe_call GT hr (by rfl) gT FT.kp bT .nil pass0 (pa_cons (pv 0) (pa_cons pe_int pa_nil)))) pa_nil))))) pa_nil)))
      (pss_cons (ps_set (i := 4) scRows.nd rfl (Or.inl rfl) (pe_call GT hr (by rfl) gT FT.kp bT .nil pass0 (pa_cons (pv 0) (pa_cons pe_int pa_nil))))
      (pss_cons (ps_set (i := 5) scRows.nd rfl (Or.inl rfl) (pe_lst pa_nil))
      (pss_cons (ps_for PassesOwn.never rfl (pi_range1 rfl T.rng (pa_cons (pe_callB call_len_seq (by rfl) T.len PySem.boot_len (pa_cons (pv 2) pa_nil)) pa_nil)) (pg_name (i := 6) scRows.nd rfl (Or.inl rfl))
        (pss_cons (ps_set (i := 7) scRows.nd rfl (Or.inl rfl) (pe_callTy call_tuple_of (by rfl) T.tup (by decide +kernel) (pa_cons (pe_slice sl_list (pe_op op_cat (pe_slice sl_list (pv 2) (po_some (pv 6)) po_none) (pe_slice sl_list (pv 2) po_none (po_some (pv 6)))) po_none (po_some pe_int)) pa_nil)))
        (pss_cons (ps_set (i := 8) scRows.nd rfl (Or.inl rfl) (pe_lst (pa_cons (pe_tup (pa_cons (pe_op op_add (pe_op op_fdiv (pe_op op_mul pe_int (pe_callB call_len_seq (by rfl) T.len PySem.boot_len (pa_cons (pv 3) pa_nil))) pe_int) pe_int) (pa_cons (pv 3) pa_nil)))
            (pa_cons (pe_tup (pa_cons (pe_op op_add (pe_op op_fdiv (pe_callB call_len_seq (by rfl) T.len PySem.boot_len (pa_cons (pv 3) pa_nil)) pe_int) pe_int) (pa_cons (pv 3) pa_nil)))
            (pa_cons (pe_tup (pa_cons (pe_callB (call_min2 rfl) (by rfl) T.min (by decide +kernel) (pa_cons pe_int (pa_cons (pe_callB call_len_seq (by rfl) T.len PySem.boot_len (pa_cons (pv 7) pa_nil)) pa_nil))) (pa_cons (pv 7) pa_nil))) pa_nil)))))
        (pss_one (ps_expr (pe_bm PySem.F.plainAttrs_list PySem.F.slot_list_append PySem.F.type_list_append mt_append (pv 5) (pa_cons (pe_tup (pa_cons (pe_ix ix_list (pv 2) (pv 6) (fun _ _ => rfl))
            (pa_cons (pe_ix ix_list (pe_op op_cat (pv 8) (pe_lst (pa_cons (pe_call GR hr (by rfl) gR FR.kp bR .nil pass0 (pa_cons (pv 0) (pa_cons (pv 2) pa_nil))) pa_nil))) (pv 4) (fun _ _ => rfl)) pa_nil))) pa_nil)))))))
      (pss_cons (ps_if (pt_cmpR op_eq (pe_call GT hr (by rfl) gT FT.kp bT .nil pass0 (pa_cons (pv 0) (pa_cons pe_int pa_nil))) pe_int (nomark _))
        (pss_cons (ps_set (i := 6) scRows.nd rfl (Or.inl rfl) (pe_call GT hr (by rfl) gT FT.kp bT .nil pass0 (pa_cons (pv 0) (pa_cons (pe_callB call_len_seq (by rfl) T.len PySem.boot_len (pa_cons (pv 2) pa_nil)) pa_nil))))
        (pss_one (ps_asg (pe_tup (pa_cons (pe_ix ix_list (pv 2) (pv 6) (fun _ _ => rfl)) (pa_cons (pe_call GR hr (by rfl) gR FR.kp bR .nil pass0 (pa_cons (pv 0) (pa_cons (pv 2) pa_nil))) pa_nil))) (pg_sub (pv 5) (pv 6) L2.set_list)))) pss_nil)
      (pss_one (ps_ret (pv 5)))))))), ?_⟩
    refine ⟨.ref b, rfl, .ref b, rfl, .int most, rfl, b, g, m, n, most, rfl, B, by omega, by omega, by omega, fun v0 H1 a0 a1 B1 K1 => ⟨_, _, rfl, rfl, ?_⟩⟩
    have ev : (1 : Int) + v0 = (((1 + v0).toNat : Nat) : Int) := by omega
    refine ⟨b, g, m, _, (1 + v0).toNat, by rw [← ev]; rfl, B1, by omega, by omega, fun np xs H2 nnp h2 xl nd nm B2 K2 => ?_⟩
    have x1 : 1 ≤ xs.length := by omega
    have x8 : xs.length ≤ 8 := by omega
    have xm : xs.length ≤ most := by omega
    obtain ⟨npb, npg⟩ := B2.apart h2
    obtain ⟨o2, g2, e2⟩ := h2
    -- core
    refine ⟨.ref np, rfl, .ref np, rfl, np, _, rfl, .inl (.inl (.inr ⟨o2, e2⟩)), .ref b, rfl, b, g, m, _, 2, rfl, B2, by omega, by decide, by decide, fun v1 H3 b0 b1 B3 K3 => ⟨_, _, rfl, rfl, _, _, rfl, _, rfl, np, _, rfl, .inl (.inr ⟨o2, K3 _ _ e2 npb npg⟩), fun l3 nl3 => ?_⟩⟩
    rw [List.length_map]
    have jn : (0 : Int) ≤ (if (xs.length : Int) - v1 > 1 then (xs.length : Int) - v1 else 1) := by split <;> omega
    have jp : 1 ≤ (if (xs.length : Int) - v1 > 1 then (xs.length : Int) - v1 else 1).toNat := by split <;> omega
    rw [cut_to xs jn]
    have cnd : (xs.take (if (xs.length : Int) - v1 > 1 then (xs.length : Int) - v1 else 1).toNat).Nodup := nd.sublist (List.take_sublist _ _)
    have csub : ∀ z ∈ xs.take (if (xs.length : Int) - v1 > 1 then (xs.length : Int) - v1 else 1).toNat, z ∈ xs := fun z mz => List.mem_of_mem_take mz
    have cl : 1 ≤ (xs.take (if (xs.length : Int) - v1 > 1 then (xs.length : Int) - v1 else 1).toNat).length := by rw [List.length_take]; omega
    have c8 : (xs.take (if (xs.length : Int) - v1 > 1 then (xs.length : Int) - v1 else 1).toNat).length ≤ 8 := by rw [List.length_take]; omega
    generalize xs.take (if (xs.length : Int) - v1 > 1 then (xs.length : Int) - v1 else 1).toNat = cs at cnd csub cl c8 ⊢
    refine ⟨l3, _, rfl, .inl ⟨SqL.of upd_same, fun t1 nt1 => ?_⟩⟩
    have s4 := (same_new (o := .lst (cs.map V.str)) nl3).trans (same_new (o := .tup (cs.map V.str)) nt1)
    have ht1 : upd (upd H3 l3 (.lst (cs.map V.str))) t1 (.tup (cs.map V.str)) t1 = some (.tup (cs.map V.str)) := upd_same
    have B4 := B3.same s4
    have K14 : Keep b g H2 (upd (upd H3 l3 (.lst (cs.map V.str))) t1 (.tup (cs.map V.str))) := K3.trans (Same.keep s4)
    obtain ⟨t1b, t1g, _⟩ := (B3.same (same_new nl3)).ne nt1
    generalize upd (upd H3 l3 (.lst (cs.map V.str))) t1 (.tup (cs.map V.str)) = H4 at ht1 B4 K14 ⊢
    -- way, rows
    refine ⟨.ref b, rfl, b, g, m, _, 4, rfl, B4, by omega, by decide, by decide, fun way H5 w0 w1 B5 K5 => ⟨Nat.zero_le _, fun l nl => ?_⟩⟩
    obtain ⟨lb, lg, lm⟩ := B5.ne nl
    have K05 : Keep b g H H5 := ((K1.trans K2).trans K14).trans K5
    have s6 := same_new (o := .lst []) nl
    have nl0 : H l = none := K05.free lb lg nl
    have np5 := K5 _ _ (K14 _ _ e2 npb npg) npb npg
    have t15 := K5 _ _ ht1 t1b t1g
    refine ⟨.ref np, rfl, np, _, rfl, .inl (.inl (.inr ⟨o2, s6 _ _ np5⟩)), xs.length, by rw [List.length_map], by omega, by omega, for_range (lo := 0) (n := xs.length) (fun i σ H7 => ∃ (y6 y7 y8 : Option V) (ts : List Addr) (rs : Rws), σ = [some (.ref b), some (.int most), some (.ref np), some (.ref t1), some (.int way), some (.ref l), y6, y7, y8] ∧
      Box H7 b g m (n + 200 + 101 * i) ∧ Keep b g H H7 ∧ H7 np = some (.frz o2 (.lst (xs.map V.str))) ∧ H7 t1 = some (.tup (cs.map V.str)) ∧ H7 l = some (.lst (ts.map V.ref)) ∧ RowsAt H7 ts rs ∧ rs.map (·.1) = xs.take i ∧ ∀ q ∈ rs, Some1 H7 xs q.2) ?_ ?_ ?_⟩
    · exact ⟨none, none, none, [], [], rfl, (B5.same s6).more (by omega), K05.trans (Same.keep s6), s6 _ _ np5, s6 _ _ t15, upd_same, ⟨rfl, fun i t e => by cases e⟩, rfl, fun q mq => by cases mq⟩
    · rintro i σ H7 hi ⟨y6, y7, y8, ts, rs, rfl, B7, K7, np7, t17, hl7, ra, ek, each⟩
      have i8 : i < 8 := by omega
      obtain ⟨xi, hxi⟩ : ∃ x, xs[i]? = some x := ⟨xs[i], List.getElem?_eq_getElem hi⟩
      have i0 : (0 : Int) ≤ 0 + (i : Int) := by omega
      have it : (0 + (i : Int)).toNat = i := by omega
      -- ring
      refine ⟨.ref np, rfl, .int (0 + i), rfl, 0 + i, rfl, np, _, rfl, .inl (.inr ⟨o2, np7⟩), fun a1 na1 => ?_⟩
      rw [cut_from xs i0, it]
      have s8 := same_new (o := .lst ((xs.drop i).map V.str)) na1
      have ha1 : upd H7 a1 (.lst ((xs.drop i).map V.str)) a1 = some (.lst ((xs.drop i).map V.str)) := upd_same
      generalize upd H7 a1 (.lst ((xs.drop i).map V.str)) = H8 at s8 ha1 ⊢
      refine ⟨.ref np, rfl, .int (0 + i), rfl, 0 + i, rfl, np, _, rfl, .inl (.inr ⟨o2, s8 _ _ np7⟩), fun a2 na2 => ?_⟩
      rw [cut_to xs i0, it]
      have s9 := same_new (o := .lst ((xs.take i).map V.str)) na2
      have ha2 : upd H8 a2 (.lst ((xs.take i).map V.str)) a2 = some (.lst ((xs.take i).map V.str)) := upd_same
      generalize upd H8 a2 (.lst ((xs.take i).map V.str)) = H9 at s9 ha2 ⊢
      refine ⟨a1, a2, _, _, rfl, rfl, s9 _ _ ha1, ha2, ?_, fun a3 na3 => ?_⟩
      · rw [List.length_map, List.length_map, List.length_drop, List.length_take]
        exact Nat.le_of_lt (small1000 (by omega))
      rw [← List.map_append]
      have s10 := same_new (o := .lst ((xs.drop i ++ xs.take i).map V.str)) na3
      have ha3 : upd H9 a3 (.lst ((xs.drop i ++ xs.take i).map V.str)) a3 = some (.lst ((xs.drop i ++ xs.take i).map V.str)) := upd_same
      generalize upd H9 a3 (.lst ((xs.drop i ++ xs.take i).map V.str)) = H10 at s10 ha3 ⊢
      refine ⟨3, rfl, a3, _, rfl, SqL.of ha3, fun a4 na4 => ?_⟩
      rw [cut_to _ (show (0 : Int) ≤ 3 by decide)]
      have rperm : (xs.drop i ++ xs.take i).Perm xs := List.perm_append_comm.trans (by rw [List.take_append_drop])
      have rnd : ((xs.drop i ++ xs.take i).take (3 : Int).toNat).Nodup := (rperm.nodup_iff.mpr nd).sublist (List.take_sublist _ _)
      have rsub : ∀ z ∈ (xs.drop i ++ xs.take i).take (3 : Int).toNat, z ∈ xs := fun z mz => rperm.mem_iff.mp (List.mem_of_mem_take mz)
      have rl : 1 ≤ ((xs.drop i ++ xs.take i).take (3 : Int).toNat).length := by
        rw [List.length_take, rperm.length_eq]
        show 1 ≤ min 3 _
        omega
      generalize (xs.drop i ++ xs.take i).take (3 : Int).toNat = ring at rnd rsub rl ⊢
      refine ⟨a4, _, rfl, .inl ⟨SqL.of upd_same, fun t2 nt2 => ?_⟩⟩
      have s12 := (((s8.trans s9).trans s10).trans (same_new (o := .lst (ring.map V.str)) na4)).trans (same_new (o := .tup (ring.map V.str)) nt2)
      have ht2 : upd (upd H10 a4 (.lst (ring.map V.str))) t2 (.tup (ring.map V.str)) t2 = some (.tup (ring.map V.str)) := upd_same
      generalize upd (upd H10 a4 (.lst (ring.map V.str))) t2 (.tup (ring.map V.str)) = H12 at s12 ht2 ⊢
      clear s8 s9 s10 ha1 ha2 ha3 na1 na2 na3 na4 nt2
      have t112 := s12 _ _ t17
      -- some_here
      refine ⟨.ref t1, rfl, t1, _, rfl, .inr (SqT.of t112), _, _, rfl, rfl, .inl ⟨by decide, by decide⟩, _, _, rfl, rfl, ⟨by decide, by decide⟩, _, _, rfl, rfl, .ref t1, rfl, by show 2 ≤ sizeLine; decide, fun p1 np1 => ?_⟩
      have s13 := same_new (o := .tup [.int (2 * ((cs.map V.str).length : Int) / 3 + 1), .ref t1]) np1
      refine ⟨.ref t1, rfl, t1, _, rfl, .inr (SqT.of (s13 _ _ t112)), _, _, rfl, rfl, ⟨by decide, by decide⟩, _, _, rfl, rfl, .ref t1, rfl, by show 2 ≤ sizeLine; decide, fun p2 np2 => ?_⟩
      have s14 := same_new (o := .tup [.int (((cs.map V.str).length : Int) / 2 + 1), .ref t1]) np2
      refine ⟨.ref t2, rfl, t2, _, rfl, .inr (SqT.of ((s13.trans s14) _ _ ht2)), _, _, rfl, .ref t2, rfl, by show 2 ≤ sizeLine; decide, fun p3 np3 => ⟨by show 3 ≤ sizeLine; decide, fun a5 na5 => ?_⟩⟩
      have s15 := same_new (o := .tup [.int (if ((ring.map V.str).length : Int) < 2 then ((ring.map V.str).length : Int) else 2), .ref t2]) np3
      have s16 := same_new (o := .lst [.ref p1, .ref p2, .ref p3]) na5
      have hp1 := ((s14.trans s15).trans s16) _ _ (upd_same (H := H12) (a := p1) (o := .tup [.int (2 * ((cs.map V.str).length : Int) / 3 + 1), .ref t1]))
      have hp2 := (s15.trans s16) _ _ (upd_same (H := upd H12 p1 (.tup [.int (2 * ((cs.map V.str).length : Int) / 3 + 1), .ref t1])) (a := p2) (o := .tup [.int (((cs.map V.str).length : Int) / 2 + 1), .ref t1]))
      have hp3 := s16 _ _ (upd_same (H := upd (upd H12 p1 (.tup [.int (2 * ((cs.map V.str).length : Int) / 3 + 1), .ref t1])) p2 (.tup [.int (((cs.map V.str).length : Int) / 2 + 1), .ref t1])) (a := p3) (o := .tup [.int (if ((ring.map V.str).length : Int) < 2 then ((ring.map V.str).length : Int) else 2), .ref t2]))
      have s1216 := ((s13.trans s14).trans s15).trans s16
      have ha5 : upd (upd (upd (upd H12 p1 (.tup [.int (2 * ((cs.map V.str).length : Int) / 3 + 1), .ref t1])) p2 (.tup [.int (((cs.map V.str).length : Int) / 2 + 1), .ref t1])) p3 (.tup [.int (if ((ring.map V.str).length : Int) < 2 then ((ring.map V.str).length : Int) else 2), .ref t2])) a5 (.lst [.ref p1, .ref p2, .ref p3]) a5 = some (.lst [.ref p1, .ref p2, .ref p3]) := upd_same
      obtain ⟨a5b, a5g, _⟩ := (B7.same s12).ne (((s13.trans s14).trans s15).free na5)
      have s716 := s12.trans s1216
      have B16 := B7.same s716
      have np16 := s716 _ _ np7
      have l16 := s716 _ _ hl7
      have rl3 : (ring.map V.str).length = ring.length := List.length_map _
      have cl3 : (cs.map V.str).length = cs.length := List.length_map _
      have r1 : Some1 _ xs p1 := ⟨_, cs.map Sum.inl, ⟨t1, _, hp1, .inr ⟨s1216 _ _ t112, cs, rfl⟩, Parts.names cs⟩, names_valid x8 nm cnd csub (by rw [cl3]; omega) (by rw [cl3]; omega)⟩
      have r2 : Some1 _ xs p2 := ⟨_, cs.map Sum.inl, ⟨t1, _, hp2, .inr ⟨s1216 _ _ t112, cs, rfl⟩, Parts.names cs⟩, names_valid x8 nm cnd csub (by rw [cl3]; omega) (by rw [cl3]; omega)⟩
      have r3 : Some1 _ xs p3 := ⟨_, ring.map Sum.inl, ⟨t2, _, hp3, .inr ⟨s1216 _ _ ht2, ring, rfl⟩, Parts.names ring⟩, names_valid x8 nm rnd rsub (by rw [rl3]; split <;> omega) (by rw [rl3]; split <;> omega)⟩
      have atx : atI (xs.map V.str) (0 + (i : Int)) = some (.str xi) := by
        rw [show (0 : Int) + (i : Int) = ((i : Nat) : Int) from by omega]
        exact atI_nat (by rw [List.getElem?_map, hxi]; rfl)
      refine ⟨.ref l, rfl, .inl ⟨rfl, _, SqL.of l16⟩, .ref np, rfl, .int (0 + i), rfl, np, _, _, _, rfl, rfl, .inl (.inr ⟨o2, np16⟩), atx, .ref a5, rfl, .ref b, rfl, .ref np, rfl, b, g, m, np, _, xs, rfl, B16, by omega, ⟨o2, g2, np16⟩, x1, by omega, nm, fun r d ps H17 nr R fine d1 d2 B17 K17 => ⟨by show 1 ≤ sizeLine; decide, fun a6 na6 => ?_⟩⟩
      have a517 := K17 _ _ ha5 a5b a5g
      have s18 := same_new (o := .lst [.ref r]) na6
      refine ⟨a5, a6, _, _, rfl, rfl, s18 _ _ a517, upd_same, by show 3 + 1 ≤ sizeLine; decide, fun a7 na7 => ?_⟩
      have s19 := same_new (o := .lst ([.ref p1, .ref p2, .ref p3] ++ [.ref r])) na7
      have tup17 := K17.tups B16
      have t19 := tup17.trans (Same.tups (s18.trans s19))
      obtain ⟨rr, atr, somer⟩ : ∃ rr, atI [V.ref p1, V.ref p2, V.ref p3, V.ref r] way = some (.ref rr) ∧ Some1 (upd (upd H17 a6 (.lst [.ref r])) a7 (.lst ([.ref p1, .ref p2, .ref p3] ++ [.ref r]))) xs rr := by
        have cw : way = 0 ∨ way = 1 ∨ way = 2 ∨ way = 3 := by omega
        rcases cw with rfl | rfl | rfl | rfl
        · exact ⟨p1, atI_nat (j := 0) rfl, r1.tups t19⟩
        · exact ⟨p2, atI_nat (j := 1) rfl, r2.tups t19⟩
        · exact ⟨p3, atI_nat (j := 2) rfl, r3.tups t19⟩
        · exact ⟨r, atI_nat (j := 3) rfl, d, ps, R.at.tups (Same.tups (s18.trans s19)), fine_valid x8 nd nm fine d1 d2⟩
      refine ⟨.int way, rfl, a7, _, way, .ref rr, rfl, rfl, SqL.of upd_same, atr, by show 2 ≤ sizeLine; decide, fun p4 np4 => ?_⟩
      have s20 := same_new (o := .tup [.str xi, .ref rr]) np4
      have s1720 := (s18.trans s19).trans s20
      have l20 := s1720 _ _ (K17 _ _ l16 lb lg)
      have hp4 : upd (upd (upd H17 a6 (.lst [.ref r])) a7 (.lst ([.ref p1, .ref p2, .ref p3] ++ [.ref r]))) p4 (.tup [.str xi, .ref rr]) p4 = some (.tup [.str xi, .ref rr]) := upd_same
      have K20 : Keep b g H7 (upd (upd (upd H17 a6 (.lst [.ref r])) a7 (.lst ([.ref p1, .ref p2, .ref p3] ++ [.ref r]))) p4 (.tup [.str xi, .ref rr])) := ((Same.keep s716).trans K17).trans (Same.keep s1720)
      have B20 := B17.same s1720
      have np20 := K20 _ _ np7 npb npg
      have t120 := K20 _ _ t17 t1b t1g
      have tup20 := K20.tups B7
      have some20 := somer.tups (Same.tups s20)
      have rlen : rs.length = i := by
        have := congrArg List.length ek
        rw [List.length_map, List.length_take] at this
        omega
      have tlen : ts.length = i := ra.1.trans rlen
      refine ⟨l, _, _, rfl, rfl, l20, ?_, some (.int (0 + i)), some (.ref t2), some (.ref a5), ts ++ [p4], rs ++ [(xi, rr)], rfl, (B20.store lb lg lm).more (by omega), ?_, ?_, ?_, ?_, ?_, ?_, ?_⟩
      · rw [List.length_map]
        exact small1000 (by omega)
      · intro x o e n1 n2
        rw [upd_ne (ne_of_none e nl0)]
        exact K20 _ _ (K7 _ _ e n1 n2) n1 n2
      · rw [upd_ne (fun z => by rw [z, l20] at np20; cases np20)]
        exact np20
      · rw [upd_ne (fun z => by rw [z, l20] at t120; cases t120)]
        exact t120
      · rw [upd_same, List.map_append]
        rfl
      · exact (((ra.tups tup20).snoc hp4)).tups (tups_store (ys := ts.map V.ref ++ [.ref p4]) l20)
      · rw [List.map_append, ek, List.take_add_one, hxi]
        rfl
      · intro q mq
        have tl : Tups (upd (upd (upd H17 a6 (.lst [.ref r])) a7 (.lst ([.ref p1, .ref p2, .ref p3] ++ [.ref r]))) p4 (.tup [.str xi, .ref rr])) _ := tups_store (ys := ts.map V.ref ++ [.ref p4]) l20
        rcases List.mem_append.mp mq with mq | mq
        · exact ((each q mq).tups tup20).tups tl
        · rw [List.mem_singleton.mp mq]
          exact some20.tups tl
    · rintro σ H7 ⟨y6, y7, y8, ts, rs, rfl, B7, K7, np7, t17, hl7, ra, ek, each⟩
      rw [List.take_length] at ek
      have rlen : rs.length = xs.length := by
        have := congrArg List.length ek
        rw [List.length_map] at this
        exact this
      have fin : ∀ (H' : Hp) (ts : List Addr) (rs : Rws), Keep b g H H' → Box H' b g m (n + 3000) → H' l = some (.lst (ts.map V.ref)) → RowsAt H' ts rs → rs.map (·.1) = xs → (∀ q ∈ rs, Some1 H' xs q.2) → Q (.ref l) H' := fun H' ts rs KK BB hl ra ek each => by
        obtain ⟨c, fit⟩ := fit_of nd x8 nm ek each
        exact q l ts rs c xs H' nl0 hl ra fit x1 xm BB KK
      refine ⟨.ref b, rfl, b, g, m, _, 3, rfl, B7, by omega, by decide, by decide, fun v H8 c0 c1 B8 K8 => ⟨rfl, _, rfl, ite2 (fun _ => ?_) fun _ => ?_⟩⟩
      · have np8 := K8 _ _ np7 npb npg
        refine ⟨.ref b, rfl, .ref np, rfl, np, _, rfl, .inl (.inl (.inr ⟨o2, np8⟩)), b, g, m, _, xs.length, by rw [List.length_map]; rfl, B8, by omega, by omega, by omega, fun at' H9 f0 f1 B9 K9 => ?_⟩
        obtain ⟨j, rfl⟩ := Int.eq_ofNat_of_zero_le f0
        have jl : j < xs.length := by omega
        obtain ⟨xj, hxj⟩ : ∃ x, xs[j]? = some x := ⟨xs[j], List.getElem?_eq_getElem jl⟩
        have np9 := K9 _ _ np8 npb npg
        refine ⟨.ref np, rfl, .int j, rfl, np, _, _, _, rfl, rfl, .inl (.inr ⟨o2, np9⟩), atI_nat (by rw [List.getElem?_map, hxj]; rfl), .ref b, rfl, .ref np, rfl, b, g, m, np, _, xs, rfl, B9, by omega, ⟨o2, g2, np9⟩, x1, by omega, nm, fun r d ps H10 nr R fine d1 d2 B10 K10 => ⟨by show 2 ≤ sizeLine; decide, fun p4 np4 => ?_⟩⟩
        have s11 := same_new (o := .tup [.str xj, .ref r]) np4
        have K711 := ((K8.trans K9).trans K10).trans (Same.keep s11)
        have l11 := K711 _ _ hl7 lb lg
        have tup11 := K711.tups B7
        have B11 := B10.same s11
        refine ⟨.ref l, rfl, .int j, rfl, l, _, j, j, rfl, rfl, l11, ?_, .ref l, rfl, ?_⟩
        · rw [List.length_map, ra.1, rlen]
          unfold ixN
          rw [if_pos (by omega), if_pos (by omega)]
          simp
        have ts2 : ((ts.map V.ref).set j (.ref p4)) = (ts.set j p4).map V.ref := by rw [List.map_set]
        have tl := tups_store (ys := (ts.map V.ref).set j (.ref p4)) l11
        refine fin _ (ts.set j p4) (rs.set j (xj, r)) ?_ ((B11.store lb lg lm).more (by omega)) ?_ ?_ ?_ ?_
        · intro x o e n1 n2
          rw [upd_ne (ne_of_none e nl0)]
          exact K711 _ _ (K7 _ _ e n1 n2) n1 n2
        · rw [upd_same, ts2]
        · exact ((ra.tups tup11).put (by rw [ra.1]; omega) upd_same).tups tl
        · rw [List.map_set, ek]
          refine List.ext_getElem? fun i => ?_
          by_cases e : j = i
          · subst e
            rw [List.getElem?_set_self jl, hxj]
          · rw [List.getElem?_set_ne e]
        · intro q mq
          rcases List.mem_or_eq_of_mem_set mq with mq | rfl
          · exact ((each q mq).tups tup11).tups tl
          · exact (Some1.tups ⟨d, ps, R.at, fine_valid x8 nd nm fine d1 d2⟩ (Same.tups s11)).tups tl
      · exact ⟨.ref l, rfl, fin H8 ts rs (K7.trans K8) (B8.more (by omega)) (K8 _ _ hl7 lb lg) (ra.tups (K8.tups B7)) ek fun q mq => (each q mq).tups (K8.tups B7)⟩
end
end Moot
namespace Moot
open PySem PySem.Spec PyProof.Rows L2
theorem Keep.nl {H H' : Hp} {b g m a : Addr} {n : Nat} {o : HO} (k : Keep b g H H') (B : Box H b g m n) (h : H a = some o) (no : ∀ xs, o ≠ .lst xs) : H' a = some o := by
  obtain ⟨x, c, gs, ms, hb, hg, _⟩ := B.ex
  exact k a o h (fun e => by rw [e, hb] at h; cases h; exact no _ rfl) (fun e => by rw [e, hg] at h; cases h; exact no _ rfl)
/-- the rows as a dict -/
structure Rw0 (H : Hp) (W : Addr) (c : Rq) (xs : List Str) (rs : Rws) : Prop where
  dc : Rd H W (.dK (kvs rs))
  fit : Fit H c xs rs
theorem rd_same {H H' : Hp} {a : Addr} {u : HO} (h : Rd H a u) (s : Same H H') : Rd H' a u := h.imp (fun e => s _ _ e) fun ⟨o, e⟩ => ⟨o, s _ _ e⟩
theorem Rw0.same {H H' : Hp} {W : Addr} {c : Rq} {xs : List Str} {rs : Rws} (h : Rw0 H W c xs rs) (s : Same H H') : Rw0 H' W c xs rs := ⟨rd_same h.dc s, h.fit.same s⟩
theorem Fit.tups {H H' : Hp} {c : Rq} {xs : List Str} {rs : Rws} (h : Fit H c xs rs) (t : Tups H H') : Fit H' c xs rs := { h with each := fun q m => (h.each q m).tups t }
theorem Rw0.keep {H H' : Hp} {b g m W : Addr} {n : Nat} {c : Rq} {xs : List Str} {rs : Rws} (h : Rw0 H W c xs rs) (k : Keep b g H H') (B : Box H b g m n) : Rw0 H' W c xs rs := ⟨h.dc.imp (fun e => k.nl B e fun _ z => (by cases z)) fun ⟨o, e⟩ => ⟨o, k.nl B e fun _ z => (by cases z)⟩, h.fit.tups (k.tups B)⟩
theorem keys_strs (rs : Rws) : (kvs rs).map (fun kv => kV kv.1) = (rs.map (·.1)).map V.str := by
  unfold kvs
  rw [List.map_map, List.map_map]
  rfl
section
variable {P : Program} {w : World} {K : PySem.W.Frag} {mg : Str → Option Value} {base : Heap}
/-! of names without tokens -/
def spSomeP (K : PySem.W.Frag) : Sp := fun vs H Q _ => ∃ (b g m vp : Addr) (n : Nat) (xs : List Str), vs = [.ref b, .ref vp] ∧ Box H b g m n ∧ n ≤ 900000 ∧ SqL K H vp (xs.map V.str) ∧ 1 ≤ xs.length ∧ xs.length ≤ 100 ∧
  ∀ (p : Addr) (ys zs : List Str) (H' : Hp), H p = none → H' p = some (.lst (ys.map V.str)) → 1 ≤ ys.length → (ys ++ zs).Perm xs → Box H' b g m (n + 1 + xs.length) → Keep b g H H' → Q (.ref p) H'
theorem ok_someP {f fT : Addr} {fd fdT : FuncData} {k : Nat} (F : Fun K "_law_some" "_law_some" sSome f fd) (FT : Fun K "_law_take" "_law_take" sTake fT fdT) (bT : Binds K fdT ["_law_box_here", "_law_size"] []) (gT : mg "_law_take" = some (.ref fT))
    (GT : FnOk P w K mg base CX0 k fT fdT ["_law_box_here", "_law_size"] spTake) (mr : mg "range" = none) (ml : mg "len" = none) (mls : mg "list" = none) : FnOk P w K mg base CX0 (k + 1) f fd ["_law_box_here", "_law_values"] (spSomeP K) := by
  refine F.ok scSome (fun vs H Q E h => ?_) (fun cdv A outer s H vs Q E hr h => ?_)
  · obtain ⟨b, g, m, vp, n, xs, rfl, _⟩ := h
    rfl
  · obtain ⟨b, g, m, vp, n, xs, rfl, B, hn, hv, x1, x2, q⟩ := h
    refine ⟨_, pss_cons (ps_set (i := 2) scSome.nd rfl (Or.inr rfl) (pe_callTy call_list_of (by rfl) mls (by decide +kernel) (pa_cons (pv 1) pa_nil)))
      (pss_one (ps_ret (pe_lc (own := [("_law_k", 3)]) (g := gName 3) (tt := tYes) (by rfl) scSome.nd
        (pi_range1 rfl mr (pa_cons (pe_op op_add pe_int (pe_call GT hr (by rfl) gT FT.kp bT .nil pass0 (pa_cons (pv 0) (pa_cons (pe_callB call_len_seq (by rfl) ml PySem.boot_len (pa_cons (pv 2) pa_nil)) pa_nil)))) pa_nil)) (blkOk_by (N := nSome) (sc := defScope sSome) (by decide +kernel))
        (fun _ _ _ _ _ => pg_name (i := 3) scSome.nd rfl (Or.inl rfl)) (fun _ _ _ _ _ => pts_nil)
        (fun _ _ _ _ _ => (show PE _ _ (tBM K "list" rPopAt _ _) from pe_bm PySem.F.plainAttrs_list PySem.F.slot_list_pop PySem.F.type_list_pop mt_popAt (pv 2) (pa_cons (pe_call GT hr (by rfl) gT FT.kp bT .nil pass0 (pa_cons (pv 0) (pa_cons
          (pe_callB (show CallR _ (.builtin "len") (rLen K) from call_len_seq) (by rfl) ml PySem.boot_len (pa_cons (pv 2) pa_nil)) pa_nil))) pa_nil)))))), ?_⟩
    refine ⟨.ref vp, rfl, vp, _, rfl, .inl hv, fun l nl => ?_⟩
    obtain ⟨lb, lg, lm⟩ := B.ne nl
    have s1 : Same H (upd H l (.lst (xs.map V.str))) := same_new nl
    have lx : (xs.map V.str).length = xs.length := List.length_map _
    refine ⟨.ref b, rfl, .ref l, rfl, l, _, rfl, .inl (SqL.of upd_same), b, g, m, n, _, rfl, B.same s1, by omega, by omega, by omega, fun v0 H1 a0 a1 B1 K1 => ?_⟩
    refine ⟨_, _, rfl, rfl, 1 + v0, rfl, by omega, by omega, fun D nD => ?_⟩
    obtain ⟨Db, Dg, Dm⟩ := B1.ne nD
    have hl1 : H1 l = some (.lst (xs.map V.str)) := K1 _ _ upd_same lb lg
    have Dl : D ≠ l := (ne_of_none hl1 nD).symm
    have K01 : Keep b g H H1 := (Same.keep s1).trans K1
    have fD : H D = none := K01.free Db Dg nD
    refine lc_range (lo := 0) (n := (1 + v0).toNat) (fun j H4 => Box H4 b g m (n + 1 + j) ∧ Keep b g H H4 ∧ ∃ ys zs : List Str, H4 D = some (.lst (ys.map V.str)) ∧ H4 l = some (.lst (zs.map V.str)) ∧ ys.length = j ∧ (ys ++ zs).Perm xs) ?_ ?_ ?_
    · refine ⟨B1.store Db Dg Dm, K01.trans (Same.keep (same_new nD)), [], xs, upd_same, ?_, rfl, List.Perm.refl _⟩
      rw [upd_ne Dl.symm]
      exact hl1
    · rintro j H4 hj ⟨B4, K4, ys, zs, hD, hl, ly, pm⟩
      have total := pm.length_eq
      rw [List.length_append] at total
      have lz : (zs.map V.str).length = zs.length := List.length_map _
      refine ⟨rfl, .ref l, rfl, .inl ⟨rfl, _, SqL.of hl⟩, .ref b, rfl, .ref l, rfl, l, _, rfl, .inl (SqL.of hl), b, g, m, _, _, rfl, B4, by omega, by omega, by omega, fun v H5 c0 c1 B5 K5 => ?_⟩
      have hl5 := K5 _ _ hl lb lg
      have hD5 := K5 _ _ hD Db Dg
      have hv : v.toNat < zs.length := by omega
      refine ⟨l, _, v, v.toNat, .str zs[v.toNat], rfl, rfl, hl5, by omega, by omega, seq_at c0 c1, ?_, ys.map V.str, ?_, ?_, ?_⟩
      · rw [List.getElem?_map, List.getElem?_eq_getElem hv]
        rfl
      · rw [upd_ne Dl]
        exact hD5
      · rw [List.length_map]
        exact small1000 (by omega)
      · refine ⟨((B5.store lb lg lm).store Db Dg Dm).more (by omega), fun d o e n1 n2 => ?_, ys ++ [zs[v.toNat]], zs.eraseIdx v.toNat, ?_, ?_, ?_, ?_⟩
        · rw [upd_ne (ne_of_none e fD), upd_ne (ne_of_none e nl)]
          exact K5 _ _ (K4 _ _ e n1 n2) n1 n2
        · rw [upd_same, List.map_append]
          rfl
        · rw [upd_ne Dl.symm, upd_same, erase_map]
        · rw [List.length_append, ly]
          rfl
        · refine List.Perm.trans ?_ pm
          rw [List.append_assoc]
          exact List.Perm.append_left ys (erase_perm zs v.toNat _ (List.getElem?_eq_getElem hv))
    · rintro H4 ⟨B4, K4, ys, zs, hD, hl, ly, pm⟩
      exact q D ys zs H4 fD hD (by omega) pm (B4.more (by omega)) K4
/-! _law_shuffled -/
abbrev sShu : Stmt := top 37
abbrev nShu : List Str := ["_law_box_here", "_law_values", "_law_left", "_law_k"]
theorem scShu : FnScope nShu ["_law_box_here", "_law_values"] (defScope sShu) := ⟨rfl, rfl, rfl, by decide +kernel, rfl, by decide +kernel, by decide +kernel⟩
def spShu (K : PySem.W.Frag) : Sp := fun vs H Q _ => ∃ (b g m vp : Addr) (n : Nat) (xs : List Str), vs = [.ref b, .ref vp] ∧ Box H b g m n ∧ n ≤ 900000 ∧ SqL K H vp (xs.map V.str) ∧ xs.length ≤ 100 ∧
  ∀ (p : Addr) (ys : List Str) (H' : Hp), H p = none → H' p = some (.lst (ys.map V.str)) → ys.Perm xs → Box H' b g m (n + xs.length) → Keep b g H H' → Q (.ref p) H'
theorem ok_shuffled {f fT : Addr} {fd fdT : FuncData} {k : Nat} (F : Fun K "_law_shuffled" "_law_shuffled" sShu f fd) (FT : Fun K "_law_take" "_law_take" sTake fT fdT) (bT : Binds K fdT ["_law_box_here", "_law_size"] []) (gT : mg "_law_take" = some (.ref fT))
    (GT : FnOk P w K mg base CX0 k fT fdT ["_law_box_here", "_law_size"] spTake) (T : Bq mg) : FnOk P w K mg base CX0 (k + 1) f fd ["_law_box_here", "_law_values"] (spShu K) := by
  have mr := T.T.rng
  have ml := T.T.len
  have mls := T.T.lst
  refine F.ok scShu (fun vs H Q E h => ?_) (fun cdv A outer s H vs Q E hr h => ?_)
  · obtain ⟨b, g, m, vp, n, xs, rfl, _⟩ := h
    rfl
  · obtain ⟨b, g, m, vp, n, xs, rfl, B, hn, hv, x2, q⟩ := h
    refine ⟨_, pss_cons (ps_set (i := 2) scShu.nd rfl (Or.inr rfl) (pe_callTy call_list_of (by rfl) mls (by decide +kernel) (pa_cons (pv 1) pa_nil)))
      (pss_one (ps_ret (pe_lc (own := [("_law_k", 3)]) (g := gName 3) (tt := tYes) (by rfl) scShu.nd
        (pi_range1 rfl mr (pa_cons (pe_callB call_len_seq (by rfl) ml PySem.boot_len (pa_cons (pv 2) pa_nil)) pa_nil)) (blkOk_by (N := nShu) (sc := defScope sShu) (by decide +kernel))
        (fun _ _ _ _ _ => pg_name (i := 3) scShu.nd rfl (Or.inl rfl)) (fun _ _ _ _ _ => pts_nil)
        (fun _ _ _ _ _ => (show PE _ _ (tBM K "list" rPopAt _ _) from pe_bm PySem.F.plainAttrs_list PySem.F.slot_list_pop PySem.F.type_list_pop mt_popAt (pv 2) (pa_cons (pe_call GT hr (by rfl) gT FT.kp bT .nil pass0 (pa_cons (pv 0) (pa_cons
          (pe_callB (show CallR _ (.builtin "len") (rLen K) from call_len_seq) (by rfl) ml PySem.boot_len (pa_cons (pv 2) pa_nil)) pa_nil))) pa_nil)))))), ?_⟩
    refine ⟨.ref vp, rfl, vp, _, rfl, .inl hv, fun l nl => ?_⟩
    obtain ⟨lb, lg, lm⟩ := B.ne nl
    have s1 : Same H (upd H l (.lst (xs.map V.str))) := same_new nl
    have lx : (xs.map V.str).length = xs.length := List.length_map _
    have hl1 : (upd H l (.lst (xs.map V.str))) l = some (.lst (xs.map V.str)) := upd_same
    generalize upd H l (.lst (xs.map V.str)) = H1 at s1 hl1 ⊢
    have B1 := B.same s1
    refine ⟨.ref l, rfl, l, _, rfl, .inl (SqL.of hl1), ((xs.map V.str).length : Int), rfl, by omega, by omega, fun D nD => ?_⟩
    obtain ⟨Db, Dg, Dm⟩ := B1.ne nD
    have Dl : D ≠ l := (ne_of_none hl1 nD).symm
    have K01 : Keep b g H H1 := Same.keep s1
    have fD : H D = none := K01.free Db Dg nD
    refine lc_range (lo := 0) (n := (((xs.map V.str).length : Nat) : Int).toNat) (fun j H4 => Box H4 b g m (n + j) ∧ Keep b g H H4 ∧ ∃ ys zs : List Str, H4 D = some (.lst (ys.map V.str)) ∧ H4 l = some (.lst (zs.map V.str)) ∧ ys.length = j ∧ (ys ++ zs).Perm xs) ?_ ?_ ?_
    · refine ⟨B1.store Db Dg Dm, K01.trans (Same.keep (same_new nD)), [], xs, upd_same, ?_, rfl, List.Perm.refl _⟩
      rw [upd_ne Dl.symm]
      exact hl1
    · rintro j H4 hj ⟨B4, K4, ys, zs, hD, hl, ly, pm⟩
      have total := pm.length_eq
      rw [List.length_append] at total
      have lz : (zs.map V.str).length = zs.length := List.length_map _
      refine ⟨rfl, .ref l, rfl, .inl ⟨rfl, _, SqL.of hl⟩, .ref b, rfl, .ref l, rfl, l, _, rfl, .inl (SqL.of hl), b, g, m, _, _, rfl, B4, by omega, by omega, by omega, fun v H5 c0 c1 B5 K5 => ?_⟩
      have hl5 := K5 _ _ hl lb lg
      have hD5 := K5 _ _ hD Db Dg
      have hv : v.toNat < zs.length := by omega
      refine ⟨l, _, v, v.toNat, .str zs[v.toNat], rfl, rfl, hl5, by omega, by omega, seq_at c0 c1, ?_, ys.map V.str, ?_, ?_, ?_⟩
      · rw [List.getElem?_map, List.getElem?_eq_getElem hv]
        rfl
      · rw [upd_ne Dl]
        exact hD5
      · rw [List.length_map]
        exact small1000 (by omega)
      · refine ⟨((B5.store lb lg lm).store Db Dg Dm).more (by omega), fun d o e n1 n2 => ?_, ys ++ [zs[v.toNat]], zs.eraseIdx v.toNat, ?_, ?_, ?_, ?_⟩
        · rw [upd_ne (ne_of_none e fD), upd_ne (ne_of_none e nl)]
          exact K5 _ _ (K4 _ _ e n1 n2) n1 n2
        · rw [upd_same, List.map_append]
          rfl
        · rw [upd_ne Dl.symm, upd_same, erase_map]
        · rw [List.length_append, ly]
          rfl
        · refine List.Perm.trans ?_ pm
          rw [List.append_assoc]
          exact List.Perm.append_left ys (erase_perm zs v.toNat _ (List.getElem?_eq_getElem hv))
    · rintro H4 ⟨B4, K4, ys, zs, hD, hl, ly, pm⟩
      have total := pm.length_eq
      rw [List.length_append] at total
      have z0 : zs = [] := List.length_eq_zero_iff.mp (by omega)
      subst z0
      rw [List.append_nil] at pm
      exact q D ys H4 fD hD pm (B4.more (by omega)) K4
end
end Moot
/-! d.items() of a dict with known entries, and tuple() of it: new pairs, in the dict's order -/
namespace Moot
open PySem PySem.Spec PyProof.Rows L2 L2.DX
theorem pairs_laid {X : Cx} {pins : List (Addr × Obj)} {σ : L2.St} {H : Hp} {s : Shared} {h1 : Heap} {tk : Nat} {kvs : List (L2.Key × V)} {vs : List (L2.Key × Value)} {as : List Addr} (I : Inv X pins σ H s) (kv : KV kvs vs)
    (stay : ∀ b o, s.heap.get? b = some o → h1.get? b = some o) (len : as.length = vs.length) (made : PySem.W.KdxG (mixKind X.prog X.w) vs s.heap.objs.size h1 as) :
    ∃ H1 : Hp, (∀ b o, H b = some o → H1 b = some o) ∧ (∀ t ∈ as, H t = none) ∧ Paired (fun (t : Addr) (q : L2.Key × V) => H1 t = some (.tup [kV q.1, q.2])) as kvs ∧ Inv X pins σ H1 { s with heap := h1, toks := tk } := by
  have lkv : kvs.length = vs.length := Paired.length kv
  have ris : as.Nodup := made.rise.imp fun {a b} (lt : a < b) => Nat.ne_of_lt lt
  have hi : ∀ t ∈ as, s.heap.objs.size < t := made.above
  have fresh : ∀ t ∈ as, H t = none := fun t mt => I.hok.fresh (Nat.le_of_lt (hi t mt))
  have here := LiI.putT_at as kvs H (by omega) ris
  have else' : ∀ b, b ∉ as → LiI.putT H as kvs b = H b := fun b nb => LiI.putT_off as kvs H nb
  have old : ∀ b o, s.heap.get? b = some o → b ∉ as := fun b o e mb => absurd (Heap.lt_size e) (Nat.not_lt.mpr (Nat.le_of_lt (hi b mb)))
  have up : ∀ b u, H b = some u → LiI.putT H as kvs b = some u := fun b u e => by
    rw [else' b fun mb => by rw [fresh b mb] at e; cases e]
    exact e
  refine ⟨LiI.putT H as kvs, up, fresh, here, ?_⟩
  refine I.call' (ch := []) rfl { keep := fun b o e _ _ _ => stay b o e, slot := fun b o e _ _ _ => ⟨o.slots, stay b o e⟩, free := fun b o e n _ => ?_, there := fun b o e _ => ⟨o, stay b o e⟩, tups := fun b xs e => up b _ e, frzs := fun b o u e => up b _ e, tbls := fun b ps e => ⟨#[], by rw [up b _ e]; simp⟩ } (fun b u e => ?_) I.bare fun b z => by simp at z
  · rw [else' b (old b o e)]
    exact n
  · by_cases mb : b ∈ as
    · obtain ⟨j, pk, i1, i2, i3⟩ := LiI.paired_ix here mb
      have eu : u = .tup [kV pk.1, pk.2] := Option.some.inj (e.symm.trans i3)
      subst eu
      obtain ⟨key, k, x, m1, m2, m3⟩ := made.pairs j b i1
      obtain ⟨qv, n1, n2, n3⟩ := LiI.paired_get kv i2
      have eq : qv = (k, x) := Option.some.inj (n1.symm.trans m1)
      subst eq
      have rk : RelV (kV pk.1) key := by
        rw [n2]
        exact relV_key (show keyIs k key = true from m2)
      exact ⟨by show 2 ≤ sizeLine; decide, [key, x], .cons rk (.cons n3 .nil), ⟨_, m3, rfl, _, rfl⟩⟩
    · rw [else' b mb] at e
      exact (I.hok b u e).stay (fun d v _ y => stay d v y) (fun d y => up d _ y) fun d xs y => up d _ y
section
variable {X : Cx}
def rItemsK : V → List V → Hp → VK → Prop := fun x xs H Q => ∃ (a : Addr) (kvs : List (L2.Key × V)), x = .ref a ∧ xs = [] ∧ H a = some (.dK kvs) ∧ ∀ p, H p = none → Q (.ref p) (upd H p (itemsO p a))
theorem mt_itemsK : MtR X "dict.items" rItemsK := by
  intro pins s σ H x xs v us Q I rx rxs h
  obtain ⟨a, kvs, rfl, rfl, ha, q⟩ := h
  cases rx
  cases rxs
  obtain ⟨_, hs0, vs, _, hdo⟩ := I.hok a _ ha
  have nw : H s.heap.objs.size = none := I.hok.fresh (Nat.le_refl _)
  refine call_meetsIn PySem.F.slot_dict_items hdo.typeIs PySem.F.entry_dict_items (PySem.F.args_dict_items_1 _) (meets_dict_items (mixKind X.prog X.w) a hs0) ⟨⟨vs, hdo⟩, ?_⟩
  exact ⟨.ref s.heap.objs.size, upd H s.heap.objs.size (itemsO s.heap.objs.size a), I.laid (t' := s.toks) (fun b u e => Heap.get?_push_of_some _ e) (Nat.le_refl _) (itemsO_ok (Heap.get?_push_size _ rfl)), rfl, q _ nw⟩
def rTupItems : List V → Hp → VK → Prop := fun xs H Q => ∃ (p a : Addr) (kvs : List (L2.Key × V)), xs = [.ref p] ∧ H p = some (itemsO p a) ∧ H a = some (.dK kvs) ∧
  ∀ (as : List Addr) (H1 : Hp) (q : Addr), (∀ b o, H b = some o → H1 b = some o) → (∀ t ∈ as, H t = none) → Paired (fun (t : Addr) (q : L2.Key × V) => H1 t = some (.tup [kV q.1, q.2])) as kvs → H1 q = none → Q (.ref q) (upd H1 q (.tup (as.map V.ref)))
theorem call_tupItems (hc : X.calm = true) : CallR X (.type "tuple") rTupItems := by
  intro pins s σ H xs us Q I r h
  obtain ⟨p, a, kvs, rfl, hp, ha, q⟩ := h
  obtain ⟨u, rfl, rx⟩ := vals1 r
  cases rx
  have view : s.heap.IsItemsView p a := (I.hok p _ hp).1
  obtain ⟨z, hs0, vs, kv, hdo⟩ := I.hok a _ ha
  obtain ⟨ep, hat⟩ := hdo.dictAt
  have lkv : kvs.length = vs.length := Paired.length kv
  refine callType_codes (Q₁ := fun obj s₁ => s₁.TypeIs obj "tuple" ∧ EP X pins σ Q obj s₁) F.called_tuple (F.typeCall_tuple_1 _) F.entry_object_init ?_ fun obj s₁ h₁ => ?_
  · refine codeAny_of_tree ?_
    show wpAny _ _ (do checkBuiltinCall "tuple.__new__" ⟨[.type "tuple", .ref p], []⟩; again (.builtin "tuple.__new__" ⟨[.type "tuple", .ref p], []⟩)) _ _ s
    refine wpAny_bind (wpAny_of_eq (F.newCall_tuple_1 _) (wpAny_pure ⟨plainId_quiet F.plain_tuple_new _, codeAny_builtin F.entry_tuple_new ?_⟩))
    rw [Around.under_plainId F.plain_tuple_new _]
    have hsub := sub_tuple_self
    have hinit := init_tuple_lookup
    have hmh := madeHere_tuple
    unfold Builtin.«tuple.__new__»
    generalize hcol : collect = col
    wp_walk using wpAny_typeOf view.typeIs
    subst hcol
    refine PySem.W.kdx_collect (knd := mixKind X.prog X.w) (kvs := vs) (ep := ep) (I.ok.hd hc) view hat (by omega) fun h' tk as hkeep hl hG => ?_
    obtain ⟨H1, k1, k2, k3, I1⟩ := pairs_laid (tk := tk) I kv hkeep hl hG
    show wpAny _ _ (Builtin.Tuple.tupleExact (as.map Value.ref).toArray >>= fun v => ret v) _ _ _
    unfold Builtin.Tuple.tupleExact
    have sz : (as.map V.ref).length ≤ sizeLine := by rw [List.length_map]; omega
    refine wpAny_bind (wpAny_newObj_type ?_ (by show (as.map Value.ref).toArray.size ≤ sizeLine; rw [List.size_toArray, List.length_map]; omega))
    refine wpAny_pure ⟨⟨_, Heap.get?_push_size _ rfl, rfl⟩, .ref _, _, I1.laid (t' := tk) (o := .tup (as.map V.ref)) (fun b ob q => Heap.get?_push_of_some _ q) (Nat.le_refl _) ?_, rfl, q as H1 _ k1 k2 k3 (I1.hok.fresh (Nat.le_refl _))⟩
    exact ⟨sz, as.map Value.ref, LiI.vals_refs as, ⟨_, Heap.get?_push_size _ rfl, rfl, 0, rfl⟩⟩
  · exact ⟨h₁.1, F.args_object_init_2 obj _, object_init_meets F.called_tuple.init.lookup F.called_tuple.made (by decide) X.prog X.w X.A.in1 _ s₁ ⟨h₁.1, rfl, h₁.2⟩⟩
end
end Moot
namespace Moot
open PySem PySem.Spec PyProof.Rows L2 L2.DX
/-- rows whose tuples are plain -/
def RowsP (H : Hp) (ts : List Addr) (rs : Rws) : Prop := Paired (fun (t : Addr) (q : Str × Addr) => H t = some (.tup [.str q.1, .ref q.2])) ts rs
theorem paired_len {α β : Type} {F : α → β → Prop} : ∀ {xs : List α} {ys : List β}, Paired F xs ys → xs.length = ys.length
  | _, _, .nil => rfl
  | _, _, .cons _ t => by rw [List.length_cons, List.length_cons, paired_len t]
theorem paired_imp {α β : Type} {F G : α → β → Prop} (im : ∀ x y, F x y → G x y) : ∀ {xs : List α} {ys : List β}, Paired F xs ys → Paired G xs ys
  | _, _, .nil => .nil
  | _, _, .cons h t => .cons (im _ _ h) (paired_imp im t)
theorem paired_snoc {α β : Type} {F : α → β → Prop} {x : α} {y : β} (h : F x y) : ∀ {xs : List α} {ys : List β}, Paired F xs ys → Paired F (xs ++ [x]) (ys ++ [y])
  | _, _, .nil => .cons h .nil
  | _, _, .cons h1 t => .cons h1 (paired_snoc h t)
theorem paired_kvs {F : Addr → Str × Addr → Prop} {G : Addr → L2.Key × V → Prop} (im : ∀ t q, G t ((Sum.inr q.1 : L2.Key), V.ref q.2) → F t q) : ∀ {ts : List Addr} {rs : Rws}, Paired G ts (kvs rs) → Paired F ts rs
  | _, [], h => by
    cases h
    exact .nil
  | _, q :: rs, h => by
    cases h with
    | cons h t => exact .cons (im _ _ h) (paired_kvs im (rs := rs) t)
theorem RowsP.same {H H' : Hp} {ts : List Addr} {rs : Rws} (h : RowsP H ts rs) (s : Same H H') : RowsP H' ts rs := paired_imp (fun _ _ e => s _ _ e) h
theorem RowsP.get {H : Hp} {ts : List Addr} {rs : Rws} (h : RowsP H ts rs) {i : Nat} {t : Addr} (e : ts[i]? = some t) : ∃ x r, rs[i]? = some (x, r) ∧ H t = some (.tup [.str x, .ref r]) :=
  let ⟨q, h1, h2⟩ := LiI.paired_get h e
  ⟨q.1, q.2, h1, h2⟩
theorem RowsP.at {H : Hp} {ts : List Addr} {rs : Rws} (h : RowsP H ts rs) : RowsAt H ts rs := ⟨paired_len h, fun i t e => let ⟨x, r, h1, h2⟩ := h.get e; ⟨x, r, h1, .inl h2⟩⟩
/-- what each name requires, one count changed -/
def chg (c : Rq) (x : Str) (d : Int) : Rq := fun y => if y = x then (d, (c x).2) else c y
/-- the rows but one -/
abbrev wor (rs : Rws) (x : Str) : Rws := rs.filter fun q => decide (q.1 ≠ x)
theorem wor_keys (x : Str) : ∀ rs : Rws, (wor rs x).map (·.1) = (rs.map (·.1)).filter fun y => decide (y ≠ x)
  | [] => rfl
  | q :: rs => by
    have ih := wor_keys x rs
    unfold wor at ih ⊢
    by_cases e : q.1 = x
    · rw [List.map_cons, List.filter_cons_of_neg (by simp [e]), List.filter_cons_of_neg (by simp [e])]
      exact ih
    · rw [List.map_cons, List.filter_cons_of_pos (by simp [e]), List.filter_cons_of_pos (by simp [e]), List.map_cons, ih]
theorem perm_out {x : Str} : ∀ {l : List Str}, l.Nodup → x ∈ l → ((l.filter fun y => decide (y ≠ x)) ++ [x]).Perm l
  | [], _, m => by cases m
  | y :: l, nd, m => by
    obtain ⟨n1, n2⟩ := List.nodup_cons.mp nd
    by_cases e : y = x
    · subst e
      rw [List.filter_cons_of_neg (by simp)]
      have : (l.filter fun z => decide (z ≠ y)) = l := List.filter_eq_self.mpr fun z mz => decide_eq_true fun z' => n1 (z' ▸ mz)
      rw [this]
      exact List.perm_append_singleton y l
    · rw [List.filter_cons_of_pos (by simp [e])]
      exact (perm_out n2 ((List.mem_cons.mp m).resolve_left fun z => e z.symm)).cons y
section
variable {P : Program} {w : World} {K : PySem.W.Frag} {mg : Str → Option Value} {base : Heap}
/-! as_rows -/
abbrev sAr : Stmt := inClass (top 25) 4
theorem scAr : FnScope ["self"] ["self"] (defScope sAr) := ⟨rfl, rfl, rfl, by decide +kernel, rfl, by decide +kernel, by decide +kernel⟩
def spAr (C : Addr) : Sp := fun vs H Q _ => ∃ (net D : Addr) (c : Rq) (xs : List Str) (rs : Rws), vs = [.ref net] ∧ NetAt C H net D c xs rs ∧ ∀ (p : Addr) (ts : List Addr) (H' : Hp), Same H H' → H' p = some (.tup (ts.map V.ref)) → RowsP H' ts rs → Q (.ref p) H'
theorem ok_asrows {f C : Addr} {fd : FuncData} {k : Nat} (F : Fun K "as_rows" "Network.as_rows" sAr f fd) (T : Bq mg) (X : Txt K mg C) : FnOk P w K mg base CX0 (k + 1) f fd ["self"] (spAr C) := by
  refine F.ok scAr (fun vs H Q E h => ?_) (fun cdv A outer s H vs Q E hr h => ?_)
  · obtain ⟨net, D, c, xs, rs, rfl, _⟩ := h
    rfl
  · obtain ⟨net, D, c, xs, rs, rfl, N, q⟩ := h
    refine ⟨_, pss_one (ps_ret (pe_callTy (call_tupItems rfl) (by rfl) T.T.tup (by decide +kernel) (pa_cons (pe_bm0 PySem.F.plainAttrs_dict PySem.F.slot_dict_items PySem.F.type_dict_items mt_itemsK (pe_fld (pv 0) rfl)) pa_nil))), ?_⟩
    obtain ⟨dx, hn⟩ := N.ob
    refine ⟨.ref net, rfl, net, C, dx, _, _, rfl, hn, X.cl, X.nR, fld_get D, .inr (.inr (.inl ⟨rfl, .inl ⟨_, N.dc⟩⟩)), D, _, rfl, rfl, N.dc, fun p np => ?_⟩
    have s1 := same_new (o := itemsO p D) np
    refine ⟨p, D, _, rfl, upd_same, s1 _ _ N.dc, fun as H1 t up fr prs nt => ?_⟩
    have s2 : Same H (upd H1 t (.tup (as.map V.ref))) := fun b o e => by
      have e1 := up _ _ (s1 _ _ e)
      rw [upd_ne (ne_of_none e1 nt)]
      exact e1
    refine q t as _ s2 upd_same (RowsP.same (paired_kvs (fun _ _ e => e) prs) fun b o e => ?_)
    rw [upd_ne (ne_of_none e nt)]
    exact e
end
end Moot
namespace Moot
open PySem PySem.Spec PyProof.Rows L2
/-! Network(), its rows the default () -/
section
variable {P : Program} {w : World} {K : PySem.W.Frag} {mg : Str → Option Value} {base : Heap}
def spRb0 (K : PySem.W.Frag) : Sp := fun vs H Q _ => ∃ (l : Addr) (rs : Rws) (c : Rq) (xs : List Str), vs = [.ref l] ∧ (SqT K H l [] ∧ rs = []) ∧ Fit H c xs rs ∧ ∀ (D : Addr) (H' : Hp), Same H H' → H D = none → H' D = some (.dK (kvs rs)) → Q (.ref D) H'
theorem ok_byname0 {f f1 f2 : Addr} {fd fd1 fd2 : FuncData} {k : Nat} (F : Fun K "requirements_by_name" "requirements_by_name" sRb f fd) (T : Bq mg)
    (F1 : Fun K "is_name" "is_name" sIn f1 fd1) (b1 : Binds K fd1 ["value"] []) (g1 : mg "is_name" = some (.ref f1)) (G1 : FnOk P w K mg base CX0 k f1 fd1 ["value"] (spIn K))
    (F2 : Fun K "is_requirement" "is_requirement" sIr f2 fd2) (b2 : Binds K fd2 ["value"] []) (g2 : mg "is_requirement" = some (.ref f2)) (G2 : FnOk P w K mg base CX0 k f2 fd2 ["value"] spIr) :
    FnOk P w K mg base CX0 (k + 1) f fd ["rows"] (spRb0 K) := by
  refine F.ok scRb (fun vs H Q E h => ?_) (fun cdv A outer s H vs Q E hr h => ?_)
  · obtain ⟨l, rs, c, xs, rfl, _⟩ := h
    rfl
  · obtain ⟨l, rs, c, xs, rfl, ⟨hl, rfl⟩, fit, q⟩ := h
    have hu := hu_of hr
    refine ⟨_, pss_cons (ps_set (i := 1) scRb.nd rfl (Or.inl rfl) pe_dnewK)
      (pss_cons (ps_for PassesOwn.never rfl (pi_tup (pv 0)) (pg_tup (by rfl) (pgs_cons (pg_name (i := 2) scRb.nd rfl (Or.inl rfl)) (pgs_cons (pg_name (i := 3) scRb.nd rfl (Or.inl rfl)) pgs_nil)))
        (pss_cons (ps_if (pt_not (pt_val (pe_call G1 hr (by rfl) g1 F1.kp b1 .nil pass0 (pa_cons (pv 2) pa_nil)))) (pss_one ps_never) pss_nil)
        (pss_cons (ps_if (pt_cmp (pc_din hu (pv 2) (pv 1))) (pss_one ps_never) pss_nil)
        (pss_cons (ps_if (pt_not (pt_val (pe_call G2 hr (by rfl) g2 F2.kp b2 .nil pass0 (pa_cons (pv 3) pa_nil)))) (pss_one ps_never) pss_nil)
        (pss_one (ps_dput hu (pv 1) (pv 2) (pv 3) rfl))))))
      (pss_one (ps_ret (pv 1)))), ?_⟩
    intro D nD
    refine ⟨.ref l, rfl, l, rfl, ⟨_, Same.seqT (same_new nD) hl⟩, for_tup (K := K) (a := l) (xs := []) (fun i σ H1 => ∃ (y2 y3 : Option V), σ = [some (.ref l), some (.ref D), y2, y3] ∧ Same H H1 ∧ H1 D = some (.dK [])) ?_ ?_ ?_ ?_⟩
    · exact ⟨none, none, rfl, same_new nD, upd_same⟩
    · rintro i σ H1 _ ⟨_, _, _, s1, _⟩
      exact Same.seqT s1 hl
    · rintro i y σ H1 hy _
      simp at hy
    · rintro σ H1 ⟨y2, y3, rfl, s1, hD⟩
      exact ⟨_, rfl, q D H1 s1 nD hD⟩
def spNi0 (K : PySem.W.Frag) (C : Addr) : Sp := fun vs H Q _ => ∃ (net dx l : Addr) (rs : Rws) (c : Rq) (xs : List Str), vs = [.ref net, .ref l] ∧ H net = some (.ins C dx []) ∧ (SqT K H l [] ∧ rs = []) ∧ Fit H c xs rs ∧
  ∀ (D : Addr) (rs' : Rws) (H' : Hp), NetAt C H' net D c xs rs' → (∀ q ∈ rs', q ∈ rs) → But net H H' → Q .non H'
theorem ok_netinit0 {f C f1 f2 e : Addr} {fd fd1 fd2 : FuncData} {k : Nat} (F : FunD K "__init__" "Network.__init__" (defArgs sNi) (defBody sNi) (defScope sNi) [.ref e] [] f fd) (T : Bq mg) (X : Txt K mg C)
    (F1 : Fun K "requirements_by_name" "requirements_by_name" sRb f1 fd1) (b1 : Binds K fd1 ["rows"] []) (g1 : mg "requirements_by_name" = some (.ref f1)) (G1 : FnOk P w K mg base CX0 k f1 fd1 ["rows"] (spRb0 K))
    (F2 : Fun K "check_names_used" "check_names_used" sCu f2 fd2) (b2 : Binds K fd2 ["requirements"] []) (g2 : mg "check_names_used" = some (.ref f2)) (G2 : FnOk P w K mg base CX0 k f2 fd2 ["requirements"] spCu) :
    FnOk P w K mg base CX0 (k + 1) f fd ["self", "rows"] (spNi0 K C) := by
  refine F.ok scNi (fun vs H Q E h => ?_) (fun cdv A outer s H vs Q E hr h => ?_)
  · obtain ⟨net, dx, l, rs, c, xs, rfl, _⟩ := h
    rfl
  · obtain ⟨net, dx, l, rs, c, xs, rfl, hn, hl, fit, q⟩ := h
    have hu := hu_of hr
    refine ⟨_, pss_cons (ps_set (i := 2) scNi.nd rfl (Or.inr rfl) (pe_call G1 hr (by rfl) g1 F1.kp b1 .nil pass0 (pa_cons (pv 1) pa_nil)))
      (pss_cons (ps_expr (pe_call G2 hr (by rfl) g2 F2.kp b2 .nil pass0 (pa_cons (pv 2) pa_nil)))
      (pss_one (ps_fld (pv 0) (pe_dc (own := [("name", 3)]) (g := gName 3) (tt := tYes) (by rfl) scNi.nd (pi_list (pe_callB (call_sortedD rfl) (by rfl) T.T.srt (by decide +kernel) (pa_cons (pv 2) pa_nil))) (blkOk_by (N := nNi) (sc := defScope sNi) (by decide +kernel))
        (fun _ _ _ _ _ => pg_name (i := 3) scNi.nd rfl (Or.inl rfl)) (fun _ _ _ _ _ => pts_nil) (fun _ _ _ _ _ => pv 3) (fun _ _ _ _ _ => pe_dget hu (pv 2) (pv 3) (fun _ _ => rfl))) rfl))), ?_⟩
    refine ⟨.ref l, rfl, l, rs, c, xs, rfl, hl, fit, fun D H1 s1 nD hD => ?_⟩
    refine ⟨.ref D, rfl, D, rs, c, xs, rfl, hD, fit.same s1, fun H2 s2 => ?_⟩
    have hD2 := s2 _ _ hD
    have flen := fit.len
    have few := fit.few
    refine ⟨.ref D, rfl, D, _, rs.map (·.1), rfl, .inl hD2, by unfold kvs; rw [List.map_map, List.map_map]; rfl, by rw [List.length_map]; omega, fun ys p pm srt np => ?_⟩
    have s3 := same_new (o := .lst (ys.map V.str)) np
    have hp : (upd H2 p (.lst (ys.map V.str))) p = some (.lst (ys.map V.str)) := upd_same
    generalize upd H2 p (.lst (ys.map V.str)) = H3 at s3 hp ⊢
    obtain ⟨rs', e1, e2⟩ := pairs_of (rs := rs) ys fun y my => pm.mem_iff.mp my
    have nd1 : (rs.map (·.1)).Nodup := fit.keys.nodup_iff.mpr fit.nd
    have nd2 : ys.Nodup := pm.nodup_iff.mpr nd1
    have l2 : rs'.length = ys.length := by rw [← e1, List.length_map]
    refine ⟨p, rfl, ⟨_, SqL.of hp⟩, fun D2 nD2 => ?_⟩
    refine dc_it (walk_list (K := K) (a := p) (xs := ys.map V.str)) (fun i H4 => Same H3 H4 ∧ H4 D2 = some (.dK (kvs (rs'.take i)))) ⟨same_new nD2, upd_same⟩ (fun i H4 _ h => SqL.of (h.1 _ _ hp)) ?_ ?_
    · rintro i x H4 H4' hi ⟨s4, hD4⟩ ⟨rfl, hx⟩
      rw [List.getElem?_map] at hx
      obtain ⟨y, hy, rfl⟩ := Option.map_eq_some_iff.mp hx
      obtain ⟨r, hr'⟩ : ∃ r, rs'[i]? = some (y, r) := by
        rw [← e1, List.getElem?_map] at hy
        obtain ⟨⟨y', r⟩, h1, h2⟩ := Option.map_eq_some_iff.mp hy
        cases h2
        exact ⟨r, h1⟩
      have val := (e2 _ (List.mem_of_getElem? hr')).2
      have tk : rs'.take (i + 1) = rs'.take i ++ [(y, r)] := by
        rw [List.take_add_one, hr']
        rfl
      have new : y ∉ (rs'.take i).map (·.1) := by
        intro m
        have e : rs'.map (·.1) = (rs'.take i).map (·.1) ++ (rs'.drop i).map (·.1) := by rw [← List.map_append, List.take_append_drop]
        rw [← e1, e] at nd2
        refine (List.nodup_append.mp nd2).2.2 y m y ?_ rfl
        exact List.mem_map.mpr ⟨(y, r), List.mem_of_getElem? (i := 0) (by rw [List.getElem?_drop]; exact hr'), rfl⟩
      have hDD := s4 _ _ (s3 _ _ hD2)
      refine ⟨rfl, .str y, rfl, .ref D, rfl, .str y, rfl, D, _, rfl, .inl ⟨_, Sum.inr y, .inl hDD, rfl, val.symm⟩, _, Sum.inr y, rfl, hD4, ?_, fun b o eb => ?_, ?_⟩
      · rw [kvs_len, List.length_take]
        have := pm.length_eq
        rw [List.length_map] at this
        exact small1000 (by omega)
      · rw [upd_ne (ne_of_none eb nD2)]
        exact s4 b o eb
      · rw [upd_same, putK_new _ (val_out new), tk]
        show some (HO.dK (kvs (rs'.take i) ++ _)) = some (HO.dK ((rs'.take i ++ [(y, r)]).map _))
        rw [List.map_append]
        rfl
    · rintro H4 ⟨s4, hD4⟩
      rw [List.length_map, ← l2, List.take_length] at hD4
      have s04 : Same H H4 := ((s1.trans s2).trans s3).trans s4
      have nD2n : D2 ≠ net := (ne_of_none (s3 _ _ (s2 _ _ (s1 _ _ hn))) nD2).symm
      refine ⟨.ref net, rfl, net, C, dx, [], rfl, s04 _ _ hn, X.cl, X.nR, by show 0 < 1000; decide, ?_⟩
      have bt : But net H (upd H4 net (.ins C dx (putF "requirements" (.ref D2) []))) := fun b o eb nb => by
        rw [upd_ne nb]
        exact s04 b o eb
      have unis : ∀ r c' ps, ReqAt H r c' ps → ReqAt (upd H4 net (.ins C dx (putF "requirements" (.ref D2) []))) r c' ps := fun r c' ps u => bt.req hn ⟨fun _ z => (by cases z), fun _ _ z => (by cases z)⟩ u
      refine q D2 rs' _ ⟨⟨dx, upd_same⟩, ?_, ⟨fit.nd, fit.few, fit.nm, fit.ok, ?_, fun q mq => unis _ _ _ (fit.each _ (e2 q mq).1)⟩, ?_⟩ (fun q mq => (e2 q mq).1) bt
      · rw [upd_ne nD2n]
        exact hD4
      · rw [e1]
        exact pm.trans fit.keys
      · rw [e1]
        exact sorted_pairs srt
end
end Moot
namespace Moot
open PySem PySem.Spec PyProof.Rows L2
section
variable {P : Program} {w : World} {A : Around} {E : Value → Shared → Prop} {s : Shared}
theorem collect_tuple {l : Addr} {vs : List Value} {Q : List Value → Shared → Prop} (hl : IsTup s.heap l vs.toArray)
    (h : Q vs { s with heap := (s.heap.push (seqObj "list" #[] 0)).update s.heap.objs.size (Obj.mapSeq (· ++ vs.toArray)) }) (hsz : vs.length ≤ sizeLine) :
    wpAny (model P w) A (collect (.ref l)) Q E s := by
  obtain ⟨o, ho, hc, n, hd⟩ := id hl
  unfold collect
  refine wpAny_bind (wpAny_runValue (codeAny_builtin entry_proto_collect' ?_))
  show wpAny _ _ (do again (.builtin "list.__iadd__" ⟨[← newList [], .ref l], []⟩)) _ _ s
  refine wpAny_bind (wpAny_newList (wpAny_pure ⟨Code.quiet_builtin _ (by decide +kernel), codeAny_builtin entry_list_iadd' ?_⟩))
  show wpAny _ _ (Builtin.List.listExtendWith (.ref s.heap.objs.size) (.ref l) (.ref s.heap.objs.size)) _ _ { s with heap := s.heap.push (seqObj "list" #[] 0) }
  unfold Builtin.List.listExtendWith
  have ho' : (s.heap.push (seqObj "list" #[] 0)).get? l = some o := Heap.get?_push_of_some _ ho
  refine wpAny_bind (wpAny_typeOf (T := "tuple") ⟨o, ho', hc⟩ ?_)
  have ht : (Value.type "tuple" == Value.type "tuple") = true := by rfl
  rw [if_pos (by rw [ht]; simp)]
  refine wpAny_bind (listItems_at ho' hd ?_)
  refine wpAny_bind (listItems_at (xs := #[]) (n := 0) (Heap.get?_push_size _ rfl) rfl ?_)
  rw [if_neg (by simp)]
  refine wpAny_bind (listUpdate_at (xs := #[]) (n := 0) (Heap.get?_push_size _ rfl) rfl ?_ (Nat.zero_le _) (by show (#[] ++ vs.toArray).size ≤ sizeLine + 1; simp only [Array.size_append, List.size_toArray, List.length_nil]; omega))
  refine wpAny_pure ?_
  show wpAny (model P w) A (do
      let o ← load s.heap.objs.size
      match o.data with
      | .seq xs _ => pure xs.toList
      | _ => unsupported "internal:collect") Q E { s with heap := (s.heap.push (seqObj "list" #[] 0)).update s.heap.objs.size (Obj.mapSeq (· ++ vs.toArray)) }
  refine wpAny_bind (wpAny_load (get?_update_seq (Heap.get?_push_size _ rfl) _) ?_)
  show wpAny _ _ (pure ((#[] : Array Value) ++ vs.toArray).toList) Q E _
  rw [show ((#[] : Array Value) ++ vs.toArray).toList = vs by simp]
  exact wpAny_pure h
theorem sorted_tuple {l : Addr} {vs : List Value} {ss : List Str} {Q : Value → Shared → Prop} (hl : IsTup s.heap l vs.toArray) (hS : StrsAre vs ss) (h64 : vs.length < 64)
    (h : ∀ (out : Array Value) (ss' : List Str), StrsAre out.toList ss' → ss'.Perm ss → sortedS ss' = true → Q (.ref (s.heap.objs.size + 1)) { s with heap := sortedAll s.heap vs out }) :
    wpAny (model P w) A (call (.builtin "sorted") [.ref l]) Q E s := by
  apply Calls.call_function_entry kind_sorted plain_sorted entry_sorted (args_sorted1 _)
  unfold Builtin.«sorted»
  apply wpAny_bind (m := checkCount "sorted" 1 1 _)
  apply wpAny_pure
  refine wpAny_bind (collect_tuple hl ?_ (small64 h64))
  refine wpAny_bind (wpAny_newList ?_ (small64 h64))
  have hsz : ((s.heap.push (seqObj "list" #[] 0)).update s.heap.objs.size (Obj.mapSeq (· ++ vs.toArray))).objs.size = s.heap.objs.size + 1 := by
    rw [Heap.size_update, size_push']
  have hoL : (((s.heap.push (seqObj "list" #[] 0)).update s.heap.objs.size (Obj.mapSeq (· ++ vs.toArray))).push (seqObj "list" vs.toArray 0)).get? (s.heap.objs.size + 1) = some (seqObj "list" vs.toArray 0) := by
    rw [← hsz]; exact Heap.get?_push_size _ rfl
  show wpAny _ _ _ _ _ { s with heap := ((s.heap.push (seqObj "list" #[] 0)).update s.heap.objs.size (Obj.mapSeq (· ++ vs.toArray))).push (seqObj "list" vs.toArray 0) }
  rw [hsz]
  refine wpAny_bind (wpAny_holding (wpAny_call_entry slot_list_sort ⟨_, hoL, rfl⟩ entry_list_sort (list_sort_treeK strKind_oneLt hoL hS.keysOf (fun v₁ v₂ rest e => keyKind_strs (by rw [← e]; exact hS)) h64 fun st' a1 a2 => ⟨_, rfl, ?_⟩) (args_list_sort _)))
  obtain ⟨ss', h1, h2, h3⟩ := sorted_out_str hS a1 a2
  exact wpAny_pure ⟨_, rfl, h _ ss' h1 h2 h3⟩
end
/-- sorted(a tuple of texts) -/
def rSortedU (K : PySem.W.Frag) : List V → Hp → VK → Prop := fun vs H Q => ∃ (a : Addr) (xs : List Str), vs = [V.ref a] ∧ SqT K H a (xs.map V.str) ∧ xs.length < 64 ∧
  ∀ (ys : List Str) (p : Addr), ys.Perm xs → sortedS ys = true → H p = none → Q (.ref p) (upd H p (.lst (ys.map V.str)))
section
variable {X : Cx}
theorem cr_sortedU : CallR X (.builtin "sorted") (rSortedU X.K) := by
  intro pins s σ H vs us Q I r h
  obtain ⟨a, xs, rfl, hs, h64, q⟩ := h
  obtain ⟨its, rv, hl, _⟩ := I.tuple hs
  rw [Vals.ref1 r]
  have hlen0 := rv.length
  rw [List.length_map] at hlen0
  refine sorted_tuple hl rv.strs (by rw [← hlen0]; exact h64) fun out ys h1 h2 h3 => ?_
  obtain ⟨ep, he'⟩ := PyProof.Rows.sortedAll_at s.heap its out
  have hlen : (ys.map V.str).length ≤ sizeLine := by rw [List.length_map, h2.length_eq]; exact small64 h64
  exact ⟨.ref _, upd H (s.heap.objs.size + 1) (.lst (ys.map V.str)), I.laid (t' := s.toks) (fun _ _ => PyProof.Rows.sortedAll_old) (Nat.le_succ _) ⟨hlen, out.toList, ep, vals_of_strs h1, he'⟩, rfl, q ys _ h2 h3 (I.hok.fresh (Nat.le_succ _))⟩
end
end Moot
/-! Dicts whose keys bear tokens. -/
namespace Moot
open PySem PySem.Spec PyProof.Rows L2 PySem.W
/-- each key of the dict's object bears a token -/
def GdD (o : Obj) : Prop := ∃ es ep, o.data = .dict es ep ∧ ∀ e ∈ es.toList, GdV e.key
/-- a dict known so -/
def GDk (H : Hp) (a : Addr) (kvs : List (L2.Key × V)) : Prop := ∃ o, GdD o ∧ H a = some (.frz o (.dK kvs))
theorem GDk.rd {H : Hp} {a : Addr} {kvs : List (L2.Key × V)} (h : GDk H a kvs) : Rd H a (.dK kvs) := let ⟨o, _, e⟩ := h; .inr ⟨o, e⟩
theorem gd_at {h : Heap} {d : Addr} {o : Obj} {i : Nat} {key : Value} (g : GdD o) (e : h.get? d = some o) (k : h.KeyAt d i key) : GdV key := by
  obtain ⟨es, ep, ed, all⟩ := g
  obtain ⟨o', es', ep', ho, hd, hi, hk⟩ := k
  have eo : o' = o := Option.some.inj (ho.symm.trans e)
  rw [eo, ed] at hd
  injection hd with e1 e2
  subst e1
  rw [← hk]
  exact all _ (by simp)
section
variable {P : Program} {w : World} {κ : Type} [DecidableEq κ] {knd : PySem.KeyKind P w κ} {A : Around}
theorem walk_keysG (hh : A.handled = none) (I d : Addr) (hne : d ≠ I) (kvs : List (κ × Value)) (ep : Nat) {o : Obj} (g : GdD o) :
    Walks P w A I [I, d] [I] kvs.length (fun i v => (∃ k x, kvs[i]? = some (k, x) ∧ knd.is k v = true) ∧ GdV v) (fun i h => h.IsKeyIter I d i kvs.length ep ∧ h.DictAt knd d kvs ep ∧ h.get? d = some o) where
  sub := fun b m => List.mem_cons.mpr (.inl (List.mem_singleton.mp m))
  frame := fun _ _ _ st hk => ⟨st.1.at fun o e => hk I List.mem_cons_self o e, st.2.1.at' fun o e => hk d (List.mem_cons_of_mem _ List.mem_cons_self) o e, hk d (List.mem_cons_of_mem _ List.mem_cons_self) _ st.2.2⟩
  item := fun i s Q E hi st hQ => by
    have ⟨p, hx⟩ : ∃ p, kvs[i]? = some p := ⟨kvs[i], List.getElem?_eq_getElem hi⟩
    obtain ⟨k, x⟩ := p
    obtain ⟨keys, hk⟩ := st.2.1.keys
    obtain ⟨ka, kis⟩ := hk i k x hx
    exact wpAny_pyNext_dict_item_key st.1 st.2.1 ka hx fun h' it' sb => hQ (keys i) h' s.toks ⟨⟨k, x, hx, kis⟩, gd_at g st.2.2 ka⟩ ⟨it', st.2.1.extBut sb.extBut hne, sb.extBut d o hne st.2.2⟩ fun b o nb e => sb.extBut b o (fun z => nb (by rw [z]; exact List.mem_singleton.mpr rfl)) e
  done := fun s Q E st hQ => wpAny_pyNext_dict_end hh st.1 st.2.1 (List.getElem?_eq_none (Nat.le_refl _)) fun h' ext => hQ h' s.toks fun b o nb e => ext b o (fun z => nb (by rw [z]; exact List.mem_singleton.mpr rfl)) e
  self := fun _ _ _ _ st hQ => wpAny_pyIter_keyiter st.1 hQ
theorem src_dictG {d : Addr} {kvs : List (κ × Value)} {ep : Nat} {o : Obj} (lo : (d == sysModules) = false) (g : GdD o) : KdlSrc P w "dict" d d kvs.length (fun i v => (∃ k x, kvs[i]? = some (k, x) ∧ knd.is k v = true) ∧ GdV v) (fun h => h.DictAt knd d kvs ep ∧ h.get? d = some o) where
  type := fun _ m => m.1.dictOf.typeIs
  there := fun _ m => ⟨m.1.lt_size, m.1.lt_size⟩
  keep := fun _ _ m hk => ⟨m.1.at' fun o e => hk d (.inl rfl) o e, hk d (.inl rfl) _ m.2⟩
  notList := by decide
  notTuple := by decide
  hint := fun _ _ _ _ m q => kdl_hint_dict m.1.dictOf.typeIs q
  iter := fun _ _ hh m => ⟨_, _, (fun _ _ q => wpAny_pyIter_dict lo m.1 q), walk_keysG hh _ d (Nat.ne_of_lt m.1.lt_size) kvs ep g, ⟨_, Heap.get?_push_size _ rfl, rfl, rfl⟩, m.1.push _, Heap.get?_push_of_some _ m.2⟩
end
section
variable {X : Cx}
/-- list(d) of such a dict is a known list -/
theorem call_listDG (calm : X.calm = true) : CallR X (.type "list") (fun xs H Q => ∃ (a : Addr) (kvs : List (L2.Key × V)), xs = [.ref a] ∧ GDk H a kvs ∧ ∀ p o, H p = none → GdL o (kvs.map fun kv => kV kv.1) → Q (.ref p) (upd H p (.frz o (.lst (kvs.map fun kv => kV kv.1))))) := by
  intro pins s σ H xs us Q I r q
  obtain ⟨a, kvs, rfl, ⟨od, gd, hd⟩, q⟩ := q
  obtain ⟨u, rfl, rx⟩ := vals1 r
  cases rx
  obtain ⟨eo, hok⟩ := I.hok a _ hd
  obtain ⟨z, lo, vs, rel, dd⟩ := dk_rd I.hok (.inr ⟨od, hd⟩)
  obtain ⟨ep, hat⟩ := dd.dictAt
  have ek : (kvs.map fun kv => kV kv.1) = vs.map fun p => kV p.1 := by
    have e := congrArg (List.map kV) rel.keys
    rw [List.map_map, List.map_map] at e
    exact e
  refine kdl_call (src_dictG (knd := mixKind X.prog X.w) (kvs := vs) (ep := ep) lo gd) (I.ok.hd calm) ⟨hat, eo⟩ (by rw [← rel.length]; exact z) fun h' tk acc c' hk hD hacc => ?_
  have hv : Vals (vs.map fun p => kV p.1) acc.toList := keys_at (by rw [Array.length_toList]; exact hacc.1) fun j v e => (hacc.2 j v (by rw [← Array.getElem?_toList]; exact e)).1
  have gv : GdS acc.toList := fun v m => by
    obtain ⟨j, hj⟩ := List.getElem?_of_mem m
    exact (hacc.2 j v (by rw [← Array.getElem?_toList]; exact hj)).2
  have hv' : Vals (kvs.map fun kv => kV kv.1) acc.toList := by rw [ek]; exact hv
  have len : (kvs.map fun kv => kV kv.1).length ≤ sizeLine := by rw [List.length_map]; exact z
  have eD : h'.get? s.heap.objs.size = some { cls := .type "list", data := .seq acc.toList.toArray c' } := by rw [Array.toArray_toList]; exact hD
  exact ⟨.ref s.heap.objs.size, _, I.laid (t' := tk) hk (Nat.le_refl _) (show ObjOk X.prog X.w _ _ _ (.frz { cls := .type "list", data := .seq acc.toList.toArray c' } (.lst (kvs.map fun kv => kV kv.1))) from ⟨eD, len, acc.toList, c', hv', eD⟩), rfl, q _ _ (I.hok.fresh (Nat.le_refl _)) ⟨acc.toList, c', rfl, hv', gv⟩⟩
end
end Moot
namespace Moot
open PySem PySem.Spec PyProof.Rows L2 PySem.W
section
variable {P : Program} {w : World} {A : Around} {E : Value → Shared → Prop} {s : Shared}
theorem sorted_listG {l : Addr} {vs : List Value} {ss : List Str} {Q : Value → Shared → Prop} (hl : s.heap.IsList l vs.toArray) (hS : StrsAre vs ss) (few : vs.length < 64)
    (q : ∀ (out : Array Value) (zs : List Str), StrsAre out.toList zs → zs.Perm ss → sortedS zs = true → (∀ v ∈ out.toList, v ∈ vs) → Q (.ref (s.heap.objs.size + 1)) { s with heap := sortedAll s.heap vs out }) : wpAny (model P w) A (call (.builtin "sorted") [.ref l]) Q E s := by
  refine sortedK strKind_oneLt hl hS.keysOf (fun v₁ v₂ rest e => keyKind_strs (by rw [← e]; exact hS)) few fun st a1 a2 => ?_
  obtain ⟨zs, h1, h2, h3⟩ := sorted_out_str hS a1 a2
  refine q _ zs h1 h2 h3 fun v m => ?_
  rw [Array.toList_map] at m
  obtain ⟨p, mp, rfl⟩ := List.mem_map.mp m
  have pl : (arrOf st).toList.Perm (vs.zip vs) := by rw [← pairsOf_toList]; exact Array.perm_iff_toList_perm.mp a1
  obtain ⟨e1, e2⟩ := mem_zip_self (pl.mem_iff.mp mp)
  rw [← e1]
  exact e2
end
section
variable {X : Cx}
/-- sorted(xs) of a known list of texts is a known list -/
theorem cr_sortedG : CallR X (.builtin "sorted") (fun vs H Q => ∃ (a : Addr) (xs : List Str), vs = [V.ref a] ∧ GLs H a (xs.map V.str) ∧ xs.length < 64 ∧
    ∀ (ys : List Str) (p : Addr) (o : Obj), ys.Perm xs → sortedS ys = true → H p = none → GdL o (ys.map V.str) → Q (.ref p) (upd H p (.frz o (.lst (ys.map V.str))))) := by
  intro pins s σ H vs us Q I r h
  obtain ⟨a, xs, rfl, ⟨o, ⟨its, n, rfl, rv, g⟩, hH⟩, few, q⟩ := h
  obtain ⟨ea, hz, _⟩ := I.hok a _ hH
  rw [Vals.ref1 r]
  have len := rv.length
  rw [List.length_map] at len
  refine sorted_listG ⟨_, ea, rfl, n, rfl⟩ rv.strs (by rw [← len]; exact few) fun out ys h1 h2 h3 sub => ?_
  obtain ⟨ep, he⟩ := PyProof.Rows.sortedAll_at s.heap its out
  have lz : (ys.map V.str).length ≤ sizeLine := by rw [List.length_map, h2.length_eq]; exact small64 few
  have gv : GdS out.toList := fun v m => g v (sub v m)
  have vv : Vals (ys.map V.str) out.toList := vals_of_strs h1
  have he' : (sortedAll s.heap its out).get? (s.heap.objs.size + 1) = some { cls := .type "list", data := .seq out.toList.toArray ep } := by rw [Array.toArray_toList]; exact he
  exact ⟨.ref _, _, I.laid (t' := s.toks) (fun _ _ => PyProof.Rows.sortedAll_old) (Nat.le_succ _) (show ObjOk X.prog X.w _ _ _ (.frz { cls := .type "list", data := .seq out.toList.toArray ep } (.lst (ys.map V.str))) from ⟨he', lz, out.toList, ep, vv, he'⟩), rfl, q ys _ _ h2 h3 (I.hok.fresh (Nat.le_succ _)) ⟨out.toList, ep, rfl, vv, gv⟩⟩
/-- xs[i] of a known list, i not negative -/
theorem pek_ixG {nn : Nat} {a b : Expr} {ta tb : TE} {pos : Pos} (ha : PE X a ta) (hb : PE X b tb) (hs : PlainIx b) :
    PEK nn X (.Subscript a b pos) (fun σ H Q => ta σ H fun x H1 => tb σ H1 fun y H2 => ∃ l xs i v, x = .ref l ∧ y = .int i ∧ GLs H2 l xs ∧ 0 ≤ i ∧ atI xs i = some v ∧ Q v H2) := by
  refine ⟨fun pins s σ H Q _ I h => Subscript_ (thn (ha.run pins s σ H _ I h) fun v s1 ⟨x, H1, I1, r1, q1⟩ => thn (hb.run pins s1 σ H1 _ I1 q1) fun u s2 ⟨y, H2, I2, r2, q2⟩ => ?_)⟩
  obtain ⟨l, xs, i, z, rfl, rfl, ⟨o, ⟨its, n, rfl, rv, g⟩, hH⟩, i0, at', q⟩ := q2
  cases r1
  obtain ⟨t, rfl⟩ := r2
  obtain ⟨el, hz, _⟩ := I2.hok l _ hH
  obtain ⟨j, h1, h2, h3, h4, h5⟩ := atI_get at'
  obtain ⟨u, eu, ru⟩ := rv.get h2
  have len := rv.length
  have line := line63
  have ej : i.toNat = j := by
    rw [seqIndex_of i0 h5] at h1
    exact Option.some.inj h1
  exact item_listR ⟨_, el, rfl, n, rfl⟩ i0 (by omega) (by rw [ej]; simpa using eu) ⟨z, H2, I2, ru, g u (List.mem_of_getElem? eu), q⟩ (hs _ _)
/-- (x, y), x a text with a token, y no text -/
theorem pe_pairG {e1 e2 : Expr} {t1 t2 : TE} {x1} {pos : Pos} (h1 : PEK 0 X e1 t1) (h2 : PE X e2 t2) (hs : starEach [e1, e2] X.env = (false, eval e1 X.env) :: starEach [e2] X.env := by rfl) (hs2 : starEach [e2] X.env = (false, eval e2 X.env) :: starEach [] X.env := by rfl) :
    PE X (.Tuple [e1, e2] x1 pos) (fun σ H Q => t1 σ H fun x H1 => t2 σ H1 fun y H2 => ∃ a, y = .ref a ∧ ∀ p o, H2 p = none → GdT o [x, y] → Q (.ref p) (upd H2 p (.frz o (.tup [x, y])))) := by
  refine ⟨fun pins s σ H Q I h => ?_⟩
  refine wpAny_Tuple_spliced ?_
  rw [hs]
  show wpAny _ _ (spliced ((false, eval e1 X.env) :: backTo pos (starEach [e2] X.env))) _ _ s
  refine Calls.spliced_cons (thn (h1.run pins s σ H _ (Nat.zero_le _) I h) fun u s1 ⟨x, H1, I1, r1, g1, q1⟩ => ?_)
  have A2 := pa_cons h2 (pa_nil (X := X)) hs2
  refine thn (A2.run pos pins s1 σ H1 (fun xs H2 => match xs with
    | [y] => ∃ a, y = .ref a ∧ ∀ p o, H2 p = none → GdT o [x, y] → Q (.ref p) (upd H2 p (.frz o (.tup [x, y])))
    | _ => False) I1 q1) fun us s2 ⟨xs, H2, I2, r2, q2⟩ => ?_
  obtain ⟨y, a, ex, ey, q⟩ : ∃ y a, xs = [y] ∧ y = V.ref a ∧ ∀ p o, H2 p = none → GdT o [x, y] → Q (.ref p) (upd H2 p (.frz o (.tup [x, y]))) := by
    match xs, q2 with
    | [y], ⟨a, ey, q⟩ => exact ⟨y, a, rfl, ey, q⟩
  subst ex
  subst ey
  obtain ⟨v, rfl, rv⟩ := vals1 r2
  cases rv
  refine ⟨by show 2 ≤ sizeLine; decide, ?_⟩
  have fr : H2 s2.heap.objs.size = none := I2.hok.fresh (Nat.le_refl _)
  have vv : Vals [x, .ref a] [u, .ref a] := .cons r1 (.cons rfl .nil)
  have gg : GdS [u, .ref a] := fun v m => by
    rcases List.mem_cons.mp m with e | m
    · rw [e]; exact g1
    · rw [List.mem_singleton.mp m]; trivial
  exact ⟨.ref s2.heap.objs.size, _, I2.laid (t' := s2.toks) (fun b o e => Heap.get?_push_of_some _ e) (Nat.le_refl _) (show ObjOk X.prog X.w _ _ _ (.frz { cls := .type "tuple", data := .seq [u, Value.ref a].toArray } (.tup [x, .ref a])) from ⟨Heap.get?_push_size _ rfl, by show 2 ≤ sizeLine; decide, [u, .ref a], vv, IsTup.new _ _⟩), rfl, q _ _ fr ⟨[u, .ref a], 0, rfl, rfl, vv, gg⟩⟩
end
end Moot
/-! dict(xs), xs a list of pairs whose first items bear tokens. -/
namespace Moot
open PySem PySem.Spec PyProof.Rows L2 PySem.W
def GoodAt (h : Heap) (d : Addr) : Prop := ∃ o es ep, h.get? d = some o ∧ o.data = .dict es ep ∧ ∀ e ∈ es.toList, GdV e.key
theorem GoodAt.keep {h h' : Heap} {d : Addr} (g : GoodAt h d) (k : ∀ o, h.get? d = some o → h'.get? d = some o) : GoodAt h' d := let ⟨o, es, ep, e, r⟩ := g; ⟨o, es, ep, k o e, r⟩
section
variable {P : Program} {w : World} {κ : Type} [DecidableEq κ] {knd : PySem.KeyKind P w κ} {A : Around} {E : Value → Shared → Prop} {s : Shared}
theorem set_keys {d : Addr} {kvs : List (κ × Value)} {k : κ} {key v : Value} (hkey : knd.is k key = true) (hm : s.heap.DictOf knd d kvs) (g : GoodAt s.heap d) (gk : GdV key) (fits : kvs.length ≤ sizeLine) :
    wpAny (model P w) A (dictSet d key v) (fun _ s' => GoodAt s'.heap d) E s := by
  obtain ⟨o, es, ep, ho, hc, hd, hk, hp, hn⟩ := hm
  have all : ∀ e ∈ es.toList, GdV e.key := by
    obtain ⟨o', es', ep', ho', hd', all⟩ := g
    have eo : o' = o := Option.some.inj (ho'.symm.trans ho)
    rw [eo, hd] at hd'
    injection hd' with e1 e2
    rw [e1]
    exact all
  have size : es.size ≤ sizeLine := by
    have e1 := hp.length
    rw [Array.length_toList] at e1
    omega
  unfold dictSet
  refine wpAny_holding (wpAny_bind (knd.pyHash hkey ?_))
  unfold dictSetHashed
  refine wpAny_holding (wpAny_bind (wpAny_dictFind_of (s := { s with toks := s.toks + 1 }) hkey ho hd hk ?_))
  cases hi : es.findIdx? fun e => knd.is k e.key with
  | some i =>
    refine wpAny_bind (wpAny_rule (wpAny_bind (wpAny_updateDict (s := { s with toks := s.toks + 1 }) ho hd (wpAny_point ?_))))
    refine ⟨_, _, ep, Heap.get?_update_self _ ho (Obj.isFreed_of_dict (Obj.data_mapDict hd _)), Obj.data_mapDict hd _, fun e me => ?_⟩
    obtain ⟨j, hj⟩ := List.getElem?_of_mem me
    rw [Array.getElem?_toList, Array.getElem?_modify] at hj
    split at hj
    · obtain ⟨e0, h0, rfl⟩ := Option.map_eq_some_iff.mp hj
      exact all e0 (List.mem_of_getElem? (by rw [Array.getElem?_toList]; exact h0))
    · exact all e (List.mem_of_getElem? (by rw [Array.getElem?_toList]; exact hj))
  | none =>
    refine wpAny_bind (wpAny_rule (wpAny_updateDictKeys (hz := size) (s := { s with toks := s.toks + 1 }) ho hd ?_))
    refine ⟨_, _, ep + 1, Heap.get?_update_self _ ho (Obj.isFreed_of_dict (Obj.data_mapDictKeys hd _)), Obj.data_mapDictKeys hd _, fun e me => ?_⟩
    rw [Array.toList_push] at me
    rcases List.mem_append.mp me with me | me
    · exact all e me
    · rw [List.mem_singleton.mp me]
      exact gk
theorem set_good {d : Addr} {kvs : List (κ × Value)} {k : κ} {key v : Value} {Q : Unit → Shared → Prop} (hkey : knd.is k key = true) (hm : s.heap.DictOf knd d kvs) (g : GoodAt s.heap d) (gk : GdV key) (fits : kvs.length ≤ sizeLine)
    (q : ∀ h', h'.DictOf knd d (stored kvs k v) → Heap.SameBut d s.heap h' → GoodAt h' d → Q () { s with heap := h', toks := s.toks + 1 }) : wpAny (model P w) A (dictSet d key v) Q E s := by
  have f1 : wpAny (model P w) A (dictSet d key v) (fun _ s' => ∃ h', h'.DictOf knd d (stored kvs k v) ∧ Heap.SameBut d s.heap h' ∧ s' = { s with heap := h', toks := s.toks + 1 }) E s := wpAny_dictSet_pairs hkey hm (fun h' a b => ⟨h', a, b, rfl⟩) fits
  have f2 : wpAny (model P w) A (dictSet d key v) (fun _ s' => GoodAt s'.heap d) E s := set_keys hkey hm g gk fits
  refine wpAny_mono (wpAny_both f1 f2) ?_ fun e s' h => h.1
  rintro ⟨⟩ s' ⟨⟨h', a, b, rfl⟩, c⟩
  exact q h' a b c
end
section
variable {P : Program} {w : World} {A : Around} {E : Value → Shared → Prop}
theorem loop_good {R : Result → Shared → Prop} {S I l : Addr} {items : Array Value} {res : Value} (hh : A.handled = none) (lI : l ≠ I) (SI : S ≠ I) (Sl : S ≠ l) :
    ∀ (rest : List (L2.Key × Value)) (i : Nat) (acc : List (L2.Key × Value)) (ix : Int) (t : Tok) (s : Shared), items.size = i + rest.length → acc.length + rest.length ≤ sizeLine →
      (∀ (j : Nat) (q : L2.Key × Value), rest[j]? = some q → ∃ (b : Addr) (u : Value), items[i + j]? = some (.ref b) ∧ b ≠ S ∧ b ≠ I ∧ IsTup s.heap b #[u, q.2] ∧ keyIs q.1 u = true ∧ GdV u) →
      s.heap.IsListIter I l i → s.heap.IsList l items → s.heap.DictOf (mixKind P w) S acc → GoodAt s.heap S →
      (∀ h' tk, h'.DictOf (mixKind P w) S (merged acc rest) → GoodAt h' S → (∀ b o, b ≠ S → b ≠ I → s.heap.get? b = some o → h'.get? b = some o) → R (.ok (.ret res)) { s with heap := h', toks := tk }) →
      codeAny (model P w) A (.builtin "dict.update.loop" ⟨[.ref S, .ref I, .int ix t, res], []⟩) R s
  | [], i, acc, ix, t, s, sz, ln, ht, it, il, m, gd, hR => by
    refine codeAny_builtin ud_entry ?_
    rw [Around.under_plainId ud_plain _]
    refine wpAny_bind (m := pyNext (.ref I)) (wpAny_pyNext_list_end (A := A.in1) hh it il (Array.getElem?_eq_none (Nat.le_of_eq sz)) fun h' he => ?_)
    refine wpAny_bind (m := Builtin.Dict.addKeywords S []) (wpAny_pure (wpAny_pure ?_))
    exact hR h' s.toks (m.extBut he SI) (gd.keep fun o e => he S o SI e) fun b o _ hb e => he b o hb e
  | q :: rest, i, acc, ix, t, s, sz, ln, ht, it, il, m, gd, hR => by
    obtain ⟨b, u, hb, bS, bI, tup, hk, gu⟩ := ht 0 q rfl
    rw [List.length_cons] at sz ln
    refine codeAny_builtin ud_entry ?_
    rw [Around.under_plainId ud_plain _]
    refine wpAny_bind (m := pyNext (.ref I)) (wpAny_pyNext_list_item (x := .ref b) it il (by simpa using hb) fun h1 it1 sb1 => ?_)
    have tup1 : IsTup h1 b #[u, q.2] := tup.extBut sb1.extBut bI
    have m1 : h1.DictOf (mixKind P w) S acc := m.extBut sb1.extBut SI
    have gd1 : GoodAt h1 S := gd.keep fun o e => sb1.extBut S o SI e
    obtain ⟨o, ho, hc, n, hd⟩ := id tup1
    show wpAny _ A.in1 (holding [Value.ref b] _ >>= _) _ _ _
    refine wpAny_bind (wpAny_holding (wpAny_bind (wpAny_tryCatch ?_)))
    unfold Builtin.Dict.pairItems
    refine wpAny_bind (wpAny_typeOf (T := "tuple") ⟨o, ho, hc⟩ ?_)
    rw [if_pos (by first | decide | rfl | simp)]
    refine wpAny_bind (wpAny_seqItems ho hd (wpAny_pure ?_))
    show wpAny _ A.in1 (holding [u, q.2] (dictSet S u q.2)) _ _ _
    refine wpAny_holding (set_good (knd := mixKind P w) (k := q.1) hk m1 gd1 gu (by omega) fun h2 m2 sb2 gd2 => ?_)
    refine wpAny_pure ⟨plainId_quiet ud_plain _, loop_good (items := items) hh lI SI Sl rest (i + 1) (stored acc q.1 q.2) (ix + 1) 0 _ (show items.size = i + 1 + rest.length by omega) ?_ (fun j q' e => ?_) ?_ ?_ m2 gd2 fun h' tk d' g' k => ?_⟩
    · have := stored_length_le acc q.1 q.2
      omega
    · obtain ⟨b2, u2, e1, e2, e3, e4, e5, e6⟩ := ht (j + 1) q' (by simpa using e)
      exact ⟨b2, u2, by rw [show i + 1 + j = i + (j + 1) by omega]; exact e1, e2, e3, (e4.extBut sb1.extBut e3).extBut sb2.extBut e2, e5, e6⟩
    · exact it1.at fun o' e => sb2.extBut I o' (Ne.symm SI) e
    · exact (il.extBut sb1.extBut lI).extBut sb2.extBut (Ne.symm Sl)
    · exact hR h' tk d' g' fun c oc n1 n2 e => k c oc n1 n2 (sb2.extBut c oc n1 (sb1.extBut c oc n2 e))
theorem dict_good {s : Shared} {l : Addr} {ol : Obj} {items : Array Value} {n : Nat} {prs : List (L2.Key × Value)} {Q : Value → Shared → Prop} (hh : A.handled = none) (hl : s.heap.get? l = some ol) (hc : ol.cls = .type "list") (hd : ol.dict = none)
    (dat : ol.data = .seq items n) (sz : items.size = prs.length) (ln : prs.length ≤ sizeLine)
    (ht : ∀ (j : Nat) (q : L2.Key × Value), prs[j]? = some q → ∃ (b : Addr) (u : Value), items[j]? = some (.ref b) ∧ IsTup s.heap b #[u, q.2] ∧ keyIs q.1 u = true ∧ GdV u)
    (q : ∀ h' tk, h'.DictOf (mixKind P w) s.heap.objs.size (merged [] prs) → GoodAt h' s.heap.objs.size → (∀ b o, s.heap.get? b = some o → h'.get? b = some o) → Q (.ref s.heap.objs.size) { s with heap := h', toks := tk }) :
    wpAny (model P w) A (call (.type "dict") [.ref l]) Q E s := by
  refine callType_codes (Q₁ := fun obj s₁ => obj = .ref s.heap.objs.size ∧ s₁ = { s with heap := s.heap.push { cls := .type "dict", data := .dict #[] } }) PySem.F.kt_called_dict (PySem.F.kt_typeCall_dict_1 _) PySem.F.entry_dict_init (kt_code_dict_new _ ⟨rfl, rfl⟩) ?_
  rintro obj s₁ ⟨rfl, rfl⟩
  have new : (s.heap.push { cls := .type "dict", data := .dict #[] }).DictOf (mixKind P w) s.heap.objs.size [] := Heap.DictOf.new s.heap
  have gnew : GoodAt (s.heap.push { cls := .type "dict", data := .dict #[] }) s.heap.objs.size := ⟨_, #[], 0, Heap.get?_push_size _ rfl, rfl, fun e m => by cases m⟩
  have k0 : ∀ b o, s.heap.get? b = some o → (s.heap.push { cls := .type "dict", data := .dict #[] }).get? b = some o := fun b o e => Heap.get?_push_of_some _ e
  refine ⟨new.typeIs, PySem.F.args_dict_init_2 _ _, ?_⟩
  unfold Builtin.«dict.__init__»
  refine wpAny_bind ?_
  unfold Builtin.Dict.selfAndRest
  refine wpAny_bind (wpAny_notOrdered_dict new.typeIs ?_)
  show wpAny _ _ (pure (s.heap.objs.size, [Value.ref l])) _ _ _
  refine wpAny_pure ?_
  show wpAny _ _ (Builtin.Dict.updateFrom "dict.__init__" s.heap.objs.size (.ref l) [] .none) _ _ _
  unfold Builtin.Dict.updateFrom
  refine wpAny_bind (wpAny_typeOf (T := "list") ⟨ol, k0 _ _ hl, hc⟩ ?_)
  rw [if_pos (by first | decide | rfl | simp)]
  refine wpAny_bind (miss_list (k0 _ _ hl) hc dat hd hh fun h1 tk1 k1 => ?_)
  rw [if_pos (show (none : Option Value).isNone = true from rfl)]
  refine wpAny_bind (wpAny_rule ?_)
  have il1 : h1.IsList l items := ⟨ol, k1 _ _ (k0 _ _ hl), hc, n, dat⟩
  have lt1 : s.heap.objs.size < h1.objs.size := Heap.lt_size (k1 _ _ (Heap.get?_push_size s.heap (o := { cls := .type "dict", data := .dict #[] }) rfl))
  refine wpAny_bind (wpAny_pyIter_list il1 ?_)
  have k2 : ∀ b o, h1.get? b = some o → (h1.push { cls := .type "list_iterator", data := .fields #[.ref l, .int 0 0] }).get? b = some o := fun b o e => Heap.get?_push_of_some _ e
  have k02 : ∀ b o, s.heap.get? b = some o → (h1.push { cls := .type "list_iterator", data := .fields #[.ref l, .int 0 0] }).get? b = some o := fun b o e => k2 _ _ (k1 _ _ (k0 _ _ e))
  have ltl : l < s.heap.objs.size := Heap.lt_size hl
  have key := loop_good (P := P) (w := w) (A := A.in1) (R := wants (fun r s₂ => r = .none ∧ Q (.ref s.heap.objs.size) s₂) E) (S := s.heap.objs.size) (I := h1.objs.size) (l := l) (items := items) (res := Value.none) hh
    (Nat.ne_of_lt (Nat.lt_trans ltl lt1)) (Nat.ne_of_lt lt1) (Nat.ne_of_gt ltl) prs 0 [] 0 0
    { s with heap := h1.push { cls := .type "list_iterator", data := .fields #[.ref l, .int 0 0] }, toks := tk1 } (by rw [sz, Nat.zero_add]) (by rw [List.length_nil, Nat.zero_add]; exact ln)
    (fun j q e => by
      obtain ⟨b, u, e1, e2, e3, e4⟩ := ht j q e
      have hb : b < s.heap.objs.size := e2.lt
      exact ⟨b, u, by rw [Nat.zero_add]; exact e1, Nat.ne_of_lt hb, Nat.ne_of_lt (Nat.lt_trans hb lt1), e2.keeps k02, e3, e4⟩)
    ⟨_, Heap.get?_push_size _ rfl, rfl, rfl⟩ (il1.at fun o e => k2 _ _ e) ((new.at fun o e => k1 _ _ e).at fun o e => k2 _ _ e) (gnew.keep fun o e => k2 _ _ (k1 _ _ e))
    (fun h' tk d' g' k => ⟨rfl, q h' tk d' g' fun b o e => k b o (Nat.ne_of_lt (Heap.lt_size e)) (Nat.ne_of_lt (Nat.lt_trans (Heap.lt_size e) lt1)) (k02 b o e)⟩)
  first
    | exact wpAny_pure ⟨plainId_quiet ud_plain _, key⟩
    | exact wpAny_bind (wpAny_pure (wpAny_pure ⟨plainId_quiet ud_plain _, key⟩))
end
section
variable {X : Cx}
theorem pairs_good {pins : List (Addr × Obj)} {σ : L2.St} {H : Hp} {s : Shared} (I : Inv X pins σ H s) : ∀ {ps : List Addr} {kvs : List (L2.Key × V)}, Paired (fun p kv => GTp H p [kV kv.1, kv.2]) ps kvs →
    ∃ prs : List (L2.Key × Value), KV kvs prs ∧ prs.length = ps.length ∧ ∀ (j : Nat) (q : L2.Key × Value), prs[j]? = some q → ∃ (b : Addr) (u : Value), ps[j]? = some b ∧ IsTup s.heap b #[u, q.2] ∧ keyIs q.1 u = true ∧ GdV u
  | _, _, .nil => ⟨[], .nil, rfl, fun j q e => by cases e⟩
  | _, _, .cons (a := p) (b := kv) h t => by
    obtain ⟨prs, r, hl, hp⟩ := pairs_good I t
    obtain ⟨o, ⟨its, n, oc, od, rv, g⟩, hH⟩ := h
    obtain ⟨eo, _⟩ := I.hok p _ hH
    obtain ⟨u, y, ei, ru, ry⟩ := vals2 rv
    subst ei
    refine ⟨(kv.1, y) :: prs, .cons ⟨rfl, ry⟩ r, congrArg (· + 1) hl, fun j q e => ?_⟩
    cases j with
    | zero =>
      cases Option.some.inj e
      exact ⟨p, u, rfl, ⟨o, eo, oc, n, od⟩, kV_is (P := X.prog) (w := X.w) ru, g u List.mem_cons_self⟩
    | succ j => exact hp j q e
/-- dict(xs), xs such a list: a known dict -/
theorem call_dictG (calm : X.calm = true) : CallR X (.type "dict") (fun xs H Q => ∃ (a : Addr) (ps : List Addr) (kvs : List (L2.Key × V)), xs = [.ref a] ∧ SqL X.K H a (ps.map V.ref) ∧ Paired (fun p kv => GTp H p [kV kv.1, kv.2]) ps kvs ∧
    ∀ p o, H p = none → GdD o → Q (.ref p) (upd H p (.frz o (.dK (mergeK [] kvs))))) := by
  intro pins s σ H xs us Q I r q
  obtain ⟨a, ps, kvs, rfl, hq, hp, q⟩ := q
  obtain ⟨u, rfl, rx⟩ := vals1 r
  cases rx
  obtain ⟨its, rv, pl, hz⟩ := I.list hq
  have ei := refs_at rv
  subst ei
  rw [List.length_map] at hz
  obtain ⟨prs, rel, hl, hpr⟩ := pairs_good I hp
  obtain ⟨o, n, ho, hc, hd, dat⟩ := pl
  refine dict_good (prs := prs) (I.ok.hd calm) ho hc hd dat (by simp [hl]) (by rw [hl]; exact hz) (fun j q' e => ?_) fun h' tk d' g' k => ?_
  · obtain ⟨b, u, e1, e2, e3, e4⟩ := hpr j q' e
    exact ⟨b, u, by simp [e1], e2, e3, e4⟩
  · obtain ⟨o', es, ep, eo, ed, all⟩ := g'
    have lo : (s.heap.objs.size == sysModules) = false := beq_eq_false_iff_ne.mpr (Nat.ne_of_gt I.big)
    have len : (mergeK [] kvs).length ≤ sizeLine := by
      refine Nat.le_trans (length_mergeK kvs []) ?_
      rw [List.length_nil, Nat.zero_add, rel.length, hl]
      exact hz
    exact ⟨.ref s.heap.objs.size, _, I.laid (t' := tk) k (Nat.le_refl _) (show ObjOk X.prog X.w _ _ _ (.frz o' (.dK (mergeK [] kvs))) from ⟨eo, len, lo, merged [] prs, KV.merge rel .nil, d'⟩), rfl, q _ _ (I.hok.fresh (Nat.le_refl _)) ⟨es, ep, ed, all⟩⟩
end
end Moot
namespace Moot
open PySem PySem.Spec PyProof.Rows L2
/-- rows whose tuples are known, their names with tokens -/
def RowsG (H : Hp) (ts : List Addr) (rs : Rws) : Prop := ts.length = rs.length ∧ ∀ (i : Nat) (t : Addr), ts[i]? = some t → ∃ x r, rs[i]? = some (x, r) ∧ GTp H t [.str x, .ref r]
theorem GTp.tups {H H' : Hp} {l : Addr} {xs : List V} (h : GTp H l xs) (t : Tups H H') : GTp H' l xs := let ⟨o, g, e⟩ := h; ⟨o, g, t.frz _ _ _ e⟩
theorem RowsG.tups {H H' : Hp} {ts : List Addr} {rs : Rws} (h : RowsG H ts rs) (t : Tups H H') : RowsG H' ts rs := ⟨h.1, fun i a e => let ⟨x, r, h1, h2⟩ := h.2 i a e; ⟨x, r, h1, h2.tups t⟩⟩
theorem RowsG.snoc {H : Hp} {ts : List Addr} {rs : Rws} {p r : Addr} {x : Str} (h : RowsG H ts rs) (e : GTp H p [.str x, .ref r]) : RowsG H (ts ++ [p]) (rs ++ [(x, r)]) := by
  refine ⟨by rw [List.length_append, List.length_append, h.1]; rfl, fun j tj hj => ?_⟩
  by_cases lt : j < ts.length
  · rw [List.getElem?_append_left lt] at hj
    obtain ⟨x', r', h1, h2⟩ := h.2 j tj hj
    exact ⟨x', r', by rw [List.getElem?_append_left (by rw [← h.1]; exact lt)]; exact h1, h2⟩
  · rw [List.getElem?_append_right (by omega)] at hj
    have l2 := (List.getElem?_eq_some_iff.mp hj).1
    rw [List.length_singleton] at l2
    have j0 : j - ts.length = 0 := by omega
    rw [j0] at hj
    cases hj
    exact ⟨x, r, by rw [List.getElem?_append_right (by rw [← h.1]; omega), ← h.1, j0]; rfl, e⟩
theorem RowsG.put {H : Hp} {ts : List Addr} {rs : Rws} {p r : Addr} {x : Str} {j : Nat} (h : RowsG H ts rs) (hj : j < ts.length) (e : GTp H p [.str x, .ref r]) : RowsG H (ts.set j p) (rs.set j (x, r)) := by
  refine ⟨by rw [List.length_set, List.length_set, h.1], fun i ti hi => ?_⟩
  by_cases eq : j = i
  · subst eq
    rw [List.getElem?_set_self hj] at hi
    cases hi
    exact ⟨x, r, List.getElem?_set_self (by rw [← h.1]; exact hj), e⟩
  · rw [List.getElem?_set_ne eq] at hi
    obtain ⟨x', r', h1, h2⟩ := h.2 i ti hi
    exact ⟨x', r', by rw [List.getElem?_set_ne eq]; exact h1, h2⟩
theorem RowsG.at {H : Hp} {ts : List Addr} {rs : Rws} (h : RowsG H ts rs) : RowsAt H ts rs := ⟨h.1, fun i t e => let ⟨x, r, h1, ⟨o, _, h2⟩⟩ := h.2 i t e; ⟨x, r, h1, .inr ⟨o, h2⟩⟩⟩
theorem rows_pairedG {H : Hp} : ∀ (ts : List Addr) (rs : Rws), RowsG H ts rs → Paired (fun p kv => GTp H p [kV kv.1, kv.2]) ts (kvs rs)
  | [], rs, h => by
    have : rs = [] := List.length_eq_zero_iff.mp h.1.symm
    subst this
    exact .nil
  | t :: ts, [], h => by cases h.1
  | t :: ts, q :: rs, h => by
    obtain ⟨x, r, e, ht⟩ := h.2 0 t rfl
    have e' : q = (x, r) := Option.some.inj e
    subst e'
    exact .cons ht (rows_pairedG ts rs ⟨Nat.succ.inj h.1, fun i a ea => h.2 (i + 1) a ea⟩)
section
variable {P : Program} {w : World} {K : PySem.W.Frag} {mg : Str → Option Value} {base : Heap}
/-! _law_rows -/
def spRowsG : Sp := fun vs H Q _ => ∃ (b g m : Addr) (n most : Nat), vs = [.ref b, .int most] ∧ Box H b g m n ∧ n ≤ 700000 ∧ 1 ≤ most ∧ most ≤ 8 ∧
  ∀ (l : Addr) (ts : List Addr) (rs : Rws) (c : Rq) (xs : List Str) (H' : Hp), H l = none → H' l = some (.lst (ts.map V.ref)) → RowsG H' ts rs → Fit H' c xs rs → 1 ≤ xs.length → xs.length ≤ most → Box H' b g m (n + 3000) → Keep b g H H' → Q (.ref l) H'
theorem ok_rowsG {f f1 f2 f3 : Addr} {fd fd1 fd2 fd3 : FuncData} {k : Nat} (F : Fun K "_law_rows" "_law_rows" sRows f fd)
    (FT : Fun K "_law_take" "_law_take" sTake f1 fd1) (bT : Binds K fd1 ["_law_box_here", "_law_size"] []) (gT : mg "_law_take" = some (.ref f1)) (GT : FnOk P w K mg base CX0 k f1 fd1 ["_law_box_here", "_law_size"] spTake)
    (FN : Fun K "_law_names" "_law_names" sNames f2 fd2) (bN : Binds K fd2 ["_law_box_here", "_law_many"] []) (gN : mg "_law_names" = some (.ref f2)) (GN : FnOk P w K mg base CX0 k f2 fd2 ["_law_box_here", "_law_many"] spNames)
    (FR : Fun K "_law_requirement" "_law_requirement" sReq f3 fd3) (bR : Binds K fd3 ["_law_box_here", "_law_names_here"] []) (gR : mg "_law_requirement" = some (.ref f3)) (GR : FnOk P w K mg base CX0 k f3 fd3 ["_law_box_here", "_law_names_here"] spReq) (T : Blt mg) :
    FnOk P w K mg base CX0 (k + 1) f fd ["_law_box_here", "_law_most"] spRowsG := by
  refine F.ok scRows (fun vs H Q E h => ?_) (fun cdv A outer s H vs Q E hr h => ?_)
  · obtain ⟨b, g, m, n, most, rfl, _⟩ := h
    rfl
  · obtain ⟨b, g, m, n, most, rfl, B, hn, m1, m8, q⟩ := h
    refine ⟨_, pss_cons (ps_set (i := 2) scRows.nd rfl (Or.inl rfl) (pe_call GN hr (by rfl) gN FN.kp bN .nil pass0 (pa_cons (pv 0) (pa_cons (pe_op op_add pe_int (pe_call GT hr (by rfl) gT FT.kp bT .nil pass0 (pa_cons (pv 0) (pa_cons (pv 1) pa_nil)))) pa_nil))))
      (pss_cons (ps_set (i := 3) scRows.nd rfl (Or.inl rfl) (pe_callTy call_tuple_of (by rfl) T.tup (by decide +kernel) (pa_cons (pe_slice sl_list (pv 2) po_none (po_some (pe_callB (call_max2 rfl) (by rfl) T.max (by decide +kernel) (pa_cons pe_int (pa_cons (pe_op op_sub (pe_callB call_len_seq (by rfl) T.len PySem.boot_len (pa_cons (pv 2) pa_nil)) (pe_call GT hr (by rfl) gT FT.kp bT .nil pass0 (pa_cons (pv 0) (pa_cons pe_int pa_nil)))) pa_nil))))) pa_nil)))
      (pss_cons (ps_set (i := 4) scRows.nd rfl (Or.inl rfl) (pe_call GT hr (by rfl) gT FT.kp bT .nil pass0 (pa_cons (pv 0) (pa_cons pe_int pa_nil))))
      (pss_cons (ps_set (i := 5) scRows.nd rfl (Or.inl rfl) (pe_lst pa_nil))
      (pss_cons (ps_for PassesOwn.never rfl (pi_range1 rfl T.rng (pa_cons (pe_callB call_len_seq (by rfl) T.len PySem.boot_len (pa_cons (pv 2) pa_nil)) pa_nil)) (pg_name (i := 6) scRows.nd rfl (Or.inl rfl))
        (pss_cons (ps_set (i := 7) scRows.nd rfl (Or.inl rfl) (pe_callTy call_tuple_of (by rfl) T.tup (by decide +kernel) (pa_cons (pe_slice sl_list (pe_op op_cat (pe_slice sl_list (pv 2) (po_some (pv 6)) po_none) (pe_slice sl_list (pv 2) po_none (po_some (pv 6)))) po_none (po_some pe_int)) pa_nil)))
        (pss_cons (ps_set (i := 8) scRows.nd rfl (Or.inl rfl) (pe_lst (pa_cons (pe_tup (pa_cons (pe_op op_add (pe_op op_fdiv (pe_op op_mul pe_int (pe_callB call_len_seq (by rfl) T.len PySem.boot_len (pa_cons (pv 3) pa_nil))) pe_int) pe_int) (pa_cons (pv 3) pa_nil)))
            (pa_cons (pe_tup (pa_cons (pe_op op_add (pe_op op_fdiv (pe_callB call_len_seq (by rfl) T.len PySem.boot_len (pa_cons (pv 3) pa_nil)) pe_int) pe_int) (pa_cons (pv 3) pa_nil)))
            (pa_cons (pe_tup (pa_cons (pe_callB (call_min2 rfl) (by rfl) T.min (by decide +kernel) (pa_cons pe_int (pa_cons (pe_callB call_len_seq (by rfl) T.len PySem.boot_len (pa_cons (pv 7) pa_nil)) pa_nil))) (pa_cons (pv 7) pa_nil))) pa_nil)))))
        (pss_one (ps_expr (pe_bm PySem.F.plainAttrs_list PySem.F.slot_list_append PySem.F.type_list_append mt_append (pv 5) (pa_cons (pe_pairG (pek_ixG (pv 2) (pv 6) (fun _ _ => rfl))
            (pe_ix ix_list (pe_op op_cat (pv 8) (pe_lst (pa_cons (pe_call GR hr (by rfl) gR FR.kp bR .nil pass0 (pa_cons (pv 0) (pa_cons (pv 2) pa_nil))) pa_nil))) (pv 4) (fun _ _ => rfl))) pa_nil)))))))
      (pss_cons (ps_if (pt_cmpR op_eq (pe_call GT hr (by rfl) gT FT.kp bT .nil pass0 (pa_cons (pv 0) (pa_cons pe_int pa_nil))) pe_int (nomark _))
        (pss_cons (ps_set (i := 6) scRows.nd rfl (Or.inl rfl) (pe_call GT hr (by rfl) gT FT.kp bT .nil pass0 (pa_cons (pv 0) (pa_cons (pe_callB call_len_seq (by rfl) T.len PySem.boot_len (pa_cons (pv 2) pa_nil)) pa_nil))))
        (pss_one (ps_asg (pe_pairG (pek_ixG (pv 2) (pv 6) (fun _ _ => rfl)) (pe_call GR hr (by rfl) gR FR.kp bR .nil pass0 (pa_cons (pv 0) (pa_cons (pv 2) pa_nil)))) (pg_sub (pv 5) (pv 6) L2.set_list)))) pss_nil)
      (pss_one (ps_ret (pv 5)))))))), ?_⟩
    refine ⟨.ref b, rfl, .ref b, rfl, .int most, rfl, b, g, m, n, most, rfl, B, by omega, by omega, by omega, fun v0 H1 a0 a1 B1 K1 => ⟨_, _, rfl, rfl, ?_⟩⟩
    have ev : (1 : Int) + v0 = (((1 + v0).toNat : Nat) : Int) := by omega
    refine ⟨b, g, m, _, (1 + v0).toNat, by rw [← ev]; rfl, B1, by omega, by omega, fun np xs H2 nnp h2 xl nd nm B2 K2 => ?_⟩
    have x1 : 1 ≤ xs.length := by omega
    have x8 : xs.length ≤ 8 := by omega
    have xm : xs.length ≤ most := by omega
    obtain ⟨npb, npg⟩ := B2.apart h2
    obtain ⟨o2, g2, e2⟩ := h2
    -- core
    refine ⟨.ref np, rfl, .ref np, rfl, np, _, rfl, .inl (.inl (.inr ⟨o2, e2⟩)), .ref b, rfl, b, g, m, _, 2, rfl, B2, by omega, by decide, by decide, fun v1 H3 b0 b1 B3 K3 => ⟨_, _, rfl, rfl, _, _, rfl, _, rfl, np, _, rfl, .inl (.inr ⟨o2, K3 _ _ e2 npb npg⟩), fun l3 nl3 => ?_⟩⟩
    rw [List.length_map]
    have jn : (0 : Int) ≤ (if (xs.length : Int) - v1 > 1 then (xs.length : Int) - v1 else 1) := by split <;> omega
    have jp : 1 ≤ (if (xs.length : Int) - v1 > 1 then (xs.length : Int) - v1 else 1).toNat := by split <;> omega
    rw [cut_to xs jn]
    have cnd : (xs.take (if (xs.length : Int) - v1 > 1 then (xs.length : Int) - v1 else 1).toNat).Nodup := nd.sublist (List.take_sublist _ _)
    have csub : ∀ z ∈ xs.take (if (xs.length : Int) - v1 > 1 then (xs.length : Int) - v1 else 1).toNat, z ∈ xs := fun z mz => List.mem_of_mem_take mz
    have cl : 1 ≤ (xs.take (if (xs.length : Int) - v1 > 1 then (xs.length : Int) - v1 else 1).toNat).length := by rw [List.length_take]; omega
    have c8 : (xs.take (if (xs.length : Int) - v1 > 1 then (xs.length : Int) - v1 else 1).toNat).length ≤ 8 := by rw [List.length_take]; omega
    generalize xs.take (if (xs.length : Int) - v1 > 1 then (xs.length : Int) - v1 else 1).toNat = cs at cnd csub cl c8 ⊢
    refine ⟨l3, _, rfl, .inl ⟨SqL.of upd_same, fun t1 nt1 => ?_⟩⟩
    have s4 := (same_new (o := .lst (cs.map V.str)) nl3).trans (same_new (o := .tup (cs.map V.str)) nt1)
    have ht1 : upd (upd H3 l3 (.lst (cs.map V.str))) t1 (.tup (cs.map V.str)) t1 = some (.tup (cs.map V.str)) := upd_same
    have B4 := B3.same s4
    have K14 : Keep b g H2 (upd (upd H3 l3 (.lst (cs.map V.str))) t1 (.tup (cs.map V.str))) := K3.trans (Same.keep s4)
    obtain ⟨t1b, t1g, _⟩ := (B3.same (same_new nl3)).ne nt1
    generalize upd (upd H3 l3 (.lst (cs.map V.str))) t1 (.tup (cs.map V.str)) = H4 at ht1 B4 K14 ⊢
    -- way, rows
    refine ⟨.ref b, rfl, b, g, m, _, 4, rfl, B4, by omega, by decide, by decide, fun way H5 w0 w1 B5 K5 => ⟨Nat.zero_le _, fun l nl => ?_⟩⟩
    obtain ⟨lb, lg, lm⟩ := B5.ne nl
    have K05 : Keep b g H H5 := ((K1.trans K2).trans K14).trans K5
    have s6 := same_new (o := .lst []) nl
    have nl0 : H l = none := K05.free lb lg nl
    have np5 := K5 _ _ (K14 _ _ e2 npb npg) npb npg
    have t15 := K5 _ _ ht1 t1b t1g
    refine ⟨.ref np, rfl, np, _, rfl, .inl (.inl (.inr ⟨o2, s6 _ _ np5⟩)), xs.length, by rw [List.length_map], by omega, by omega, for_range (lo := 0) (n := xs.length) (fun i σ H7 => ∃ (y6 y7 y8 : Option V) (ts : List Addr) (rs : Rws), σ = [some (.ref b), some (.int most), some (.ref np), some (.ref t1), some (.int way), some (.ref l), y6, y7, y8] ∧
      Box H7 b g m (n + 200 + 101 * i) ∧ Keep b g H H7 ∧ H7 np = some (.frz o2 (.lst (xs.map V.str))) ∧ H7 t1 = some (.tup (cs.map V.str)) ∧ H7 l = some (.lst (ts.map V.ref)) ∧ RowsG H7 ts rs ∧ rs.map (·.1) = xs.take i ∧ ∀ q ∈ rs, Some1 H7 xs q.2) ?_ ?_ ?_⟩
    · exact ⟨none, none, none, [], [], rfl, (B5.same s6).more (by omega), K05.trans (Same.keep s6), s6 _ _ np5, s6 _ _ t15, upd_same, ⟨rfl, fun i t e => by cases e⟩, rfl, fun q mq => by cases mq⟩
    · rintro i σ H7 hi ⟨y6, y7, y8, ts, rs, rfl, B7, K7, np7, t17, hl7, ra, ek, each⟩
      have i8 : i < 8 := by omega
      obtain ⟨xi, hxi⟩ : ∃ x, xs[i]? = some x := ⟨xs[i], List.getElem?_eq_getElem hi⟩
      have i0 : (0 : Int) ≤ 0 + (i : Int) := by omega
      have it : (0 + (i : Int)).toNat = i := by omega
      -- ring
      refine ⟨.ref np, rfl, .int (0 + i), rfl, 0 + i, rfl, np, _, rfl, .inl (.inr ⟨o2, np7⟩), fun a1 na1 => ?_⟩
      rw [cut_from xs i0, it]
      have s8 := same_new (o := .lst ((xs.drop i).map V.str)) na1
      have ha1 : upd H7 a1 (.lst ((xs.drop i).map V.str)) a1 = some (.lst ((xs.drop i).map V.str)) := upd_same
      generalize upd H7 a1 (.lst ((xs.drop i).map V.str)) = H8 at s8 ha1 ⊢
      refine ⟨.ref np, rfl, .int (0 + i), rfl, 0 + i, rfl, np, _, rfl, .inl (.inr ⟨o2, s8 _ _ np7⟩), fun a2 na2 => ?_⟩
      rw [cut_to xs i0, it]
      have s9 := same_new (o := .lst ((xs.take i).map V.str)) na2
      have ha2 : upd H8 a2 (.lst ((xs.take i).map V.str)) a2 = some (.lst ((xs.take i).map V.str)) := upd_same
      generalize upd H8 a2 (.lst ((xs.take i).map V.str)) = H9 at s9 ha2 ⊢
      refine ⟨a1, a2, _, _, rfl, rfl, s9 _ _ ha1, ha2, ?_, fun a3 na3 => ?_⟩
      · rw [List.length_map, List.length_map, List.length_drop, List.length_take]
        exact Nat.le_of_lt (small1000 (by omega))
      rw [← List.map_append]
      have s10 := same_new (o := .lst ((xs.drop i ++ xs.take i).map V.str)) na3
      have ha3 : upd H9 a3 (.lst ((xs.drop i ++ xs.take i).map V.str)) a3 = some (.lst ((xs.drop i ++ xs.take i).map V.str)) := upd_same
      generalize upd H9 a3 (.lst ((xs.drop i ++ xs.take i).map V.str)) = H10 at s10 ha3 ⊢
      refine ⟨3, rfl, a3, _, rfl, SqL.of ha3, fun a4 na4 => ?_⟩
      rw [cut_to _ (show (0 : Int) ≤ 3 by decide)]
      have rperm : (xs.drop i ++ xs.take i).Perm xs := List.perm_append_comm.trans (by rw [List.take_append_drop])
      have rnd : ((xs.drop i ++ xs.take i).take (3 : Int).toNat).Nodup := (rperm.nodup_iff.mpr nd).sublist (List.take_sublist _ _)
      have rsub : ∀ z ∈ (xs.drop i ++ xs.take i).take (3 : Int).toNat, z ∈ xs := fun z mz => rperm.mem_iff.mp (List.mem_of_mem_take mz)
      have rl : 1 ≤ ((xs.drop i ++ xs.take i).take (3 : Int).toNat).length := by
        rw [List.length_take, rperm.length_eq]
        show 1 ≤ min 3 _
        omega
      generalize (xs.drop i ++ xs.take i).take (3 : Int).toNat = ring at rnd rsub rl ⊢
      refine ⟨a4, _, rfl, .inl ⟨SqL.of upd_same, fun t2 nt2 => ?_⟩⟩
      have s12 := (((s8.trans s9).trans s10).trans (same_new (o := .lst (ring.map V.str)) na4)).trans (same_new (o := .tup (ring.map V.str)) nt2)
      have ht2 : upd (upd H10 a4 (.lst (ring.map V.str))) t2 (.tup (ring.map V.str)) t2 = some (.tup (ring.map V.str)) := upd_same
      generalize upd (upd H10 a4 (.lst (ring.map V.str))) t2 (.tup (ring.map V.str)) = H12 at s12 ht2 ⊢
      clear s8 s9 s10 ha1 ha2 ha3 na1 na2 na3 na4 nt2
      have t112 := s12 _ _ t17
      -- some_here
      refine ⟨.ref t1, rfl, t1, _, rfl, .inr (SqT.of t112), _, _, rfl, rfl, .inl ⟨by decide, by decide⟩, _, _, rfl, rfl, ⟨by decide, by decide⟩, _, _, rfl, rfl, .ref t1, rfl, by show 2 ≤ sizeLine; decide, fun p1 np1 => ?_⟩
      have s13 := same_new (o := .tup [.int (2 * ((cs.map V.str).length : Int) / 3 + 1), .ref t1]) np1
      refine ⟨.ref t1, rfl, t1, _, rfl, .inr (SqT.of (s13 _ _ t112)), _, _, rfl, rfl, ⟨by decide, by decide⟩, _, _, rfl, rfl, .ref t1, rfl, by show 2 ≤ sizeLine; decide, fun p2 np2 => ?_⟩
      have s14 := same_new (o := .tup [.int (((cs.map V.str).length : Int) / 2 + 1), .ref t1]) np2
      refine ⟨.ref t2, rfl, t2, _, rfl, .inr (SqT.of ((s13.trans s14) _ _ ht2)), _, _, rfl, .ref t2, rfl, by show 2 ≤ sizeLine; decide, fun p3 np3 => ⟨by show 3 ≤ sizeLine; decide, fun a5 na5 => ?_⟩⟩
      have s15 := same_new (o := .tup [.int (if ((ring.map V.str).length : Int) < 2 then ((ring.map V.str).length : Int) else 2), .ref t2]) np3
      have s16 := same_new (o := .lst [.ref p1, .ref p2, .ref p3]) na5
      have hp1 := ((s14.trans s15).trans s16) _ _ (upd_same (H := H12) (a := p1) (o := .tup [.int (2 * ((cs.map V.str).length : Int) / 3 + 1), .ref t1]))
      have hp2 := (s15.trans s16) _ _ (upd_same (H := upd H12 p1 (.tup [.int (2 * ((cs.map V.str).length : Int) / 3 + 1), .ref t1])) (a := p2) (o := .tup [.int (((cs.map V.str).length : Int) / 2 + 1), .ref t1]))
      have hp3 := s16 _ _ (upd_same (H := upd (upd H12 p1 (.tup [.int (2 * ((cs.map V.str).length : Int) / 3 + 1), .ref t1])) p2 (.tup [.int (((cs.map V.str).length : Int) / 2 + 1), .ref t1])) (a := p3) (o := .tup [.int (if ((ring.map V.str).length : Int) < 2 then ((ring.map V.str).length : Int) else 2), .ref t2]))
      have s1216 := ((s13.trans s14).trans s15).trans s16
      have ha5 : upd (upd (upd (upd H12 p1 (.tup [.int (2 * ((cs.map V.str).length : Int) / 3 + 1), .ref t1])) p2 (.tup [.int (((cs.map V.str).length : Int) / 2 + 1), .ref t1])) p3 (.tup [.int (if ((ring.map V.str).length : Int) < 2 then ((ring.map V.str).length : Int) else 2), .ref t2])) a5 (.lst [.ref p1, .ref p2, .ref p3]) a5 = some (.lst [.ref p1, .ref p2, .ref p3]) := upd_same
      obtain ⟨a5b, a5g, _⟩ := (B7.same s12).ne (((s13.trans s14).trans s15).free na5)
      have s716 := s12.trans s1216
      have B16 := B7.same s716
      have np16 := s716 _ _ np7
      have l16 := s716 _ _ hl7
      have rl3 : (ring.map V.str).length = ring.length := List.length_map _
      have cl3 : (cs.map V.str).length = cs.length := List.length_map _
      have r1 : Some1 _ xs p1 := ⟨_, cs.map Sum.inl, ⟨t1, _, hp1, .inr ⟨s1216 _ _ t112, cs, rfl⟩, Parts.names cs⟩, names_valid x8 nm cnd csub (by rw [cl3]; omega) (by rw [cl3]; omega)⟩
      have r2 : Some1 _ xs p2 := ⟨_, cs.map Sum.inl, ⟨t1, _, hp2, .inr ⟨s1216 _ _ t112, cs, rfl⟩, Parts.names cs⟩, names_valid x8 nm cnd csub (by rw [cl3]; omega) (by rw [cl3]; omega)⟩
      have r3 : Some1 _ xs p3 := ⟨_, ring.map Sum.inl, ⟨t2, _, hp3, .inr ⟨s1216 _ _ ht2, ring, rfl⟩, Parts.names ring⟩, names_valid x8 nm rnd rsub (by rw [rl3]; split <;> omega) (by rw [rl3]; split <;> omega)⟩
      have atx : atI (xs.map V.str) (0 + (i : Int)) = some (.str xi) := by
        rw [show (0 : Int) + (i : Int) = ((i : Nat) : Int) from by omega]
        exact atI_nat (by rw [List.getElem?_map, hxi]; rfl)
      refine ⟨.ref l, rfl, .inl ⟨rfl, _, SqL.of l16⟩, .ref np, rfl, .int (0 + i), rfl, np, _, _, _, rfl, rfl, ⟨o2, g2, np16⟩, i0, atx, .ref a5, rfl, .ref b, rfl, .ref np, rfl, b, g, m, np, _, xs, rfl, B16, by omega, ⟨o2, g2, np16⟩, x1, by omega, nm, fun r d ps H17 nr R fine d1 d2 B17 K17 => ⟨by show 1 ≤ sizeLine; decide, fun a6 na6 => ?_⟩⟩
      have a517 := K17 _ _ ha5 a5b a5g
      have s18 := same_new (o := .lst [.ref r]) na6
      refine ⟨a5, a6, _, _, rfl, rfl, s18 _ _ a517, upd_same, by show 3 + 1 ≤ sizeLine; decide, fun a7 na7 => ?_⟩
      have s19 := same_new (o := .lst ([.ref p1, .ref p2, .ref p3] ++ [.ref r])) na7
      have tup17 := K17.tups B16
      have t19 := tup17.trans (Same.tups (s18.trans s19))
      obtain ⟨rr, atr, somer⟩ : ∃ rr, atI [V.ref p1, V.ref p2, V.ref p3, V.ref r] way = some (.ref rr) ∧ Some1 (upd (upd H17 a6 (.lst [.ref r])) a7 (.lst ([.ref p1, .ref p2, .ref p3] ++ [.ref r]))) xs rr := by
        have cw : way = 0 ∨ way = 1 ∨ way = 2 ∨ way = 3 := by omega
        rcases cw with rfl | rfl | rfl | rfl
        · exact ⟨p1, atI_nat (j := 0) rfl, r1.tups t19⟩
        · exact ⟨p2, atI_nat (j := 1) rfl, r2.tups t19⟩
        · exact ⟨p3, atI_nat (j := 2) rfl, r3.tups t19⟩
        · exact ⟨r, atI_nat (j := 3) rfl, d, ps, R.at.tups (Same.tups (s18.trans s19)), fine_valid x8 nd nm fine d1 d2⟩
      refine ⟨.int way, rfl, a7, _, way, .ref rr, rfl, rfl, SqL.of upd_same, atr, rr, rfl, fun p4 o4 np4 g4 => ?_⟩
      have s20 := same_new (o := .frz o4 (.tup [.str xi, .ref rr])) np4
      have s1720 := (s18.trans s19).trans s20
      have l20 := s1720 _ _ (K17 _ _ l16 lb lg)
      have hp4 : upd (upd (upd H17 a6 (.lst [.ref r])) a7 (.lst ([.ref p1, .ref p2, .ref p3] ++ [.ref r]))) p4 (.frz o4 (.tup [.str xi, .ref rr])) p4 = some (.frz o4 (.tup [.str xi, .ref rr])) := upd_same
      have K20 : Keep b g H7 (upd (upd (upd H17 a6 (.lst [.ref r])) a7 (.lst ([.ref p1, .ref p2, .ref p3] ++ [.ref r]))) p4 (.frz o4 (.tup [.str xi, .ref rr]))) := ((Same.keep s716).trans K17).trans (Same.keep s1720)
      have B20 := B17.same s1720
      have np20 := K20 _ _ np7 npb npg
      have t120 := K20 _ _ t17 t1b t1g
      have tup20 := K20.tups B7
      have some20 := somer.tups (Same.tups s20)
      have rlen : rs.length = i := by
        have := congrArg List.length ek
        rw [List.length_map, List.length_take] at this
        omega
      have tlen : ts.length = i := ra.1.trans rlen
      refine ⟨l, _, _, rfl, rfl, l20, ?_, some (.int (0 + i)), some (.ref t2), some (.ref a5), ts ++ [p4], rs ++ [(xi, rr)], rfl, (B20.store lb lg lm).more (by omega), ?_, ?_, ?_, ?_, ?_, ?_, ?_⟩
      · rw [List.length_map]
        exact small1000 (by omega)
      · intro x o e n1 n2
        rw [upd_ne (ne_of_none e nl0)]
        exact K20 _ _ (K7 _ _ e n1 n2) n1 n2
      · rw [upd_ne (fun z => by rw [z, l20] at np20; cases np20)]
        exact np20
      · rw [upd_ne (fun z => by rw [z, l20] at t120; cases t120)]
        exact t120
      · rw [upd_same, List.map_append]
        rfl
      · exact (((ra.tups tup20).snoc ⟨o4, g4, hp4⟩)).tups (tups_store (ys := ts.map V.ref ++ [.ref p4]) l20)
      · rw [List.map_append, ek, List.take_add_one, hxi]
        rfl
      · intro q mq
        have tl : Tups (upd (upd (upd H17 a6 (.lst [.ref r])) a7 (.lst ([.ref p1, .ref p2, .ref p3] ++ [.ref r]))) p4 (.frz o4 (.tup [.str xi, .ref rr]))) _ := tups_store (ys := ts.map V.ref ++ [.ref p4]) l20
        rcases List.mem_append.mp mq with mq | mq
        · exact ((each q mq).tups tup20).tups tl
        · rw [List.mem_singleton.mp mq]
          exact some20.tups tl
    · rintro σ H7 ⟨y6, y7, y8, ts, rs, rfl, B7, K7, np7, t17, hl7, ra, ek, each⟩
      rw [List.take_length] at ek
      have rlen : rs.length = xs.length := by
        have := congrArg List.length ek
        rw [List.length_map] at this
        exact this
      have fin : ∀ (H' : Hp) (ts : List Addr) (rs : Rws), Keep b g H H' → Box H' b g m (n + 3000) → H' l = some (.lst (ts.map V.ref)) → RowsG H' ts rs → rs.map (·.1) = xs → (∀ q ∈ rs, Some1 H' xs q.2) → Q (.ref l) H' := fun H' ts rs KK BB hl ra ek each => by
        obtain ⟨c, fit⟩ := fit_of nd x8 nm ek each
        exact q l ts rs c xs H' nl0 hl ra fit x1 xm BB KK
      refine ⟨.ref b, rfl, b, g, m, _, 3, rfl, B7, by omega, by decide, by decide, fun v H8 c0 c1 B8 K8 => ⟨rfl, _, rfl, ite2 (fun _ => ?_) fun _ => ?_⟩⟩
      · have np8 := K8 _ _ np7 npb npg
        refine ⟨.ref b, rfl, .ref np, rfl, np, _, rfl, .inl (.inl (.inr ⟨o2, np8⟩)), b, g, m, _, xs.length, by rw [List.length_map]; rfl, B8, by omega, by omega, by omega, fun at' H9 f0 f1 B9 K9 => ?_⟩
        obtain ⟨j, rfl⟩ := Int.eq_ofNat_of_zero_le f0
        have jl : j < xs.length := by omega
        obtain ⟨xj, hxj⟩ : ∃ x, xs[j]? = some x := ⟨xs[j], List.getElem?_eq_getElem jl⟩
        have np9 := K9 _ _ np8 npb npg
        refine ⟨.ref np, rfl, .int j, rfl, np, _, _, _, rfl, rfl, ⟨o2, g2, np9⟩, by omega, atI_nat (by rw [List.getElem?_map, hxj]; rfl), .ref b, rfl, .ref np, rfl, b, g, m, np, _, xs, rfl, B9, by omega, ⟨o2, g2, np9⟩, x1, by omega, nm, fun r d ps H10 nr R fine d1 d2 B10 K10 => ⟨r, rfl, fun p4 o4 np4 g4 => ?_⟩⟩
        have s11 := same_new (o := .frz o4 (.tup [.str xj, .ref r])) np4
        have K711 := ((K8.trans K9).trans K10).trans (Same.keep s11)
        have l11 := K711 _ _ hl7 lb lg
        have tup11 := K711.tups B7
        have B11 := B10.same s11
        refine ⟨.ref l, rfl, .int j, rfl, l, _, j, j, rfl, rfl, l11, ?_, .ref l, rfl, ?_⟩
        · rw [List.length_map, ra.1, rlen]
          unfold ixN
          rw [if_pos (by omega), if_pos (by omega)]
          simp
        have ts2 : ((ts.map V.ref).set j (.ref p4)) = (ts.set j p4).map V.ref := by rw [List.map_set]
        have tl := tups_store (ys := (ts.map V.ref).set j (.ref p4)) l11
        refine fin _ (ts.set j p4) (rs.set j (xj, r)) ?_ ((B11.store lb lg lm).more (by omega)) ?_ ?_ ?_ ?_
        · intro x o e n1 n2
          rw [upd_ne (ne_of_none e nl0)]
          exact K711 _ _ (K7 _ _ e n1 n2) n1 n2
        · rw [upd_same, ts2]
        · exact ((ra.tups tup11).put (by rw [ra.1]; omega) ⟨o4, g4, upd_same⟩).tups tl
        · rw [List.map_set, ek]
          refine List.ext_getElem? fun i => ?_
          by_cases e : j = i
          · subst e
            rw [List.getElem?_set_self jl, hxj]
          · rw [List.getElem?_set_ne e]
        · intro q mq
          rcases List.mem_or_eq_of_mem_set mq with mq | rfl
          · exact ((each q mq).tups tup11).tups tl
          · exact (Some1.tups ⟨d, ps, R.at, fine_valid x8 nd nm fine d1 d2⟩ (Same.tups s11)).tups tl
      · exact ⟨.ref l, rfl, fin H8 ts rs (K7.trans K8) (B8.more (by omega)) (K8 _ _ hl7 lb lg) (ra.tups (K8.tups B7)) ek fun q mq => (each q mq).tups (K8.tups B7)⟩
end
end Moot
/-! Rows as tuples or lists, in a list or tuple: requirements_by_name, Network. -/
namespace Moot
open PySem PySem.Spec PyProof.Rows L2
theorem SqT.go {K : PySem.W.Frag} {H H' : Hp} {a : Addr} {xs : List V} (h : SqT K H a xs) (s : Same H H') : SqT K H' a xs := h.imp (fun r => r.imp (fun e => s _ _ e) fun ⟨o, e⟩ => ⟨o, s _ _ e⟩) id
/-- a, b = v: v a tuple or a list -/
def gAny (K : PySem.W.Frag) (n : Nat) (t : TGs) : TG := fun v σ H Q => ∃ a xs, v = .ref a ∧ (SqT K H a xs ∨ SqL K H a xs) ∧ xs.length = n ∧ t xs σ H Q
theorem pg_any {X : Cx} {es : List Expr} {k : Nat} {pos : Pos} {t : TGs} {n : Nat} (hc : X.calm = true) (h : PGs X es t) (hn : (assignEach es X.env).length = n := by rfl) (hst : (assignEach es X.env).findIdx? (·.1) = none := by rfl) : PG X (.Tuple es k pos) (gAny X.K n t) := by
  refine ⟨fun pins s σ H v u Q I r hw => ?_⟩
  obtain ⟨a, xs, e1, hq, hl, hw⟩ := hw
  rcases hq with hq | hq
  · exact (pg_tup hc h hn hst).run pins s σ H v u Q I r ⟨a, xs, e1, hq, hl, hw⟩
  · exact (pg_lst hc h hn hst).run pins s σ H v u Q I r ⟨a, xs, e1, hq, hl, hw⟩
/-- rows as tuples or lists -/
def RowsM (K : PySem.W.Frag) (H : Hp) (ts : List Addr) (rs : Rws) : Prop := ts.length = rs.length ∧ ∀ (i : Nat) (t : Addr), ts[i]? = some t → ∃ x r, rs[i]? = some (x, r) ∧ (SqT K H t [.str x, .ref r] ∨ SqL K H t [.str x, .ref r])
theorem RowsM.same {K : PySem.W.Frag} {H H' : Hp} {ts : List Addr} {rs : Rws} (h : RowsM K H ts rs) (s : Same H H') : RowsM K H' ts rs := ⟨h.1, fun i t e => let ⟨x, r, h1, h2⟩ := h.2 i t e; ⟨x, r, h1, h2.imp (fun h => SqT.go h s) (fun h => Same.seq s h)⟩⟩
theorem RowsAt.m {K : PySem.W.Frag} {H : Hp} {ts : List Addr} {rs : Rws} (h : RowsAt H ts rs) : RowsM K H ts rs := ⟨h.1, fun i t e => let ⟨x, r, h1, h2⟩ := h.2 i t e; ⟨x, r, h1, .inl (.inl h2)⟩⟩
section
variable {P : Program} {w : World} {K : PySem.W.Frag} {mg : Str → Option Value} {base : Heap}
def spRbM (K : PySem.W.Frag) : Sp := fun vs H Q _ => ∃ (l : Addr) (ts : List Addr) (rs : Rws) (c : Rq) (xs : List Str), vs = [.ref l] ∧ (SqL K H l (ts.map V.ref) ∨ SqT K H l (ts.map V.ref)) ∧ RowsM K H ts rs ∧ Fit H c xs rs ∧ ∀ (D : Addr) (H' : Hp), Same H H' → H D = none → H' D = some (.dK (kvs rs)) → Q (.ref D) H'
theorem ok_bynameM {f f1 f2 : Addr} {fd fd1 fd2 : FuncData} {k : Nat} (F : Fun K "requirements_by_name" "requirements_by_name" sRb f fd) (T : Bq mg)
    (F1 : Fun K "is_name" "is_name" sIn f1 fd1) (b1 : Binds K fd1 ["value"] []) (g1 : mg "is_name" = some (.ref f1)) (G1 : FnOk P w K mg base CX0 k f1 fd1 ["value"] (spIn K))
    (F2 : Fun K "is_requirement" "is_requirement" sIr f2 fd2) (b2 : Binds K fd2 ["value"] []) (g2 : mg "is_requirement" = some (.ref f2)) (G2 : FnOk P w K mg base CX0 k f2 fd2 ["value"] spIr) :
    FnOk P w K mg base CX0 (k + 1) f fd ["rows"] (spRbM K) := by
  refine F.ok scRb (fun vs H Q E h => ?_) (fun cdv A outer s H vs Q E hr h => ?_)
  · obtain ⟨l, ts, rs, c, xs, rfl, _⟩ := h
    rfl
  · obtain ⟨l, ts, rs, c, xs, rfl, hl, ra, fit, q⟩ := h
    have hu := hu_of hr
    refine ⟨_, pss_cons (ps_set (i := 1) scRb.nd rfl (Or.inl rfl) pe_dnewK)
      (pss_cons (ps_for PassesOwn.never rfl (pi_or (pi_list (pv 0)) (pi_tup (pv 0))) (pg_any (by rfl) (pgs_cons (pg_name (i := 2) scRb.nd rfl (Or.inl rfl)) (pgs_cons (pg_name (i := 3) scRb.nd rfl (Or.inl rfl)) pgs_nil)))
        (pss_cons (ps_if (pt_not (pt_val (pe_call G1 hr (by rfl) g1 F1.kp b1 .nil pass0 (pa_cons (pv 2) pa_nil)))) (pss_one ps_never) pss_nil)
        (pss_cons (ps_if (pt_cmp (pc_din hu (pv 2) (pv 1))) (pss_one ps_never) pss_nil)
        (pss_cons (ps_if (pt_not (pt_val (pe_call G2 hr (by rfl) g2 F2.kp b2 .nil pass0 (pa_cons (pv 3) pa_nil)))) (pss_one ps_never) pss_nil)
        (pss_one (ps_dput hu (pv 1) (pv 2) (pv 3) rfl))))))
      (pss_one (ps_ret (pv 1)))), ?_⟩
    intro D nD
    have flen := fit.len
    have few := fit.few
    have knd : (rs.map (·.1)).Nodup := fit.keys.nodup_iff.mpr fit.nd
    rcases hl with hl | hl
    · refine .inl ⟨.ref l, rfl, l, rfl, ⟨_, Same.seq (same_new nD) hl⟩, for_list (K := K) (a := l) (xs := ts.map V.ref) (fun i σ H1 => ∃ (y2 y3 : Option V), σ = [some (.ref l), some (.ref D), y2, y3] ∧ Same H H1 ∧ H1 D = some (.dK (kvs (rs.take i)))) ?_ ?_ ?_ ?_⟩
      · exact ⟨none, none, rfl, same_new nD, upd_same⟩
      · rintro i σ H1 _ ⟨_, _, _, s1, _⟩
        exact Same.seq s1 hl
      · rintro i y σ H1 hy ⟨y2, y3, rfl, s1, hD⟩
        rw [List.getElem?_map] at hy
        obtain ⟨t, ht, rfl⟩ := Option.map_eq_some_iff.mp hy
        obtain ⟨x, r, hxr, htt⟩ := ra.2 i t ht
        have mem : (x, r) ∈ rs := List.mem_of_getElem? hxr
        have tk : rs.take (i + 1) = rs.take i ++ [(x, r)] := by
          rw [List.take_add_one, hxr]
          rfl
        have xin : x ∈ xs := fit.keys.mem_iff.mp (List.mem_map.mpr ⟨_, mem, rfl⟩)
        have new : x ∉ (rs.take i).map (·.1) := by
          intro m
          have e : rs.map (·.1) = (rs.take i).map (·.1) ++ (rs.drop i).map (·.1) := by rw [← List.map_append, List.take_append_drop]
          rw [e] at knd
          refine (List.nodup_append.mp knd).2.2 x m x ?_ rfl
          refine List.mem_map.mpr ⟨(x, r), ?_, rfl⟩
          exact List.mem_of_getElem? (i := 0) (by rw [List.getElem?_drop]; exact hxr)
        refine ⟨t, _, rfl, htt.imp (fun h => SqT.go h s1) (fun h => Same.seq s1 h), rfl, _, _, rfl, _, _, rfl, rfl, ?_⟩
        refine ⟨.str x, rfl, .inl ⟨x, rfl, fit.nm x xin, fun H2 s2 => ⟨_, rfl, iteF ?_⟩⟩⟩
        have hD2 := s2 _ _ hD
        refine ⟨.str x, rfl, .ref D, rfl, D, _, rfl, DGet.k (k := Sum.inr x) hD2, _, rfl, ?_⟩
        rw [val_out new]
        refine iteF ?_
        have u2 : ReqAt H2 r (c x).1 (c x).2 := (fit.each _ mem).tups (Same.tups (s1.trans s2))
        refine ⟨.ref r, rfl, r, _, _, xs, rfl, u2, fit.ok x xin, fun H3 s3 => ⟨_, rfl, iteF ?_⟩⟩
        have hD3 := s3 _ _ hD2
        refine ⟨.ref r, rfl, .ref D, rfl, .str x, rfl, D, _, rfl, DPut.k (k := Sum.inr x) hD3 ?_, ?_⟩
        · rw [kvs_len, List.length_take]
          exact small1000 (by omega)
        · refine ⟨_, _, rfl, fun d o e => ?_, ?_⟩
          · rw [upd_ne (ne_of_none e nD)]
            exact s3 _ _ (s2 _ _ (s1 d o e))
          · rw [upd_same, putK_new _ (val_out new), tk]
            show some (HO.dK (kvs (rs.take i) ++ _)) = some (HO.dK ((rs.take i ++ [(x, r)]).map _))
            rw [List.map_append]
            rfl
      · rintro σ H1 ⟨y2, y3, rfl, s1, hD⟩
        rw [List.length_map, ra.1, List.take_length] at hD
        exact ⟨.ref D, rfl, q D H1 s1 nD hD⟩
    · refine .inr ⟨.ref l, rfl, l, rfl, ⟨_, SqT.go hl (same_new nD)⟩, for_tup (K := K) (a := l) (xs := ts.map V.ref) (fun i σ H1 => ∃ (y2 y3 : Option V), σ = [some (.ref l), some (.ref D), y2, y3] ∧ Same H H1 ∧ H1 D = some (.dK (kvs (rs.take i)))) ?_ ?_ ?_ ?_⟩
      · exact ⟨none, none, rfl, same_new nD, upd_same⟩
      · rintro i σ H1 _ ⟨_, _, _, s1, _⟩
        exact SqT.go hl s1
      · rintro i y σ H1 hy ⟨y2, y3, rfl, s1, hD⟩
        rw [List.getElem?_map] at hy
        obtain ⟨t, ht, rfl⟩ := Option.map_eq_some_iff.mp hy
        obtain ⟨x, r, hxr, htt⟩ := ra.2 i t ht
        have mem : (x, r) ∈ rs := List.mem_of_getElem? hxr
        have tk : rs.take (i + 1) = rs.take i ++ [(x, r)] := by
          rw [List.take_add_one, hxr]
          rfl
        have xin : x ∈ xs := fit.keys.mem_iff.mp (List.mem_map.mpr ⟨_, mem, rfl⟩)
        have new : x ∉ (rs.take i).map (·.1) := by
          intro m
          have e : rs.map (·.1) = (rs.take i).map (·.1) ++ (rs.drop i).map (·.1) := by rw [← List.map_append, List.take_append_drop]
          rw [e] at knd
          refine (List.nodup_append.mp knd).2.2 x m x ?_ rfl
          refine List.mem_map.mpr ⟨(x, r), ?_, rfl⟩
          exact List.mem_of_getElem? (i := 0) (by rw [List.getElem?_drop]; exact hxr)
        refine ⟨t, _, rfl, htt.imp (fun h => SqT.go h s1) (fun h => Same.seq s1 h), rfl, _, _, rfl, _, _, rfl, rfl, ?_⟩
        refine ⟨.str x, rfl, .inl ⟨x, rfl, fit.nm x xin, fun H2 s2 => ⟨_, rfl, iteF ?_⟩⟩⟩
        have hD2 := s2 _ _ hD
        refine ⟨.str x, rfl, .ref D, rfl, D, _, rfl, DGet.k (k := Sum.inr x) hD2, _, rfl, ?_⟩
        rw [val_out new]
        refine iteF ?_
        have u2 : ReqAt H2 r (c x).1 (c x).2 := (fit.each _ mem).tups (Same.tups (s1.trans s2))
        refine ⟨.ref r, rfl, r, _, _, xs, rfl, u2, fit.ok x xin, fun H3 s3 => ⟨_, rfl, iteF ?_⟩⟩
        have hD3 := s3 _ _ hD2
        refine ⟨.ref r, rfl, .ref D, rfl, .str x, rfl, D, _, rfl, DPut.k (k := Sum.inr x) hD3 ?_, ?_⟩
        · rw [kvs_len, List.length_take]
          exact small1000 (by omega)
        · refine ⟨_, _, rfl, fun d o e => ?_, ?_⟩
          · rw [upd_ne (ne_of_none e nD)]
            exact s3 _ _ (s2 _ _ (s1 d o e))
          · rw [upd_same, putK_new _ (val_out new), tk]
            show some (HO.dK (kvs (rs.take i) ++ _)) = some (HO.dK ((rs.take i ++ [(x, r)]).map _))
            rw [List.map_append]
            rfl
      · rintro σ H1 ⟨y2, y3, rfl, s1, hD⟩
        rw [List.length_map, ra.1, List.take_length] at hD
        exact ⟨.ref D, rfl, q D H1 s1 nD hD⟩
def spNiM (K : PySem.W.Frag) (C : Addr) : Sp := fun vs H Q _ => ∃ (net dx l : Addr) (ts : List Addr) (rs : Rws) (c : Rq) (xs : List Str), vs = [.ref net, .ref l] ∧ H net = some (.ins C dx []) ∧ (SqL K H l (ts.map V.ref) ∨ SqT K H l (ts.map V.ref)) ∧ RowsM K H ts rs ∧ Fit H c xs rs ∧
  ∀ (D : Addr) (rs' : Rws) (H' : Hp), NetAt C H' net D c xs rs' → (∀ q ∈ rs', q ∈ rs) → But net H H' → Q .non H'
theorem ok_netinitM {f C f1 f2 e : Addr} {fd fd1 fd2 : FuncData} {k : Nat} (F : FunD K "__init__" "Network.__init__" (defArgs sNi) (defBody sNi) (defScope sNi) [.ref e] [] f fd) (T : Bq mg) (X : Txt K mg C)
    (F1 : Fun K "requirements_by_name" "requirements_by_name" sRb f1 fd1) (b1 : Binds K fd1 ["rows"] []) (g1 : mg "requirements_by_name" = some (.ref f1)) (G1 : FnOk P w K mg base CX0 k f1 fd1 ["rows"] (spRbM K))
    (F2 : Fun K "check_names_used" "check_names_used" sCu f2 fd2) (b2 : Binds K fd2 ["requirements"] []) (g2 : mg "check_names_used" = some (.ref f2)) (G2 : FnOk P w K mg base CX0 k f2 fd2 ["requirements"] spCu) :
    FnOk P w K mg base CX0 (k + 1) f fd ["self", "rows"] (spNiM K C) := by
  refine F.ok scNi (fun vs H Q E h => ?_) (fun cdv A outer s H vs Q E hr h => ?_)
  · obtain ⟨net, dx, l, ts, rs, c, xs, rfl, _⟩ := h
    rfl
  · obtain ⟨net, dx, l, ts, rs, c, xs, rfl, hn, hl, ra, fit, q⟩ := h
    have hu := hu_of hr
    refine ⟨_, pss_cons (ps_set (i := 2) scNi.nd rfl (Or.inr rfl) (pe_call G1 hr (by rfl) g1 F1.kp b1 .nil pass0 (pa_cons (pv 1) pa_nil)))
      (pss_cons (ps_expr (pe_call G2 hr (by rfl) g2 F2.kp b2 .nil pass0 (pa_cons (pv 2) pa_nil)))
      (pss_one (ps_fld (pv 0) (pe_dc (own := [("name", 3)]) (g := gName 3) (tt := tYes) (by rfl) scNi.nd (pi_list (pe_callB (call_sortedD rfl) (by rfl) T.T.srt (by decide +kernel) (pa_cons (pv 2) pa_nil))) (blkOk_by (N := nNi) (sc := defScope sNi) (by decide +kernel))
        (fun _ _ _ _ _ => pg_name (i := 3) scNi.nd rfl (Or.inl rfl)) (fun _ _ _ _ _ => pts_nil) (fun _ _ _ _ _ => pv 3) (fun _ _ _ _ _ => pe_dget hu (pv 2) (pv 3) (fun _ _ => rfl))) rfl))), ?_⟩
    refine ⟨.ref l, rfl, l, ts, rs, c, xs, rfl, hl, ra, fit, fun D H1 s1 nD hD => ?_⟩
    refine ⟨.ref D, rfl, D, rs, c, xs, rfl, hD, fit.same s1, fun H2 s2 => ?_⟩
    have hD2 := s2 _ _ hD
    have flen := fit.len
    have few := fit.few
    refine ⟨.ref D, rfl, D, _, rs.map (·.1), rfl, .inl hD2, by unfold kvs; rw [List.map_map, List.map_map]; rfl, by rw [List.length_map]; omega, fun ys p pm srt np => ?_⟩
    have s3 := same_new (o := .lst (ys.map V.str)) np
    have hp : (upd H2 p (.lst (ys.map V.str))) p = some (.lst (ys.map V.str)) := upd_same
    generalize upd H2 p (.lst (ys.map V.str)) = H3 at s3 hp ⊢
    obtain ⟨rs', e1, e2⟩ := pairs_of (rs := rs) ys fun y my => pm.mem_iff.mp my
    have nd1 : (rs.map (·.1)).Nodup := fit.keys.nodup_iff.mpr fit.nd
    have nd2 : ys.Nodup := pm.nodup_iff.mpr nd1
    have l2 : rs'.length = ys.length := by rw [← e1, List.length_map]
    refine ⟨p, rfl, ⟨_, SqL.of hp⟩, fun D2 nD2 => ?_⟩
    refine dc_it (walk_list (K := K) (a := p) (xs := ys.map V.str)) (fun i H4 => Same H3 H4 ∧ H4 D2 = some (.dK (kvs (rs'.take i)))) ⟨same_new nD2, upd_same⟩ (fun i H4 _ h => SqL.of (h.1 _ _ hp)) ?_ ?_
    · rintro i x H4 H4' hi ⟨s4, hD4⟩ ⟨rfl, hx⟩
      rw [List.getElem?_map] at hx
      obtain ⟨y, hy, rfl⟩ := Option.map_eq_some_iff.mp hx
      obtain ⟨r, hr'⟩ : ∃ r, rs'[i]? = some (y, r) := by
        rw [← e1, List.getElem?_map] at hy
        obtain ⟨⟨y', r⟩, h1, h2⟩ := Option.map_eq_some_iff.mp hy
        cases h2
        exact ⟨r, h1⟩
      have val := (e2 _ (List.mem_of_getElem? hr')).2
      have tk : rs'.take (i + 1) = rs'.take i ++ [(y, r)] := by
        rw [List.take_add_one, hr']
        rfl
      have new : y ∉ (rs'.take i).map (·.1) := by
        intro m
        have e : rs'.map (·.1) = (rs'.take i).map (·.1) ++ (rs'.drop i).map (·.1) := by rw [← List.map_append, List.take_append_drop]
        rw [← e1, e] at nd2
        refine (List.nodup_append.mp nd2).2.2 y m y ?_ rfl
        exact List.mem_map.mpr ⟨(y, r), List.mem_of_getElem? (i := 0) (by rw [List.getElem?_drop]; exact hr'), rfl⟩
      have hDD := s4 _ _ (s3 _ _ hD2)
      refine ⟨rfl, .str y, rfl, .ref D, rfl, .str y, rfl, D, _, rfl, .inl ⟨_, Sum.inr y, .inl hDD, rfl, val.symm⟩, _, Sum.inr y, rfl, hD4, ?_, fun b o eb => ?_, ?_⟩
      · rw [kvs_len, List.length_take]
        have := pm.length_eq
        rw [List.length_map] at this
        exact small1000 (by omega)
      · rw [upd_ne (ne_of_none eb nD2)]
        exact s4 b o eb
      · rw [upd_same, putK_new _ (val_out new), tk]
        show some (HO.dK (kvs (rs'.take i) ++ _)) = some (HO.dK ((rs'.take i ++ [(y, r)]).map _))
        rw [List.map_append]
        rfl
    · rintro H4 ⟨s4, hD4⟩
      rw [List.length_map, ← l2, List.take_length] at hD4
      have s04 : Same H H4 := ((s1.trans s2).trans s3).trans s4
      have nD2n : D2 ≠ net := (ne_of_none (s3 _ _ (s2 _ _ (s1 _ _ hn))) nD2).symm
      refine ⟨.ref net, rfl, net, C, dx, [], rfl, s04 _ _ hn, X.cl, X.nR, by show 0 < 1000; decide, ?_⟩
      have bt : But net H (upd H4 net (.ins C dx (putF "requirements" (.ref D2) []))) := fun b o eb nb => by
        rw [upd_ne nb]
        exact s04 b o eb
      have unis : ∀ r c' ps, ReqAt H r c' ps → ReqAt (upd H4 net (.ins C dx (putF "requirements" (.ref D2) []))) r c' ps := fun r c' ps u => bt.req hn ⟨fun _ z => (by cases z), fun _ _ z => (by cases z)⟩ u
      refine q D2 rs' _ ⟨⟨dx, upd_same⟩, ?_, ⟨fit.nd, fit.few, fit.nm, fit.ok, ?_, fun q mq => unis _ _ _ (fit.each _ (e2 q mq).1)⟩, ?_⟩ (fun q mq => (e2 q mq).1) bt
      · rw [upd_ne nD2n]
        exact hD4
      · rw [e1]
        exact pm.trans fit.keys
      · rw [e1]
        exact sorted_pairs srt
end
end Moot
/-! x != y of two objects of one class, with the text's own == and object's != -/
namespace Moot
open PySem PySem.Spec PyProof.Rows L2
section
variable {prog : Program} {w : World} {A : Around} {E : Value → Shared → Prop} {s : Shared} {K : PySem.W.Frag} {x y C f : Addr} {ox oy : Obj} {od od2 : Option Obj}
/-- what an answer of == makes of != -/
def Turned (Q : Value → Shared → Prop) : Value → Shared → Prop := fun v s1 => ∃ b, v = .bool b ∧ Q (.bool (!b)) s1
theorem ne_body {Q : Fin → Shared → Prop} (X : K.In s.heap) (I : PySem.W.InstAt s.heap x ox C od) (hs : PySem.W.findIn K (.ref C) "__eq__" = some (some (.ref f))) (hf : PySem.W.isFn K (.ref f) = true) (few : A.units < cLine)
    (asked : wpAny (model prog w) A (call (.ref f) [.ref x, .ref y]) (Turned fun v s1 => Q (.done (.ret v)) s1) E s) : wpAny (model prog w) A (Builtin.«object.__ne__» ⟨[.ref x, .ref y], []⟩) Q E s := by
  unfold Builtin.«object.__ne__»
  repeat (first
    | with_reducible refine wpAny_cRoomFor few ?_
    | (refine wpAny_bind (m := callSpecialIfBound? (.ref x) (Str.ofString "__eq__") [.ref y]) (PySem.W.ifBound_K X I hs hf (wpAny_mono asked (fun r s1 hr => by
          obtain ⟨b, rfl, hq⟩ := hr
          repeat (first | exact hq | exact wpAny_pure hq | exact wpAny_truthy_bool hq | (refine wpAny_bind (m := truthy (.bool _)) (wpAny_truthy_bool ?_)) | wp_step)) fun _ _ e => e)))
    | wp_step)
theorem ne_bound {M : Model} {args : List Value} {Q : Option Value → Shared → Prop} (X : K.In s.heap) (I : PySem.W.InstAt s.heap x ox C od) (hs : PySem.W.findIn K (.ref C) "__ne__" = some (some (.builtin "object.__ne__")))
    (run : wpAny M A (call (.builtin "object.__ne__") (.ref x :: args)) (fun v => Q (some v)) E s) : wpAny M A (callSpecialIfBound? (.ref x) "__ne__" args) Q E s := by
  simp only [callSpecialIfBound?, bindSpecialIfBound?]
  refine wpAny_holding ?_
  refine wpAny_bind (wpAny_bind (wpAny_bind ?_))
  refine I.type.here ?_
  refine (PySem.W.looks_findIn X hs).here ?_
  refine wpAny_bind ?_
  refine wpAny_askSetting (wpAny_ite ?_)
  have last : wpAny M A (call (.builtin "object.__ne__") ([.ref x] ++ args) >>= fun v => pure (some v)) Q E s := wpAny_bind (wpAny_mono run (fun v s1 z => wpAny_pure z) fun _ _ z => z)
  split
  · exact wpAny_bind (wpAny_of_eq (F.cmp_object.ne.bind _) (wpAny_pure (by exact last)))
  · exact wpAny_tryCatch (wpAny_bind (wpAny_of_eq (F.cmp_object.ne.bind _) (wpAny_pure (by exact last))))
theorem ne_try {Q : Option Value → Shared → Prop} (X : K.In s.heap) (I : PySem.W.InstAt s.heap x ox C od) (hm : PySem.W.mroIn K C (.type "object") = some true) (hs : PySem.W.findIn K (.ref C) "__eq__" = some (some (.ref f))) (hn : PySem.W.findIn K (.ref C) "__ne__" = some (some (.builtin "object.__ne__"))) (hf : PySem.W.isFn K (.ref f) = true) (few : A.units + 1 < cLine)
    (asked : wpAny (model prog w) A.in1 (call (.ref f) [.ref x, .ref y]) (Turned fun v s1 => Q (some v) s1) E s) : wpAny (model prog w) A (tryCompare (.ref x) "__ne__" (.ref y)) Q E s := by
  unfold tryCompare
  refine wpAny_bind (ne_bound X I hn ?_)
  refine wpAny_call (codeAny_call_builtin F.cmp_object.ne.plain F.cmpEntry_ne (PySem.W.check_slot F.cmpKind_ne F.cmpSplit_ne (I.type.andThen (PySem.W.looks_mroIn X hm)) (F.cmpArgs_ne _ _) ?_))
  refine ne_body (A := A.in1) X I hs hf few (wpAny_mono asked (fun v s1 z => ?_) fun _ _ z => z)
  obtain ⟨b, rfl, hq⟩ := z
  first | exact ⟨b, rfl, wpAny_pure hq⟩ | exact ⟨b, rfl, wpAny_pure (wpAny_pure hq)⟩ | exact ⟨b, rfl, hq⟩
theorem ne_rich {h0 : Heap} {L : Addr} {m : Str → Option Value} {Q : Value → Shared → Prop} (few : A.units + 1 < cLine) (Fm : Fr h0 L s.heap m) (X0 : K.In h0) (I : PySem.W.InstAt s.heap x ox C od) (J : PySem.W.InstAt s.heap y oy C od2) (hm : PySem.W.mroIn K C (.type "object") = some true)
    (hs : PySem.W.findIn K (.ref C) "__eq__" = some (some (.ref f))) (hn : PySem.W.findIn K (.ref C) "__ne__" = some (some (.builtin "object.__ne__"))) (hf : PySem.W.isFn K (.ref f) = true)
    (asked : wpAny (model prog w) A.in1 (call (.ref f) [.ref x, .ref y]) (Turned Q) E s) : wpAny (model prog w) A (richCompare .NotEq (.ref x) (.ref y)) Q E s := by
  have one : wpAny (model prog w) A (tryCompare (.ref x) "__ne__" (.ref y)) (fun r s1 => ∃ v, r = some v ∧ Q v s1) E s :=
    ne_try (X0.keeps Fm.keep) I hm hs hn hf few (wpAny_mono asked (fun v s1 z => let ⟨b, e, hq⟩ := z; ⟨b, e, _, rfl, hq⟩) fun _ _ z => z)
  unfold richCompare
  simp only [oneThing_ref]
  refine wpAny_holding ?_
  refine wpAny_bind (wpAny_cRoomFor (Nat.lt_of_succ_lt few) ?_)
  rw [cmpInfo_NotEq]
  dsimp only
  refine wpAny_bind (I.type.here ?_)
  refine wpAny_bind (J.type.here ?_)
  rw [show (Value.ref C != Value.ref C) = false from by simp]
  simp only [Bool.false_eq_true, if_false]
  refine wpAny_bind (wpAny_pure ?_)
  simp only [Bool.false_eq_true, if_false]
  refine wpAny_bind (wpAny_mono one (fun r s1 z => ?_) fun _ _ z => z)
  obtain ⟨v, e, hq⟩ := z
  subst e
  exact wpAny_pure hq
end
section
variable {X : Cx} {n : Nat}
def rNeG (D : Eqv) : R2 := fun x y H Q => D x y H ∧ ∀ H', Ext H H' → Q (.bl false) H'
/-- x != y of two that are equal by the class's own == -/
theorem op_neG {CX : CXT} {C f : Addr} {fd : FuncData} {ps : List Str} {R : Addr → Addr → Hp → Prop} {E : XK} (F : FnOk X.prog X.w X.K X.mg X.base CX n f fd ps (spEq R)) (hs : PySem.W.findIn X.K (.ref C) "__eq__" = some (some (.ref f))) (hf : PySem.W.isFn X.K (.ref f) = true)
    (hn : PySem.W.findIn X.K (.ref C) "__ne__" = some (some (.builtin "object.__ne__"))) (hm : PySem.W.mroIn X.K C (.type "object") = some true) (hb : Binds X.K fd ps []) (hx : Passes CX X E) (hr : Room (n + 1) X.A) : OpR X (compareOp .NotEq) (rNeG (DIns C R)) := by
  intro pins s σ H x y v u Q I rx ry h
  obtain ⟨⟨a, b, dx, dy, fs, gs, rfl, rfl, ha, hb2, hR⟩, q⟩ := h
  cases rx
  cases ry
  have sb : Sub X n X.A.in1 := Sub.in1 ⟨hr, rfl⟩
  obtain ⟨_, J, _⟩ := ins_get I.hok ha
  obtain ⟨_, J2, _⟩ := ins_get I.hok hb2
  obtain ⟨_, J, _⟩ := J.look
  obtain ⟨_, J2, _⟩ := J2.look
  obtain ⟨m, fr⟩ := I.fr
  show wpAny (model X.prog X.w) X.A (richCompare .NotEq (.ref a) (.ref b)) (EP X pins σ Q) X.xe s
  refine ne_rich (Nat.lt_of_le_of_lt (Nat.le_add_right _ _) (show X.A.units + 1 + 0 < cLine from by have := sb.room.units0; exact this)) fr I.ok.mod.kin J J2 hm hs hn hf ?_
  have pr : spEq R [.ref a, .ref b] H (fun z H1 => z = .bl true ∧ Ext H H1) E := ⟨a, b, rfl, hR, fun H1 e => ⟨rfl, e⟩⟩
  have env : Env0 X.prog X.w X.K X.mg X.base X.A.in1 X.stack s H := by
    have e := I.env0
    exact { frames := by rw [sb.fr]; exact e.frames, mod := e.mod, bs := e.bs, bsz := e.bsz, funs := e.funs, frf := e.frf, hok := e.hok, bare := e.bare }
  have ln := F.len _ _ _ _ pr
  have vl : Vals [V.ref a, V.ref b] [Value.ref a, Value.ref b] := .cons rfl (.cons rfl .nil)
  have bd := hb s [.ref a, .ref b] I.kIn (by simpa using ln)
  refine wpAny_call (codeAny_mono (F.run X.A.in1 X.stack s H ⟨[.ref a, .ref b], []⟩ [.ref a, .ref b] [.ref a, .ref b] _ E sb.room env (by simpa using bd) vl pr) fun r s1 hq => ?_)
  cases r with
  | error e => exact hx pins σ H s e s1 I hq
  | ok fl =>
    cases fl with
    | ret z0 =>
      obtain ⟨z, H1, I1, rz, ez, ex⟩ := I.after hq
      subst ez
      cases rz
      exact ⟨true, rfl, .bl false, H1, I1, rfl, q H1 ex⟩
    | next => exact False.elim hq
    | brk => exact False.elim hq
    | cont => exact False.elim hq
end
end Moot
/-! x == y and x != y, x of a class with its own == (whatever it says), y of any kind. -/
namespace Moot
open PySem PySem.Spec PyProof.Rows L2
section
variable {prog : Program} {w : World} {A : Around} {E : Value → Shared → Prop} {s : Shared} {K : PySem.W.Frag} {x C f : Addr} {y tb : Value} {ox : Obj} {od : Option Obj}
theorem neB_body {Q : Fin → Shared → Prop} (X : K.In s.heap) (I : PySem.W.InstAt s.heap x ox C od) (hs : PySem.W.findIn K (.ref C) "__eq__" = some (some (.ref f))) (hf : PySem.W.isFn K (.ref f) = true) (few : A.units < cLine)
    (asked : wpAny (model prog w) A (call (.ref f) [.ref x, y]) (Turned fun v s1 => Q (.done (.ret v)) s1) E s) : wpAny (model prog w) A (Builtin.«object.__ne__» ⟨[.ref x, y], []⟩) Q E s := by
  unfold Builtin.«object.__ne__»
  repeat (first
    | with_reducible refine wpAny_cRoomFor few ?_
    | (refine wpAny_bind (m := callSpecialIfBound? (.ref x) (Str.ofString "__eq__") [y]) (PySem.W.ifBound_K X I hs hf (wpAny_mono asked (fun r s1 hr => by
          obtain ⟨b, rfl, hq⟩ := hr
          repeat (first | exact hq | exact wpAny_pure hq | exact wpAny_truthy_bool hq | (refine wpAny_bind (m := truthy (.bool _)) (wpAny_truthy_bool ?_)) | wp_step)) fun _ _ e => e)))
    | wp_step)
theorem neB_try {Q : Option Value → Shared → Prop} (X : K.In s.heap) (I : PySem.W.InstAt s.heap x ox C od) (hm : PySem.W.mroIn K C (.type "object") = some true) (hs : PySem.W.findIn K (.ref C) "__eq__" = some (some (.ref f))) (hn : PySem.W.findIn K (.ref C) "__ne__" = some (some (.builtin "object.__ne__"))) (hf : PySem.W.isFn K (.ref f) = true) (few : A.in1.units < cLine)
    (asked : wpAny (model prog w) A.in1 (call (.ref f) [.ref x, y]) (Turned fun v s1 => Q (some v) s1) E s) : wpAny (model prog w) A (tryCompare (.ref x) "__ne__" y) Q E s := by
  unfold tryCompare
  refine wpAny_bind (ne_bound X I hn ?_)
  refine wpAny_call (codeAny_call_builtin F.cmp_object.ne.plain F.cmpEntry_ne (PySem.W.check_slot F.cmpKind_ne F.cmpSplit_ne (I.type.andThen (PySem.W.looks_mroIn X hm)) (F.cmpArgs_ne _ _) ?_))
  refine neB_body (A := A.in1) X I hs hf few (wpAny_mono asked (fun v s1 z => ?_) fun _ _ z => z)
  obtain ⟨b, rfl, hq⟩ := z
  first | exact ⟨b, rfl, wpAny_pure hq⟩ | exact ⟨b, rfl, wpAny_pure (wpAny_pure hq)⟩ | exact ⟨b, rfl, hq⟩
theorem neB_rich {h0 : Heap} {L : Addr} {m : Str → Option Value} {Q : Value → Shared → Prop} (few : A.units + 1 < cLine) (Fm : Fr h0 L s.heap m) (X0 : K.In h0) (I : PySem.W.InstAt s.heap x ox C od) (hb : PySem.W.Looks (model prog w) s.heap (typeOf y) tb) (nf : PySem.W.notFirst K C tb = true) (hm : PySem.W.mroIn K C (.type "object") = some true)
    (hs : PySem.W.findIn K (.ref C) "__eq__" = some (some (.ref f))) (hn : PySem.W.findIn K (.ref C) "__ne__" = some (some (.builtin "object.__ne__"))) (hf : PySem.W.isFn K (.ref f) = true)
    (asked : wpAny (model prog w) A.in1 (call (.ref f) [.ref x, y]) (Turned Q) E s) : wpAny (model prog w) A (richCompare .NotEq (.ref x) y) Q E s := by
  have X := X0.keeps Fm.keep
  have one : wpAny (model prog w) A (tryCompare (.ref x) "__ne__" y) (fun r s1 => ∃ v, r = some v ∧ Q v s1) E s :=
    neB_try X I hm hs hn hf few (wpAny_mono asked (fun v s1 z => let ⟨b, e, hq⟩ := z; ⟨b, e, _, rfl, hq⟩) fun _ _ z => z)
  unfold richCompare
  simp only [oneThing_ref]
  refine wpAny_holding (wpAny_bind (wpAny_cRoomFor (Nat.lt_of_succ_lt few) ?_))
  rw [cmpInfo_NotEq]
  dsimp only
  refine wpAny_bind (I.type.here (wpAny_bind (hb.here ?_)))
  split
  · rename_i q
    have e : PySem.W.subIn K tb (.ref C) = some false := by
      rcases Bool.or_eq_true_iff.mp nf with e | e
      · rw [beq_iff_eq.mp e] at q
        simp at q
      · exact beq_iff_eq.mp e
    refine wpAny_bind ((PySem.W.looks_subIn X e).here ?_)
    simp only [Bool.false_eq_true, if_false]
    refine wpAny_bind (wpAny_mono one (fun r s1 z => ?_) fun _ _ z => z)
    obtain ⟨v, e, hq⟩ := z
    subst e
    exact wpAny_pure hq
  · refine wpAny_bind (wpAny_pure ?_)
    simp only [Bool.false_eq_true, if_false]
    refine wpAny_bind (wpAny_mono one (fun r s1 z => ?_) fun _ _ z => z)
    obtain ⟨v, e, hq⟩ := z
    subst e
    exact wpAny_pure hq
end
section
variable {X : Cx} {n : Nat}
/-- what the own == makes of the two; neg: turned -/
def rOwn (K : PySem.W.Frag) (C : Addr) (sp : Sp) (neg : Bool) : R2 := fun x y H Q => ∃ (a dx : Addr) (fs : List (Str × V)) (t : Value), x = .ref a ∧ H a = some (.ins C dx fs) ∧ TyX K H y t ∧ PySem.W.notFirst K C t = true ∧ sp [.ref a, y] H (fun v H' => ∃ b : Bool, v = .bl b ∧ Q (.bl (neg != b)) H') E0
theorem own_run {f : Addr} {fd : FuncData} {ps : List Str} {sp : Sp} {A : Around} {pins : List (Addr × Obj)} {σ : L2.St} {H : Hp} {s : Shared} {a : Addr} {y : V} {u : Value} {Q' : VK} (F : FnOk X.prog X.w X.K X.mg X.base CX0 n f fd ps sp) (hb : Binds X.K fd ps []) (sb : Sub X n A) (I : Inv X pins σ H s) (ry : RelV y u) (pr : sp [.ref a, y] H Q' E0) :
    wpAny (model X.prog X.w) A (call (.ref f) [.ref a, u]) (fun v s1 => ∃ z H1, Inv X pins σ H1 s1 ∧ RelV z v ∧ Q' z H1) X.xe s := by
  have env : Env0 X.prog X.w X.K X.mg X.base A X.stack s H := by
    have e := I.env0
    exact { frames := by rw [sb.fr]; exact e.frames, mod := e.mod, bs := e.bs, bsz := e.bsz, funs := e.funs, frf := e.frf, hok := e.hok, bare := e.bare }
  have ln := F.len _ _ _ _ pr
  have vl : Vals [V.ref a, y] [Value.ref a, u] := .cons rfl (.cons ry .nil)
  have bd := hb s [.ref a, u] I.kIn (by simpa using ln)
  refine wpAny_call (codeAny_mono (F.run A X.stack s H ⟨[.ref a, u], []⟩ [.ref a, u] [.ref a, y] Q' E0 sb.room env (by simpa using bd) vl pr) fun r s1 hq => ?_)
  cases r with
  | error e => exact hq.elim
  | ok fl =>
    cases fl with
    | ret z0 =>
      obtain ⟨z, H1, I1, rz, q⟩ := I.after hq
      exact ⟨z, H1, I1, rz, q⟩
    | next => exact False.elim hq
    | brk => exact False.elim hq
    | cont => exact False.elim hq
theorem op_eqB {C f : Addr} {fd : FuncData} {ps : List Str} {sp : Sp} (F : FnOk X.prog X.w X.K X.mg X.base CX0 n f fd ps sp) (hs : PySem.W.findIn X.K (.ref C) "__eq__" = some (some (.ref f))) (hf : PySem.W.isFn X.K (.ref f) = true) (hb : Binds X.K fd ps []) (hr : Room n X.A) : OpR X (compareOp .Eq) (rOwn X.K C sp false) := by
  rintro pins s σ H x y v u Q I rx ry ⟨a, dx, fs, t, rfl, ha, ty, nf, pr⟩
  cases rx
  obtain ⟨_, J, _⟩ := ins_get I.hok ha
  obtain ⟨_, J, _⟩ := J.look
  obtain ⟨m, fr⟩ := I.fr
  obtain ⟨P, kx, hp, _⟩ := kit_of I ry ty
  show wpAny (model X.prog X.w) X.A (richCompare .Eq (.ref a) u) (EP X pins σ Q) X.xe s
  have sb : Sub X n X.A := ⟨hr, rfl⟩
  refine PySem.W.cmp_K (op := .Eq) (tb := t) sb.room.units0 fr I.ok.mod.kin J (kx.ty _ _ I.kIn hp) nf hs hf (wpAny_mono (own_run F hb sb I ry pr) (fun r s1 z => ?_) fun _ _ z => z)
  obtain ⟨z, H1, I1, rz, b, rfl, q⟩ := z
  cases rz
  exact ⟨.bl b, H1, I1, rfl, by cases b <;> exact q⟩
theorem op_neB {C f : Addr} {fd : FuncData} {ps : List Str} {sp : Sp} (F : FnOk X.prog X.w X.K X.mg X.base CX0 n f fd ps sp) (hs : PySem.W.findIn X.K (.ref C) "__eq__" = some (some (.ref f))) (hf : PySem.W.isFn X.K (.ref f) = true) (hn : PySem.W.findIn X.K (.ref C) "__ne__" = some (some (.builtin "object.__ne__"))) (hm : PySem.W.mroIn X.K C (.type "object") = some true) (hb : Binds X.K fd ps []) (hr : Room (n + 1) X.A) : OpR X (compareOp .NotEq) (rOwn X.K C sp true) := by
  rintro pins s σ H x y v u Q I rx ry ⟨a, dx, fs, t, rfl, ha, ty, nf, pr⟩
  cases rx
  obtain ⟨_, J, _⟩ := ins_get I.hok ha
  obtain ⟨_, J, _⟩ := J.look
  obtain ⟨m, fr⟩ := I.fr
  obtain ⟨P, kx, hp, _⟩ := kit_of I ry ty
  show wpAny (model X.prog X.w) X.A (richCompare .NotEq (.ref a) u) (EP X pins σ Q) X.xe s
  have sb : Sub X n X.A.in1 := Sub.in1 ⟨hr, rfl⟩
  refine neB_rich (Nat.lt_of_le_of_lt (Nat.le_add_right _ _) (show X.A.units + 1 + 0 < cLine from by have := sb.room.units0; exact this)) fr I.ok.mod.kin J (kx.ty _ _ I.kIn hp) nf hm hs hn hf (wpAny_mono (own_run F hb sb I ry pr) (fun r s1 z => ?_) fun _ _ z => z)
  obtain ⟨z, H1, I1, rz, b, rfl, q⟩ := z
  cases rz
  exact ⟨b, rfl, .bl (true != b), H1, I1, by cases b <;> rfl, q⟩
end
end Moot
/-! len(x), x of a class with its own __len__. -/
namespace Moot
open PySem PySem.Spec PySem.Calls PyProof.Rows L2
section
variable {prog : Program} {w : World} {A : Around} {E : Value → Shared → Prop} {s : Shared} {K : PySem.W.Frag} {x C f : Addr} {ox : Obj} {od : Option Obj}
theorem spec_own {M : Model} {name : Str} {args : List Value} {Q : Option Value → Shared → Prop} (X : K.In s.heap) (I : PySem.W.InstAt s.heap x ox C od) (hs : PySem.W.findIn K (.ref C) name = some (some (.ref f))) (hf : PySem.W.isFn K (.ref f) = true)
    (h : wpAny M A (call (.ref f) (.ref x :: args)) (fun v => Q (some v)) E s) : wpAny M A (callSpecial? (.ref x) name args) Q E s := by
  unfold callSpecial? specialOf
  refine wpAny_bind (wpAny_bind (I.type.here ((PySem.W.looks_findIn X hs).here ?_)))
  refine wpAny_holding (wpAny_bind ((PySem.W.bind_fn X _ (beq_iff_eq.mp hf)).here ?_))
  exact wpAny_bind (wpAny_mono h (fun v s' h' => wpAny_pure h') fun _ _ h' => h')
/-- what len makes of an own answer -/
def LenBack (Q : Value → Shared → Prop) (v : Value) (s : Shared) : Prop := ∃ (n : Nat) (t : Tok), v = .int (n : Int) t ∧ n ≤ 1000 ∧ ∀ t' k, Q (.int (n : Int) t') { s with toks := k }
theorem len_own {Q : Value → Shared → Prop} (X : K.In s.heap) (I : PySem.W.InstAt s.heap x ox C od) (hs : PySem.W.findIn K (.ref C) "__len__" = some (some (.ref f))) (hf : PySem.W.isFn K (.ref f) = true)
    (h : wpAny (model prog w) A.in1 (call (.ref f) [.ref x]) (LenBack Q) E s) : wpAny (model prog w) A (call (.builtin "len") [.ref x]) Q E s := by
  refine call_function_entry kind_len plain_len entry_len (args_len1 _) ?_
  unfold Builtin.«len»
  refine wpAny_bind (m := oneArg "len" _) (wpAny_pure ?_)
  refine wpAny_bind (m := callSpecial? (.ref x) (Str.ofString "__len__")) (spec_own (name := Str.ofString "__len__") X I hs hf (wpAny_mono h (fun v s1 z => ?_) fun _ _ z => z))
  obtain ⟨n, t, rfl, few, q⟩ := z
  refine wpAny_bind (wpAny_holding (wpAny_pure ?_))
  refine wpAny_bind (wpAny_letGo ?_)
  show wpAny _ _ (if ((n : Nat) : Int) < 0 then _ else _) _ _ _
  rw [if_neg (by omega)]
  show wpAny _ _ (if ((n : Nat) : Int) ≥ 2 ^ 63 then _ else _) _ _ _
  rw [if_neg (by omega)]
  exact wpAny_bind (wpAny_mkInt (wpAny_pure ⟨_, rfl, q _ _⟩))
end
section
variable {X : Cx} {n : Nat}
def rLenO (C : Addr) (sp : Sp) : List V → Hp → VK → Prop := fun vs H Q => ∃ (a dx : Addr) (fs : List (Str × V)), vs = [.ref a] ∧ H a = some (.ins C dx fs) ∧ sp [.ref a] H (fun v H' => ∃ n : Nat, v = .int (n : Int) ∧ n ≤ 1000 ∧ Q (.int (n : Int)) H') E0
theorem cr_lenO {C f : Addr} {fd : FuncData} {ps : List Str} {sp : Sp} (F : FnOk X.prog X.w X.K X.mg X.base CX0 n f fd ps sp) (hs : PySem.W.findIn X.K (.ref C) "__len__" = some (some (.ref f))) (hf : PySem.W.isFn X.K (.ref f) = true) (hb : Binds X.K fd ps []) (hr : Room (n + 1) X.A) : CallR X (.builtin "len") (rLenO C sp) := by
  rintro pins s σ H xs us Q I r ⟨a, dx, fs, rfl, ha, pr⟩
  rw [Vals.ref1 r]
  obtain ⟨_, J, _⟩ := ins_get I.hok ha
  obtain ⟨_, J, _⟩ := J.look
  have sb : Sub X n X.A.in1 := Sub.in1 ⟨hr, rfl⟩
  have env : Env0 X.prog X.w X.K X.mg X.base X.A.in1 X.stack s H := by
    have e := I.env0
    exact { frames := by rw [sb.fr]; exact e.frames, mod := e.mod, bs := e.bs, bsz := e.bsz, funs := e.funs, frf := e.frf, hok := e.hok, bare := e.bare }
  have ln := F.len _ _ _ _ pr
  have vl : Vals [V.ref a] [Value.ref a] := .cons rfl .nil
  have bd := hb s [.ref a] I.kIn (by simpa using ln)
  refine len_own I.kIn J hs hf (wpAny_call (codeAny_mono (F.run X.A.in1 X.stack s H ⟨[.ref a], []⟩ [.ref a] [.ref a] _ E0 sb.room env (by simpa using bd) vl pr) fun r s1 hq => ?_))
  cases r with
  | error e => exact hq.elim
  | ok fl =>
    cases fl with
    | ret z0 =>
      obtain ⟨z, H1, I1, rz, m, rfl, few, q⟩ := I.after hq
      obtain ⟨t, rfl⟩ := rz
      exact ⟨m, t, rfl, few, fun t' k => ⟨.int (m : Int), H1, I1.tok _, ⟨_, rfl⟩, q⟩⟩
    | next => exact False.elim hq
    | brk => exact False.elim hq
    | cont => exact False.elim hq
end
end Moot
/-! Several except clauses, each with a name for the error or without one. -/
namespace Moot
open PySem PySem.Spec PyProof.Rows L2
/-- one clause: the class it asks for, its name's slot, its suite's reading -/
abbrev Clause := Value × Option Nat × (Addr → Value → Option Addr → TS)
/-- where a suite's ends lead, the name's slot empty again -/
def Ends.drop (D : Ends) : Option Nat → Ends
  | none => D
  | some i => { nx := fun σ H => D.nx (σ.set i none) H, rt := D.rt, bk := fun σ H => D.bk (σ.set i none) H, ct := fun σ H => D.ct (σ.set i none) H }
/-- the slots at a suite's beginning -/
def slotOf (σ : L2.St) (a : Addr) : Option Nat → L2.St
  | none => σ
  | some i => σ.set i (some (.ref a))
/-- what is wished of an error: the first clause that takes it, else what is wished outside -/
def wCl (K : PySem.W.Frag) (out : WX) (D : Ends) : List Clause → WX
  | [] => out
  | t :: r => fun cls d σ H => ∃ b, PySem.W.exmOne K cls t.1 = some b ∧ (b = true → ∀ a, H a = none → t.2.2 a cls d (Ends.drop D t.2.1) (slotOf σ a t.2.1) H) ∧ (b = false → wCl K out D r cls d σ H)
/-- the name of a clause: none, or a local one in its slot -/
inductive NameOk (X : Cx) : Option Str → Option Nat → Prop
  | none : NameOk X none none
  | some {n : Str} {i : Nat} (hi : X.N[i]? = some n) (hl : X.env.kindOf n = some .local) : NameOk X (some n) (some i)
/-- the clauses as they are written -/
inductive ClOk (X : Cx) : List ExceptHandler → List Clause → Prop
  | nil : ClOk X [] []
  | cons {x : Str} {n : Option Str} {i : Option Nat} {c : Value} {ts : Addr → Value → Option Addr → TS} {b : Stmt} {bs : List Stmt} {p q : Pos} {hs : List ExceptHandler} {l : List Clause}
      (cl : Names X x c) (nm : NameOk X n i) (su : ∀ a oe cls d pn, Zc cls d oe → (∃ vs, oe.data = .fields vs) → PSs (X.suite a ((a, oe) :: pn)) (b :: bs) (ts a cls d)) (r : ClOk X hs l) :
      ClOk X (.ExceptHandler (some (.Name x p)) n (b :: bs) q :: hs) ((c, i, ts) :: l)
/-- an error in flight over the def's own frame: what is known of the state -/
structure Hit (X : Cx) (pins : List (Addr × Obj)) (σ : L2.St) (H : Hp) (B : Heap) (a : Addr) (cls : Value) (d : Option Addr) (s : Shared) : Prop where
  back : ∃ z : Shared, Inv X pins σ H z ∧ (∀ b o, z.heap.get? b = some o → b ∉ frs X.stack → B.get? b = some o) ∧ z.heap.UpToSlots s.heap ∧ s.os = z.os ∧ AllBare s.gens
  fly : HandSPX.FlyingZ B (X.env :: X.outer) a (Zc cls d) s.heap
  non : H a = none
section
variable {X : Cx} {pins : List (Addr × Obj)} {σ : L2.St} {H : Hp} {B : Heap} {a : Addr} {cls : Value} {d : Option Addr} {s : Shared}
theorem Hit.inv (t : Hit X pins σ H B a cls d s) : Inv X pins σ H s := by
  obtain ⟨z, i, n, u, o, g⟩ := t.back
  exact i.landed n t.fly.1 u o g
theorem Hit.off (t : Hit X pins σ H B a cls d s) (hf : X.env.frame = some X.env.locals) : a ∉ frs (X.env :: X.outer) := by
  obtain ⟨oe, vs, e, _, dt⟩ := t.fly.there
  intro m
  obtain ⟨_, o2, e2, nf⟩ := t.fly.2.2.1.mem m
  exact nf vs (by rw [← Option.some.inj (e.symm.trans e2)]; exact dt)
theorem Hit.held (t : Hit X pins σ H B a cls d s) (hf : X.env.frame = some X.env.locals) : ∃ oe, Zc cls d oe ∧ (∃ vs, oe.data = .fields vs) ∧ s.heap.get? a = some oe ∧ Inv (X.suite a ((a, oe) :: (X.pn ++ pins))) [] σ H s := by
  obtain ⟨oe, vs, e, z, dt⟩ := t.fly.there
  have off := t.off hf
  refine ⟨oe, z, ⟨vs, dt⟩, e, t.inv.suite e dt t.non (fun k => off ?_) fun m => off ?_⟩
  · exact List.mem_filterMap.mpr ⟨_, List.mem_cons_self, by rw [hf, k]⟩
  · obtain ⟨en, me, q⟩ := List.mem_filterMap.mp m
    exact List.mem_filterMap.mpr ⟨en, List.mem_cons_of_mem _ me, q⟩
theorem Hit.at (t : Hit X pins σ H B a cls d s) {h : Heap} (fl : HandSPX.FlyingZ B (X.env :: X.outer) a (Zc cls d) h) (up : s.heap.UpToSlots h) : Hit X pins σ H B a cls d { s with heap := h } := by
  obtain ⟨z, i, n, u, o, g⟩ := t.back
  exact ⟨⟨z, i, n, u.trans up, o, g⟩, fl, t.non⟩
/-- a suite's end, seen from outside of the suite -/
theorem suite_end {oe : Obj} {D : Ends} {i : Option Nat} {n : Option Str} {q : Pos} (ok : X.Ok) (hN : X.N.Nodup) (nm : NameOk X n i) {f : Flow} {s6 : Shared} (h : SP (X.suite a ((a, oe) :: (X.pn ++ pins))) [] (Ends.drop D i) f s6) :
    match n with
    | none => SP X pins D f s6
    | some y => wpAny (model X.prog X.w) X.A (do bindName X.env y .none; unbindBehindTheSuite X.env y q) (fun _ s7 => SP X pins D f s7) X.xe s6 := by
  cases nm with
  | none =>
    cases f with
    | ret u => obtain ⟨v, σ6, H6, S6, r6, q6⟩ := h; exact ⟨v, σ6, H6, S6.unsuite ok, r6, q6⟩
    | next => obtain ⟨σ6, H6, S6, q6⟩ := h; exact ⟨σ6, H6, S6.unsuite ok, q6⟩
    | brk => obtain ⟨σ6, H6, S6, q6⟩ := h; exact ⟨σ6, H6, S6.unsuite ok, q6⟩
    | cont => obtain ⟨σ6, H6, S6, q6⟩ := h; exact ⟨σ6, H6, S6.unsuite ok, q6⟩
  | some hi hl =>
    cases f with
    | ret u => obtain ⟨v, σ6, H6, S6, r6, q6⟩ := h; exact gone_ok (S6.unsuite ok) hN hi hl fun s7 J => ⟨v, _, H6, J, r6, q6⟩
    | next => obtain ⟨σ6, H6, S6, q6⟩ := h; exact gone_ok (S6.unsuite ok) hN hi hl fun s7 J => ⟨_, H6, J, q6⟩
    | brk => obtain ⟨σ6, H6, S6, q6⟩ := h; exact gone_ok (S6.unsuite ok) hN hi hl fun s7 J => ⟨_, H6, J, q6⟩
    | cont => obtain ⟨σ6, H6, S6, q6⟩ := h; exact gone_ok (S6.unsuite ok) hN hi hl fun s7 J => ⟨_, H6, J, q6⟩
/-- the clauses, one after the other -/
theorem Hit.by (ok : X.Ok) (hN : X.N.Nodup) (hs : X.stack = X.env :: X.outer) (hf : X.env.frame = some X.env.locals) {out : WX} (tk : Takes X out) {D : Ends} {hds : List ExceptHandler} {l : List Clause} (c : ClOk X hds l) :
    ∀ {s : Shared}, Hit X pins σ H B a cls d s → wCl X.K out D l cls d σ H → wpAny (model X.prog X.w) X.A (handleBy (.ref a) X.env hds) (SP X pins D) X.xe s := by
  induction c with
  | nil =>
    intro s t w
    refine wpAny_handleBy_nil ?_
    obtain ⟨_, _, _, oe, vs, T, _, _, he, _, dt, v1, _⟩ := id t.fly
    unfold PySem.passOn
    refine wpAny_bind (wpAny_field he dt v1 ?_)
    rw [show (Value.ref T == Value.none) = false from rfl, if_neg Bool.false_ne_true]
    have up : wpAny (model X.prog X.w) X.A (setFlight (.ref a) X.env.frame) (fun _ s4 => wpAny (model X.prog X.w) X.A (throw (.ref a) : Sem Flow) (SP X pins D) X.xe s4) X.xe s := by
      rw [hf]
      obtain ⟨z, i, n, u, o, g⟩ := t.back
      exact HandSPX.setFlight_upZ t.fly fun h4 fl u4 => wpAny_throw (tk _ _ ⟨a, B, z, pins, σ, H, cls, d, rfl, i, n, u.trans u4, .inr (.inr (by rw [hs]; exact fl)), t.non, o, g, w⟩)
    first
      | exact wpAny_bind up
      | exact wpAny_bind (wpAny_pure (wpAny_bind up))
  | @cons x n i c ts b bs p q hs' l cl nm su r ih =>
    intro s t w
    obtain ⟨v, e1, yes, no⟩ := w
    obtain ⟨oe, z, dt, at0, S⟩ := t.held hf
    refine wpAny_handleBy_cons (codeAny_handlers_test ?_) (fun e => nomatch e)
    have kind : PySem.W.Looks (model X.prog X.w) s.heap (typeOf (.ref a)) cls := fun A Q E s2 k q => wpAny_typeOf_ref (k _ _ at0) (z.1 ▸ q)
    have name : ∀ {Q : Value → Shared → Prop} {E : Value → Shared → Prop}, Q c s → wpAny (model X.prog X.w) (X.A.mark (some (.ref a))) (eval (.Name x p) X.env) Q E s := fun {Q E} q => by
      obtain ⟨g, db, m⟩ := cl
      rcases m with m | ⟨m, bt, nn⟩
      · exact ld_glob S g m q db
      · exact ld_blt S g m bt q nn db
    refine name ((PySem.W.exm_one t.inv.kIn kind e1).here ?_)
    cases v with
    | false => exact ih t (no rfl)
    | true =>
      have run : ∀ {h4 : Heap}, HandSPX.FlyingZ B (X.env :: X.outer) a (Zc cls d) h4 → s.heap.UpToSlots h4 → ∃ oe4, Zc cls d oe4 ∧ (∃ vs, oe4.data = .fields vs) ∧ Inv (X.suite a ((a, oe4) :: (X.pn ++ pins))) [] σ H { s with heap := h4 } := fun fl up => by
        obtain ⟨o4, z4, d4, _, S4⟩ := (t.at fl up).held hf
        exact ⟨o4, z4, d4, S4⟩
      have go := yes rfl a t.non
      cases nm with
      | none =>
        refine codeAny_handlers_suite (HandSPX.lands_againZ t.fly fun h4 fl up => ?_)
        obtain ⟨o4, z4, d4, S4⟩ := run fl up
        exact wpAny_mono ((su a o4 cls d _ z4 d4).run [] _ _ H _ S4 go) (fun f s6 h => suite_end (q := q) (n := none) ok hN .none h) fun _ _ k => k.elim
      | @some n i hi hl =>
        refine codeAny_handlers_suite_as (HandSPX.lands_againZ t.fly fun h4 fl up => ?_)
        obtain ⟨o4, z4, d4, S4⟩ := run fl up
        refine store_ok (X := X.suite a ((a, o4) :: (X.pn ++ pins))) (v := .ref a) S4 hN hi (.inl hl) rfl (fun s5 S5 => ?_) (.inr hl)
        exact wpAny_mono ((su a o4 cls d _ z4 d4).run [] s5 _ H _ S5 go) (fun f s6 h => suite_end (q := q) (n := some n) ok hN (.some hi hl) h) fun _ _ k => k.elim
end
theorem ps_tryCl {X : Cx} {body : List Stmt} {hd : ExceptHandler} {hds : List ExceptHandler} {l : List Clause} {pos : Pos} {tb : WX → TS} {out : WX} (hs : X.stack = X.env :: X.outer) (hf : X.env.frame = some X.env.locals) (hN : X.N.Nodup) (tk : Takes X out)
    (hb : ∀ (W : WX) (pn : List (Addr × Obj)) (xe : Value → Shared → Prop), Takes (X.tr pn xe) W → PassesOwn (model X.prog X.w) X.A X.env xe → PSs (X.tr pn xe) body (tb W)) (c : ClOk X (hd :: hds) l) : PS X (.Try body (hd :: hds) [] [] pos) (fun D σ H => tb (wCl X.K out D l) D σ H) := by
  refine ⟨fun pins s σ H D I h => wpAny_Try_except ?_⟩
  have ok := I.ok
  have deep : X.A.frames = some (X.env :: X.outer) := ok.frames.trans (by rw [hs])
  refine wpAny_mono ((hb (wCl X.K out D l) (X.pn ++ pins) _ (fun u s2 k => ?_) PassesOwn.looking).run [] s σ H D (I.toTry _) h) (fun f s2 e => ?_) fun _ _ e => e
  · obtain ⟨a, B, z, pins2, σ2, H2, cls, d, rfl, J, nb, up, sky, na, os, ag, w⟩ := k
    refine Sky.land Zc.steady deep hf (hs ▸ sky) fun h3 fl up3 => ?_
    exact Hit.by ok hN hs hf tk c (s := { s2 with heap := h3 }) ⟨⟨z, J.ofTry ok, nb, up.trans up3, os, ag⟩, fl, na⟩ w
  · cases f with
    | next =>
      obtain ⟨σ2, H2, J, q⟩ := e
      exact wpAny_execs_nil ⟨σ2, H2, J.ofTry ok, q⟩
    | ret u =>
      obtain ⟨v, σ2, H2, J, r, q⟩ := e
      exact ⟨v, σ2, H2, J.ofTry ok, r, q⟩
    | brk => obtain ⟨σ2, H2, J, q⟩ := e; exact ⟨σ2, H2, J.ofTry ok, q⟩
    | cont => obtain ⟨σ2, H2, J, q⟩ := e; exact ⟨σ2, H2, J.ofTry ok, q⟩
end Moot
/-! Own exceptions with an __init__ of one field or two. -/
namespace Moot
open PySem PySem.Spec PyProof.Rows L2
/-- an own exception class: its name at the top, its place, its __init__'s -/
structure ExcT (K : PySem.W.Frag) (mg : Str → Option Value) (x : Str) (C fI : Addr) : Prop where
  oex : OexC K C
  xf : XfC K C
  gC : mg x = some (.ref C)
  iC : PySem.W.findIn K (.ref C) "__init__" = some (some (.ref fI))
  tI : PySem.W.typeIn K (.ref fI) = some (.type "function")
theorem upd_del {H : Hp} {a d : Addr} {o1 o2 o3 u : HO} (ha : H a = none) (hd : H d = none) (ne : d ≠ a) : upd (L2.del (upd (upd (upd H a o1) d o2) a o3) a) d u = upd H d u := by
  funext b
  by_cases hb : b = d
  · rw [hb, upd_same, upd_same]
  · rw [upd_ne hb, upd_ne hb]
    by_cases h2 : b = a
    · rw [h2, L2.del_same, ha]
    · rw [L2.del_ne h2, upd_ne h2, upd_ne hb, upd_ne h2]
/-- C's __init__ keeps one field -/
def spEx1 (f : Str) (C : Addr) : Sp := fun vs H Q _ => ∃ (a : Addr) (v : V), vs = [.ref a, v] ∧ H a = some (exo a C none) ∧ ∀ dx, H dx = none → dx ≠ a → Q .non (upd (upd H dx (exd dx [(f, v)])) a (exo a C (some dx)))
/-- two -/
def spEx2 (f f2 : Str) (C : Addr) : Sp := fun vs H Q _ => ∃ (a : Addr) (v v2 : V), vs = [.ref a, v, v2] ∧ H a = some (exo a C none) ∧ ∀ dx, H dx = none → dx ≠ a → Q .non (upd (upd (upd H dx (exd dx [(f, v)])) a (exo a C (some dx))) dx (exd dx [(f2, v2), (f, v)]))
abbrev MkQ (C a : Addr) (H1 : Hp) (Q : XK) : VK := fun v H2 => v = .non ∧ ∃ (d : Addr) (fs : List (Str × V)), H2 a = some (exo a C (some d)) ∧ H2 d = some (exd d fs) ∧ H1 d = none ∧ Q (.ref C) (some d) (upd (L2.del H2 a) d (.xd fs))
theorem mk1 {f : Str} {C : Addr} {v : V} {H1 : Hp} {Q : XK} {E : XK} (h : ∀ d, H1 d = none → Q (.ref C) (some d) (upd H1 d (.xd [(f, v)]))) : [v].length ≤ 1000 ∧ ∀ a, H1 a = none → spEx1 f C (.ref a :: ([v] ++ [])) (upd H1 a (exo a C none)) (MkQ C a H1 Q) E := by
  refine ⟨by show 1 ≤ 1000; decide, fun a na => ⟨a, v, rfl, upd_same, fun dx ndx nx => ⟨rfl, dx, [(f, v)], upd_same, ?_, ?_, ?_⟩⟩⟩
  · rw [upd_ne nx, upd_same]
  · rwa [upd_ne nx] at ndx
  · rw [upd_ne nx] at ndx
    rw [upd_del na ndx nx]
    exact h dx ndx
theorem mk2 {f f2 : Str} {C : Addr} {v v2 : V} {H1 : Hp} {Q : XK} {E : XK} (h : ∀ d, H1 d = none → Q (.ref C) (some d) (upd H1 d (.xd [(f2, v2), (f, v)]))) : [v, v2].length ≤ 1000 ∧ ∀ a, H1 a = none → spEx2 f f2 C (.ref a :: ([v, v2] ++ [])) (upd H1 a (exo a C none)) (MkQ C a H1 Q) E := by
  refine ⟨by show 2 ≤ 1000; decide, fun a na => ⟨a, v, v2, rfl, upd_same, fun dx ndx nx => ⟨rfl, dx, [(f2, v2), (f, v)], ?_, upd_same, ?_, ?_⟩⟩⟩
  · rw [upd_ne nx.symm, upd_same]
  · rwa [upd_ne nx] at ndx
  · rw [upd_ne nx] at ndx
    have e : upd (L2.del (upd (upd (upd (upd H1 a (exo a C none)) dx (exd dx [(f, v)])) a (exo a C (some dx))) dx (exd dx [(f2, v2), (f, v)])) a) dx (.xd [(f2, v2), (f, v)]) = upd H1 dx (.xd [(f2, v2), (f, v)]) := by
      funext b
      by_cases hb : b = dx
      · rw [hb, upd_same, upd_same]
      · rw [upd_ne hb, upd_ne hb]
        by_cases h2 : b = a
        · rw [h2, L2.del_same, na]
        · rw [L2.del_ne h2, upd_ne hb, upd_ne h2, upd_ne hb, upd_ne h2]
    rw [e]
    exact h dx ndx
/-- any block behind what raises -/
theorem pss_any {X : Cx} : ∀ {l : List Stmt}, PSs X l (fun _ _ _ => False) := fun {l} => ⟨fun pins s σ H D I h => h.elim⟩
end Moot
/-! d == e of two dicts whose values are data behind references: what it says. -/
namespace Moot
open PySem PySem.Spec PyProof.Rows L2
/-- every key of the one is in the other, with equal data -/
def hitB (δ : Addr → PyData) (ls : List (Str × Addr)) : List (Str × Addr) → Bool
  | [] => true
  | (x, r) :: t => match ls.lookup x with
    | some r' => PyData.eqv (δ r) (δ r') && hitB δ ls t
    | none => false
theorem val_look (ls : List (Str × Addr)) (x : Str) : valV (ls.map fun p => ((Sum.inr p.1 : L2.Key), V.ref p.2)) (Sum.inr x : L2.Key) = (ls.lookup x).map V.ref := by
  induction ls with
  | nil => rfl
  | cons q ls ih =>
    obtain ⟨y, r⟩ := q
    by_cases e : x = y
    · subst e
      rw [List.lookup_cons, beq_self_eq_true]
      simp [valV]
    · rw [List.lookup_cons, beq_false_of_ne e]
      rw [← ih]
      simp [valV, e, Ne.symm e]
section
variable {X : Cx} {pins : List (Addr × Obj)} {σ : L2.St} {H : Hp} {s : Shared}
theorem hits_data (I : Inv X pins σ H s) {A : Around} {δ : Addr → PyData} {ls : List (Str × Addr)} (hu : A.units + 64 < cLine) (hl : ∀ q ∈ ls, Dp X.K H (.ref q.2) (δ q.2) ∧ (δ q.2).canLay0 = true ∧ (δ q.2).depth ≤ 64)
    {vb : List (L2.Key × Value)} (rb : KV (ls.map fun p => ((Sum.inr p.1 : L2.Key), V.ref p.2)) vb) : ∀ {ks : List (Str × Addr)} {va : List (L2.Key × Value)}, (∀ q ∈ ks, Dp X.K H (.ref q.2) (δ q.2) ∧ (δ q.2).canLay0 = true ∧ (δ q.2).depth ≤ 64) →
      KV (ks.map fun p => ((Sum.inr p.1 : L2.Key), V.ref p.2)) va → PySem.W.KeqHits A s vb va (hitB δ ls ks)
  | [], _, _, h => by
    cases h
    exact .nil
  | (x, r) :: ks, _, hk, h => by
    cases h with
    | @cons p q ps qs h t =>
      obtain ⟨k, v⟩ := q
      obtain ⟨h1, h2⟩ := h
      have h1 : (Sum.inr x : L2.Key) = k := h1
      subst h1
      have h2 : RelV (.ref r) v := h2
      have rr := rb.val (Sum.inr x : L2.Key)
      rw [val_look] at rr
      unfold hitB
      cases e : ls.lookup x with
      | none =>
        rw [e] at rr
        cases hv : valueAt vb (Sum.inr x : L2.Key) with
        | none => exact .miss hv
        | some y =>
          rw [hv] at rr
          exact rr.elim
      | some r' =>
        rw [e] at rr
        obtain ⟨y, hy, ry⟩ := RelO.some_of rr
        have ml : (x, r') ∈ ls := by
          obtain ⟨l1, l2, e', _⟩ := List.lookup_eq_some_iff.mp e
          rw [e']
          exact List.mem_append_right _ List.mem_cons_self
        obtain ⟨d1, c1, z1⟩ := hk _ List.mem_cons_self
        obtain ⟨d2, c2, z2⟩ := hl _ ml
        obtain ⟨as, a1⟩ := Dp.reads I _ _ v d1 h2
        obtain ⟨bs, b1⟩ := Dp.reads I _ _ y d2 ry
        refine .hit hy (SeqAt.eqAt_reads _ _ A s _ _ _ _ a1 b1 c1 c2 ?_) (hits_data I hu hl rb (fun q m => hk q (List.mem_cons_of_mem _ m)) t)
        have z1 : (δ r).depth ≤ 64 := z1
        have := Nat.min_le_left (δ r).depth (δ r').depth
        omega
end
section
variable {X : Cx}
def rEqDV (K : PySem.W.Frag) : R2 := fun x y H Q => ∃ (a b : Addr) (ks ls : List (Str × Addr)) (δ : Addr → PyData), x = .ref a ∧ y = .ref b ∧ H a = some (.dK (ks.map fun p => ((Sum.inr p.1 : L2.Key), V.ref p.2))) ∧ H b = some (.dK (ls.map fun p => ((Sum.inr p.1 : L2.Key), V.ref p.2))) ∧
  (∀ q ∈ ks, Dp K H (.ref q.2) (δ q.2) ∧ (δ q.2).canLay0 = true ∧ (δ q.2).depth ≤ 64) ∧ (∀ q ∈ ls, Dp K H (.ref q.2) (δ q.2) ∧ (δ q.2).canLay0 = true ∧ (δ q.2).depth ≤ 64) ∧ Q (.bl (ks.length == ls.length && hitB δ ls ks)) H
theorem op_eqDV (hu : X.A.units + 66 < cLine) : OpR X (compareOp .Eq) (rEqDV X.K) := by
  rintro pins s σ H x y v u Q I rx ry ⟨a, b, ks, ls, δ, rfl, rfl, ea, eb, hk, hl, q⟩
  obtain rfl : v = Value.ref a := rx
  obtain rfl : u = Value.ref b := ry
  obtain ⟨_, ya, va, ra, da⟩ := (show ObjOk X.prog X.w H s.heap a (.dK _) from I.hok a _ ea)
  obtain ⟨_, yb, vb, rb, db⟩ := (show ObjOk X.prog X.w H s.heap b (.dK _) from I.hok b _ eb)
  have l1 : ks.length = va.length := by rw [← Paired.length ra, List.length_map]
  have l2 : ls.length = vb.length := by rw [← Paired.length rb, List.length_map]
  rw [l1, l2] at q
  exact PySem.W.keq_eq (knd := mixKind X.prog X.w) (r := hitB δ ls ks) ya yb da db (by omega) (fun _ => hits_data I (A := X.A.in1) (by show X.A.units + 1 + 64 < cLine; omega) hl rb hk ra) ⟨.bl _, H, I, rfl, q⟩
end
end Moot
/-! Network: ==, len. -/
namespace Moot
open PySem PySem.Spec PyProof.Rows L2
/-- these references stand for these data -/
def DatR (K : PySem.W.Frag) (H : Hp) (δ : Addr → PyData) (rs : Rws) : Prop := ∀ q ∈ rs, Dp K H (.ref q.2) (δ q.2) ∧ (δ q.2).canLay0 = true ∧ (δ q.2).depth ≤ 60
/-- the same names, with equal data -/
def eqN (δ : Addr → PyData) (rs1 rs2 : Rws) : Bool := rs1.length == rs2.length && hitB δ rs2 rs1
structure OwnN (K : PySem.W.Frag) (C : Addr) : Prop where
  ha : PySem.W.findIn K (.ref C) "__class__" = some (some (.builtin "object.__class__"))
  hn : PySem.W.specialIn K (.builtin "object.__class__") "__get__" = some (some (.builtin "getset_descriptor.__get__"))
  htk : PySem.W.takesIn K (.builtin "object.__class__") = some true
  hm : PySem.W.mroIn K C (.type "object") = some true
  kit : PySem.W.kitOne K (.ref C) (.ref C) = some true
section
variable {P : Program} {w : World} {K : PySem.W.Frag} {mg : Str → Option Value} {base : Heap}
abbrev sEqN : Stmt := inClass (top 25) 1
theorem scEqN : FnScope ["self", "other"] ["self", "other"] (defScope sEqN) := ⟨rfl, rfl, rfl, by decide +kernel, rfl, by decide +kernel, by decide +kernel⟩
def spEqN (K : PySem.W.Frag) (C : Addr) : Sp := fun vs H Q _ => ∃ (a D1 : Addr) (c1 : Rq) (xs1 : List Str) (rs1 : Rws) (y : V), vs = [.ref a, y] ∧ NetAt C H a D1 c1 xs1 rs1 ∧
  ((∃ (b D2 : Addr) (c2 : Rq) (xs2 : List Str) (rs2 : Rws) (δ : Addr → PyData), y = .ref b ∧ NetAt C H b D2 c2 xs2 rs2 ∧ DatR K H δ rs1 ∧ DatR K H δ rs2 ∧ ∀ H', Same H H' → Q (.bl (eqN δ rs1 rs2)) H') ∨
  (∃ t : Value, TyX K H y t ∧ PySem.W.kitOne K t (.ref C) = some false ∧ ∀ H', Same H H' → Q (.bl false) H'))
theorem ok_eqN {f C : Addr} {fd : FuncData} {k : Nat} (F : Fun K "__eq__" "Network.__eq__" sEqN f fd) (T : Bq mg) (X : Txt K mg C) (O : OwnN K C) : FnOk P w K mg base CX0 (k + 1) f fd ["self", "other"] (spEqN K C) := by
  refine F.ok scEqN (fun vs H Q E h => ?_) (fun cdv A outer s H vs Q E hr h => ?_)
  · obtain ⟨a, D1, c1, xs1, rs1, y, rfl, _⟩ := h
    rfl
  · obtain ⟨a, D1, c1, xs1, rs1, y, rfl, N1, h⟩ := h
    have hu : (A.deeper (envOfC "Network.__eq__" (defScope sEqN) s.heap.objs.size f cdv)).units + 66 < cLine := by
      have := hr.un
      omega
    obtain ⟨dx1, h1⟩ := N1.ob
    refine ⟨_, pss_one (ps_ret (pe_and (pe_callB call_isi (by rfl) T.T.isi (by decide +kernel) (pa_cons (pv 1) (pa_cons (pe_glob (v := .ref C) (by rfl) X.mgC rfl) pa_nil)))
      (pe_one (pe_cmpR (op_eqDV hu) (pe_fld (pv 0) rfl) (pe_fld (pv 1) rfl) (nomark _))))), ?_⟩
    rcases h with ⟨b, D2, c2, xs2, rs2, δ, rfl, N2, d1, d2, q⟩ | ⟨t, ty, kt, q⟩
    · obtain ⟨dx2, h2⟩ := N2.ob
      refine ⟨.ref b, rfl, _, _, .ref C, .ref C, true, rfl, .own C, .base (.ins h2 X.cl O.ha O.hn O.htk O.hm), O.kit, _, rfl, iteT ?_⟩
      refine ⟨.ref a, rfl, a, C, dx1, _, _, rfl, h1, X.cl, X.nR, fld_get D1, .ref b, rfl, b, C, dx2, _, _, rfl, h2, X.cl, X.nR, fld_get D2, D1, D2, rs1, rs2, δ, rfl, rfl, N1.dc, N2.dc, fun p m => let ⟨a, b, c⟩ := d1 p m; ⟨a, b, by omega⟩, fun p m => let ⟨a, b, c⟩ := d2 p m; ⟨a, b, by omega⟩, q H fun _ _ z => z⟩
    · exact ⟨y, rfl, _, _, t, .ref C, false, rfl, .own C, ty, kt, _, rfl, iteF (q H fun _ _ z => z)⟩
/-! __len__ -/
abbrev sLen : Stmt := inClass (top 25) 2
theorem scLen : FnScope ["self"] ["self"] (defScope sLen) := ⟨rfl, rfl, rfl, by decide +kernel, rfl, by decide +kernel, by decide +kernel⟩
def spLen (C : Addr) : Sp := fun vs H Q _ => ∃ (a D : Addr) (c : Rq) (xs : List Str) (rs : Rws), vs = [.ref a] ∧ NetAt C H a D c xs rs ∧ Q (.int (rs.length : Int)) H
theorem ok_lenN {f C : Addr} {fd : FuncData} {k : Nat} (F : Fun K "__len__" "Network.__len__" sLen f fd) (T : Bq mg) (X : Txt K mg C) : FnOk P w K mg base CX0 (k + 1) f fd ["self"] (spLen C) := by
  refine F.ok scLen (fun vs H Q E h => ?_) (fun cdv A outer s H vs Q E hr h => ?_)
  · obtain ⟨a, D, c, xs, rs, rfl, _⟩ := h
    rfl
  · obtain ⟨a, D, c, xs, rs, rfl, N, q⟩ := h
    obtain ⟨dx1, h1⟩ := N.ob
    refine ⟨_, pss_one (ps_ret (pe_callB call_lenD (by rfl) T.T.len PySem.boot_len (pa_cons (pe_fld (pv 0) rfl) pa_nil))), ?_⟩
    have e : (kvs rs).length = rs.length := kvs_len rs
    refine ⟨.ref a, rfl, a, C, dx1, _, _, rfl, h1, X.cl, X.nR, fld_get D, D, _, rfl, N.dc, ?_⟩
    rw [e]
    exact q
end
end Moot
/-! Dicts whose keys and values bear tokens: d[k], dict(xs). -/
namespace Moot
open PySem PySem.Spec PyProof.Rows L2 PySem.W
/-- each key and each value of the dict's object bears a token -/
def GdDv (o : Obj) : Prop := ∃ es ep, o.data = .dict es ep ∧ ∀ e ∈ es.toList, GdV e.key ∧ GdV e.val
/-- a dict known so -/
def GDv (H : Hp) (a : Addr) (kvs : List (L2.Key × V)) : Prop := ∃ o, GdDv o ∧ H a = some (.frz o (.dK kvs))
theorem GdDv.k {o : Obj} (g : GdDv o) : GdD o := let ⟨es, ep, e, all⟩ := g; ⟨es, ep, e, fun x m => (all x m).1⟩
theorem GDv.k {H : Hp} {a : Addr} {kvs : List (L2.Key × V)} (h : GDv H a kvs) : GDk H a kvs := let ⟨o, g, e⟩ := h; ⟨o, g.k, e⟩
theorem GDv.same {H H' : Hp} {a : Addr} {kvs : List (L2.Key × V)} (h : GDv H a kvs) (s : ∀ d o, H d = some o → H' d = some o) : GDv H' a kvs := let ⟨o, g, e⟩ := h; ⟨o, g, s _ _ e⟩
section
variable {P : Program} {w : World} {κ : Type} [DecidableEq κ] {knd : PySem.KeyKind P w κ}
theorem pairs_vals {es : List DictEntry} {kvs : List (κ × Value)} (h : PySem.Pairs knd es kvs) (g : ∀ p ∈ kvs, GdV p.2) : ∀ e ∈ es, GdV e.val := by
  induction h with
  | nil => exact fun e m => by cases m
  | cons h1 h2 _ ih =>
    intro e m
    rcases List.mem_cons.mp m with rfl | m
    · rw [h2]
      exact g _ List.mem_cons_self
    · exact ih (fun p mp => g p (List.mem_cons_of_mem _ mp)) e m
theorem vals_pairs {es : List DictEntry} {kvs : List (κ × Value)} (h : PySem.Pairs knd es kvs) (g : ∀ e ∈ es, GdV e.val) : ∀ p ∈ kvs, GdV p.2 := by
  induction h with
  | nil => exact fun e m => by cases m
  | cons h1 h2 _ ih =>
    intro p m
    rcases List.mem_cons.mp m with rfl | m
    · rw [← h2]
      exact g _ List.mem_cons_self
    · exact ih (fun e me => g e (List.mem_cons_of_mem _ me)) p m
theorem stored_vals {kvs : List (κ × Value)} {k : κ} {v : Value} (g : ∀ p ∈ kvs, GdV p.2) (gv : GdV v) : ∀ p ∈ stored kvs k v, GdV p.2 := fun p m => by
  unfold stored at m
  split at m
  · obtain ⟨q, mq, rfl⟩ := List.mem_map.mp m
    split
    · exact gv
    · exact g q mq
  · rcases List.mem_append.mp m with m | m
    · exact g p m
    · rw [List.mem_singleton.mp m]
      exact gv
theorem merged_vals : ∀ {more acc : List (κ × Value)}, (∀ p ∈ acc, GdV p.2) → (∀ p ∈ more, GdV p.2) → ∀ p ∈ merged acc more, GdV p.2
  | [], acc, h, _ => h
  | q :: more, acc, h, g => merged_vals (more := more) (stored_vals h (g q List.mem_cons_self)) fun p m => g p (List.mem_cons_of_mem _ m)
theorem valueAt_in {kvs : List (κ × Value)} {k : κ} {v : Value} (h : valueAt kvs k = some v) : ∃ p ∈ kvs, p.2 = v := by
  unfold valueAt at h
  obtain ⟨p, hp, e⟩ := Option.map_eq_some_iff.mp h
  exact ⟨p, List.mem_of_find?_eq_some hp, e⟩
theorem dict_vals {h : Heap} {d : Addr} {o : Obj} {kvs : List (κ × Value)} (e : h.get? d = some o) (dd : h.DictOf knd d kvs) (g : GdDv o) : ∀ p ∈ kvs, GdV p.2 := by
  obtain ⟨o', es, ep, ho, _, hd, _, hp, _⟩ := dd
  obtain ⟨es', ep', ed, all⟩ := g
  have eo : o' = o := Option.some.inj (ho.symm.trans e)
  rw [eo, ed] at hd
  injection hd with e1 e2
  subst e1
  exact vals_pairs hp fun x m => (all x m).2
end
section
variable {X : Cx} {nn : Nat}
/-- d[k] of such a dict -/
theorem pek_dgetG {e i : Expr} {td ty : TE} {pos : Pos} (hu : X.A.units + 1 < cLine) (ho : PE X e td) (hi : PE X i ty) (hs : NoSl i) :
    PEK nn X (.Subscript e i pos) (fun σ H Q => td σ H fun x H1 => ty σ H1 fun y H2 => ∃ a kvs k v, x = .ref a ∧ y = kV k ∧ GDv H2 a kvs ∧ valV kvs k = some v ∧ Q v H2) := by
  refine ⟨fun pins s σ H Q _ I h => ?_⟩
  refine subD_of PySem.F.slot_dict_getitem.lookup hs (thn (ho.run pins s σ H _ I h) fun u s1 ⟨x, H1, I1, rx, q1⟩ => thn (hi.run pins s1 σ H1 _ I1 q1) fun iv s2 ⟨y, H2, I2, ry, a, kvs, k, v, ex, ey, ⟨o, g, hH⟩, hv, q2⟩ => ?_)
  subst ex
  subst ey
  obtain rfl : u = Value.ref a := rx
  obtain ⟨eo, _⟩ := I2.hok a _ hH
  obtain ⟨z, hd, vs, rel, dd⟩ := dk_rd I2.hok (.inr ⟨o, hH⟩)
  obtain ⟨w', hw, rw'⟩ := RelO.some_of (v := v) (o := valueAt vs k) (by rw [← hv]; exact rel.val k)
  obtain ⟨p, mp, ep⟩ := valueAt_in hw
  have gw : GdV w' := by
    rw [← ep]
    exact dict_vals eo dd g p mp
  exact ⟨dict_typeIs I2 (.inl ⟨kvs, k, .inr ⟨o, hH⟩, rfl, hv.symm⟩), wpAny_getItem_of (kV_is ry) dd.mapOf hw ⟨v, H2, I2.tok _, rw', gw, q2⟩⟩
theorem pairs_goodV {pins : List (Addr × Obj)} {σ : L2.St} {H : Hp} {s : Shared} (I : Inv X pins σ H s) : ∀ {ps : List Addr} {kvs : List (L2.Key × V)}, Paired (fun p kv => GTp H p [kV kv.1, kv.2]) ps kvs →
    ∃ prs : List (L2.Key × Value), KV kvs prs ∧ prs.length = ps.length ∧ (∀ q ∈ prs, GdV q.2) ∧ ∀ (j : Nat) (q : L2.Key × Value), prs[j]? = some q → ∃ (b : Addr) (u : Value), ps[j]? = some b ∧ IsTup s.heap b #[u, q.2] ∧ keyIs q.1 u = true ∧ GdV u
  | _, _, .nil => ⟨[], .nil, rfl, (fun q m => by cases m), fun j q e => by cases e⟩
  | _, _, .cons (a := p) (b := kv) h t => by
    obtain ⟨prs, r, hl, gv, hp⟩ := pairs_goodV I t
    obtain ⟨o, ⟨its, n, oc, od, rv, g⟩, hH⟩ := h
    obtain ⟨eo, _⟩ := I.hok p _ hH
    obtain ⟨u, y, ei, ru, ry⟩ := vals2 rv
    subst ei
    refine ⟨(kv.1, y) :: prs, .cons ⟨rfl, ry⟩ r, congrArg (· + 1) hl, fun q m => ?_, fun j q e => ?_⟩
    · rcases List.mem_cons.mp m with rfl | m
      · exact g y (List.mem_cons_of_mem _ List.mem_cons_self)
      · exact gv q m
    · cases j with
      | zero =>
        cases Option.some.inj e
        exact ⟨p, u, rfl, ⟨o, eo, oc, n, od⟩, kV_is (P := X.prog) (w := X.w) ru, g u List.mem_cons_self⟩
      | succ j => exact hp j q e
/-- dict(xs), xs a list of known pairs: keys and values are known -/
theorem call_dictGv (calm : X.calm = true) : CallR X (.type "dict") (fun xs H Q => ∃ (a : Addr) (ps : List Addr) (kvs : List (L2.Key × V)), xs = [.ref a] ∧ SqL X.K H a (ps.map V.ref) ∧ Paired (fun p kv => GTp H p [kV kv.1, kv.2]) ps kvs ∧
    ∀ p o, H p = none → GdDv o → Q (.ref p) (upd H p (.frz o (.dK (mergeK [] kvs))))) := by
  intro pins s σ H xs us Q I r q
  obtain ⟨a, ps, kvs, rfl, hq, hp, q⟩ := q
  obtain ⟨u, rfl, rx⟩ := vals1 r
  cases rx
  obtain ⟨its, rv, pl, hz⟩ := I.list hq
  have ei := refs_at rv
  subst ei
  rw [List.length_map] at hz
  obtain ⟨prs, rel, hl, gv, hpr⟩ := pairs_goodV I hp
  obtain ⟨o, n, ho, hc, hd, dat⟩ := pl
  refine dict_good (prs := prs) (I.ok.hd calm) ho hc hd dat (by simp [hl]) (by rw [hl]; exact hz) (fun j q' e => ?_) fun h' tk d' g' k => ?_
  · obtain ⟨b, u, e1, e2, e3, e4⟩ := hpr j q' e
    exact ⟨b, u, by simp [e1], e2, e3, e4⟩
  · obtain ⟨o', es, ep, eo, ed, all⟩ := g'
    have lo : (s.heap.objs.size == sysModules) = false := beq_eq_false_iff_ne.mpr (Nat.ne_of_gt I.big)
    have len : (mergeK [] kvs).length ≤ sizeLine := by
      refine Nat.le_trans (length_mergeK kvs []) ?_
      rw [List.length_nil, Nat.zero_add, rel.length, hl]
      exact hz
    have both : ∀ e ∈ es.toList, GdV e.key ∧ GdV e.val := by
      obtain ⟨o2, es2, ep2, eo2, _, ed2, _, hp2, _⟩ := id d'
      have e12 : o2 = o' := Option.some.inj (eo2.symm.trans eo)
      rw [e12, ed] at ed2
      injection ed2 with x1 x2
      subst x1
      exact fun e m => ⟨all e m, pairs_vals hp2 (merged_vals (fun p m => by cases m) gv) e m⟩
    exact ⟨.ref s.heap.objs.size, _, I.laid (t' := tk) k (Nat.le_refl _) (show ObjOk X.prog X.w _ _ _ (.frz o' (.dK (mergeK [] kvs))) from ⟨eo, len, lo, merged [] prs, KV.merge rel .nil, d'⟩), rfl, q _ _ (I.hok.fresh (Nat.le_refl _)) ⟨es, ep, ed, both⟩⟩
/-- a value that is no text is known -/
theorem pek_ref {e : Expr} {te : TE} (he : PE X e te) : PEK nn X e (fun σ H Q => te σ H fun y H1 => ∃ a, y = .ref a ∧ Q y H1) := by
  refine ⟨fun pins s σ H Q _ I h => thn (he.run pins s σ H _ I h) fun u s1 ⟨y, H1, I1, r, a, ey, q⟩ => ?_⟩
  subst ey
  cases r
  exact ⟨.ref a, H1, I1, rfl, trivial, q⟩
/-- xs.append(y) into a known list, y known -/
theorem pe_appendG {o e : Expr} {to te : TE} {apos cpos : Pos} (ho : PE X o to) (he : PEK 0 X e te) (hbase : attributeBase o "append" X.env (eval o X.env) = eval o X.env := by rfl)
    (hfew : ((backTo cpos (starEach [e] X.env)).all (fun x => !x.1) && (backToKw cpos (keywordEach [] X.env)).all (fun x => x.1.isSome) && decide ([e].length + ([] : List Keyword).length + (if ([] : List Keyword).isEmpty then 0 else 1) < 30)) = true := by rfl)
    (hline : (apos.endLine == cpos.line) = true := by rfl) (hs : starEach [e] X.env = [(false, eval e X.env)] := by rfl) :
    PE X (.Call (.Attribute o "append" apos) [e] [] cpos) (fun σ H Q => to σ H fun x H1 => tyV X.K "list" x H1 ∧ te σ H1 fun y H2 => ∃ l xs, x = .ref l ∧ GLs H2 l xs ∧ Nf X l ∧ xs.length < sizeLine ∧
      ∀ o', GdL o' (xs ++ [y]) → Q .non (upd H2 l (.frz o' (.lst (xs ++ [y]))))) := by
  refine ⟨fun pins s σ H Q I h => ?_⟩
  refine wpAny_Call_method_late hbase hfew hline rfl (thn (ho.run pins s σ H _ I h) fun v s1 ⟨x, H1, I1, r1, ty, q1⟩ => ?_)
  obtain ⟨h1, h2⟩ := tyV_is I1 r1 ty
  refine ⟨"list", "list.append", F.plainAttrs_list, F.slot_list_append, F.type_list_append, h1, h2, ?_⟩
  rw [hs]
  refine Calls.callWith_builtin rfl (Calls.evalArgs_plain ?_)
  show wpAny _ _ (spliced ((false, eval e X.env) :: backTo cpos [])) _ _ s1
  refine Calls.spliced_cons (thn (he.run pins s1 σ H1 _ (Nat.zero_le _) I1 q1) fun u s2 ⟨y, H2, I2, ru, gu, l, xs, ex, ⟨ob, ⟨its, n, eo, r, g⟩, hH⟩, nf, hz, q⟩ => Calls.spliced_nil ?_)
  subst ex
  subst eo
  cases r1
  obtain ⟨hget, _⟩ := I2.hok l _ hH
  have hl := r.length
  refine call_meets F.slot_list_append ⟨_, hget, rfl⟩ F.entry_list_append (F.args_list_append_2 _ _) (PySem.list_append l its.toArray n u (by rw [List.size_toArray]; omega)) ⟨hget, ?_⟩
  obtain ⟨o', g', I'⟩ := inv_reset (its' := its ++ [u]) (f := fun a : Array Value => a.push u) (t' := s2.toks) I2 hH nf hget (by simp) (r.append (.cons ru .nil)) (by rw [List.length_append, List.length_singleton]; omega) (g.append (GdS.one gu))
  exact ⟨.non, _, I', rfl, q _ g'⟩
/-- (x, y), both known -/
theorem pe_pairGG {e1 e2 : Expr} {t1 t2 : TE} {x1} {pos : Pos} (h1 : PEK 0 X e1 t1) (h2 : PEK 0 X e2 t2) (hs : starEach [e1, e2] X.env = (false, eval e1 X.env) :: starEach [e2] X.env := by rfl) (hs2 : starEach [e2] X.env = (false, eval e2 X.env) :: starEach [] X.env := by rfl) :
    PE X (.Tuple [e1, e2] x1 pos) (fun σ H Q => t1 σ H fun x H1 => t2 σ H1 fun y H2 => ∀ p o, H2 p = none → GdT o [x, y] → Q (.ref p) (upd H2 p (.frz o (.tup [x, y])))) := by
  refine ⟨fun pins s σ H Q I h => ?_⟩
  refine wpAny_Tuple_spliced ?_
  rw [hs]
  show wpAny _ _ (spliced ((false, eval e1 X.env) :: backTo pos (starEach [e2] X.env))) _ _ s
  refine Calls.spliced_cons (thn (h1.run pins s σ H _ (Nat.zero_le _) I h) fun u s1 ⟨x, H1, I1, r1, g1, q1⟩ => ?_)
  rw [hs2]
  show wpAny _ _ (spliced ((false, eval e2 X.env) :: backTo pos (starEach [] X.env))) _ _ s1
  refine Calls.spliced_cons (thn (h2.run pins s1 σ H1 _ (Nat.zero_le _) I1 q1) fun v s2 ⟨y, H2, I2, r2, g2, q⟩ => Calls.spliced_nil ?_)
  refine ⟨by show 2 ≤ sizeLine; decide, ?_⟩
  have fr : H2 s2.heap.objs.size = none := I2.hok.fresh (Nat.le_refl _)
  have vv : Vals [x, y] [u, v] := .cons r1 (.cons r2 .nil)
  have gg : GdS [u, v] := fun z m => by
    rcases List.mem_cons.mp m with e | m
    · rw [e]; exact g1
    · rw [List.mem_singleton.mp m]; exact g2
  exact ⟨.ref s2.heap.objs.size, _, I2.laid (t' := s2.toks) (fun b o e => Heap.get?_push_of_some _ e) (Nat.le_refl _) (show ObjOk X.prog X.w _ _ _ (.frz { cls := .type "tuple", data := .seq [u, v].toArray } (.tup [x, y])) from ⟨Heap.get?_push_size _ rfl, by show 2 ≤ sizeLine; decide, [u, v], vv, IsTup.new _ _⟩), rfl, q _ _ fr ⟨[u, v], 0, rfl, rfl, vv, gg⟩⟩
end
end Moot
namespace Moot
open PySem PySem.Spec PyProof.Rows L2
section
variable {P : Program} {w : World} {K : PySem.W.Frag} {mg : Str → Option Value} {base : Heap}
/-! values of any kind shuffled -/
def spShuV (K : PySem.W.Frag) : Sp := fun vs H Q _ => ∃ (b g m vp : Addr) (n : Nat) (xs : List V), vs = [.ref b, .ref vp] ∧ Box H b g m n ∧ n ≤ 900000 ∧ (SqL K H vp xs ∨ SqT K H vp xs) ∧ xs.length ≤ 100 ∧
  ∀ (p : Addr) (ys : List V) (H' : Hp), H p = none → H' p = some (.lst ys) → ys.Perm xs → Box H' b g m (n + xs.length) → Keep b g H H' → Q (.ref p) H'
theorem ok_shuffledV {f fT : Addr} {fd fdT : FuncData} {k : Nat} (F : Fun K "_law_shuffled" "_law_shuffled" sShu f fd) (FT : Fun K "_law_take" "_law_take" sTake fT fdT) (bT : Binds K fdT ["_law_box_here", "_law_size"] []) (gT : mg "_law_take" = some (.ref fT))
    (GT : FnOk P w K mg base CX0 k fT fdT ["_law_box_here", "_law_size"] spTake) (T : Bq mg) : FnOk P w K mg base CX0 (k + 1) f fd ["_law_box_here", "_law_values"] (spShuV K) := by
  have mr := T.T.rng
  have ml := T.T.len
  have mls := T.T.lst
  refine F.ok scShu (fun vs H Q E h => ?_) (fun cdv A outer s H vs Q E hr h => ?_)
  · obtain ⟨b, g, m, vp, n, xs, rfl, _⟩ := h
    rfl
  · obtain ⟨b, g, m, vp, n, xs, rfl, B, hn, hv, x2, q⟩ := h
    refine ⟨_, pss_cons (ps_set (i := 2) scShu.nd rfl (Or.inr rfl) (pe_callTy call_list_of (by rfl) mls (by decide +kernel) (pa_cons (pv 1) pa_nil)))
      (pss_one (ps_ret (pe_lc (own := [("_law_k", 3)]) (g := gName 3) (tt := tYes) (by rfl) scShu.nd
        (pi_range1 rfl mr (pa_cons (pe_callB call_len_seq (by rfl) ml PySem.boot_len (pa_cons (pv 2) pa_nil)) pa_nil)) (blkOk_by (N := nShu) (sc := defScope sShu) (by decide +kernel))
        (fun _ _ _ _ _ => pg_name (i := 3) scShu.nd rfl (Or.inl rfl)) (fun _ _ _ _ _ => pts_nil)
        (fun _ _ _ _ _ => (show PE _ _ (tBM K "list" rPopAt _ _) from pe_bm PySem.F.plainAttrs_list PySem.F.slot_list_pop PySem.F.type_list_pop mt_popAt (pv 2) (pa_cons (pe_call GT hr (by rfl) gT FT.kp bT .nil pass0 (pa_cons (pv 0) (pa_cons
          (pe_callB (show CallR _ (.builtin "len") (rLen K) from call_len_seq) (by rfl) ml PySem.boot_len (pa_cons (pv 2) pa_nil)) pa_nil))) pa_nil)))))), ?_⟩
    refine ⟨.ref vp, rfl, vp, _, rfl, hv, fun l nl => ?_⟩
    obtain ⟨lb, lg, lm⟩ := B.ne nl
    have s1 : Same H (upd H l (.lst xs)) := same_new nl
    have hl1 : (upd H l (.lst xs)) l = some (.lst xs) := upd_same
    generalize upd H l (.lst xs) = H1 at s1 hl1 ⊢
    have B1 := B.same s1
    refine ⟨.ref l, rfl, l, _, rfl, .inl (SqL.of hl1), (xs.length : Int), rfl, by omega, by omega, fun D nD => ?_⟩
    obtain ⟨Db, Dg, Dm⟩ := B1.ne nD
    have Dl : D ≠ l := (ne_of_none hl1 nD).symm
    have K01 : Keep b g H H1 := Same.keep s1
    have fD : H D = none := K01.free Db Dg nD
    refine lc_range (lo := 0) (n := ((xs.length : Nat) : Int).toNat) (fun j H4 => Box H4 b g m (n + j) ∧ Keep b g H H4 ∧ ∃ ys zs : List V, H4 D = some (.lst ys) ∧ H4 l = some (.lst zs) ∧ ys.length = j ∧ (ys ++ zs).Perm xs) ?_ ?_ ?_
    · refine ⟨B1.store Db Dg Dm, K01.trans (Same.keep (same_new nD)), [], xs, upd_same, ?_, rfl, List.Perm.refl _⟩
      rw [upd_ne Dl.symm]
      exact hl1
    · rintro j H4 hj ⟨B4, K4, ys, zs, hD, hl, ly, pm⟩
      have total := pm.length_eq
      rw [List.length_append] at total
      refine ⟨rfl, .ref l, rfl, .inl ⟨rfl, _, SqL.of hl⟩, .ref b, rfl, .ref l, rfl, l, _, rfl, .inl (SqL.of hl), b, g, m, _, _, rfl, B4, by omega, by omega, by omega, fun v H5 c0 c1 B5 K5 => ?_⟩
      have hl5 := K5 _ _ hl lb lg
      have hD5 := K5 _ _ hD Db Dg
      have hv : v.toNat < zs.length := by omega
      refine ⟨l, _, v, v.toNat, zs[v.toNat], rfl, rfl, hl5, by omega, by omega, seq_at c0 c1, ?_, ys, ?_, ?_, ?_⟩
      · exact List.getElem?_eq_getElem hv
      · rw [upd_ne Dl]
        exact hD5
      · exact small1000 (by omega)
      · refine ⟨((B5.store lb lg lm).store Db Dg Dm).more (by omega), fun d o e n1 n2 => ?_, ys ++ [zs[v.toNat]], zs.eraseIdx v.toNat, ?_, ?_, ?_, ?_⟩
        · rw [upd_ne (ne_of_none e fD), upd_ne (ne_of_none e nl)]
          exact K5 _ _ (K4 _ _ e n1 n2) n1 n2
        · exact upd_same
        · rw [upd_ne Dl.symm, upd_same]
        · rw [List.length_append, ly]
          rfl
        · refine List.Perm.trans ?_ pm
          rw [List.append_assoc]
          exact List.Perm.append_left ys (erase_perm zs v.toNat _ (List.getElem?_eq_getElem hv))
    · rintro H4 ⟨B4, K4, ys, zs, hD, hl, ly, pm⟩
      have total := pm.length_eq
      rw [List.length_append] at total
      have z0 : zs = [] := List.length_eq_zero_iff.mp (by omega)
      subst z0
      rw [List.append_nil] at pm
      exact q D ys H4 fD hD pm (B4.more (by omega)) K4
end
end Moot
namespace Moot
open PySem PySem.Spec PyProof.Rows L2
section
variable {X : Cx} {pins : List (Addr × Obj)} {σ : List (Option V)} {H : Hp} {s : Shared} {l : Addr}
/-- of a known dict nothing more is said than what it holds -/
theorem inv_meltD {o : Obj} {kv : List (L2.Key × V)} (I : Inv X pins σ H s) (h : H l = some (.frz o (.dK kv))) (nf : Nf X l) : Inv X pins σ (upd H l (.dK kv)) s := by
  have off : ∀ {b : Addr} {u : HO}, H b = some u → (∀ o v, u ≠ .frz o v) → b ≠ l := fun {b u} e n z => by
    rw [z, h] at e
    cases e
    exact n _ _ rfl
  have nn : ∀ b, H b = none → b ≠ l := fun b e z => by
    rw [z, h] at e
    cases e
  have new : ObjOk X.prog X.w (upd H l (.dK kv)) s.heap l (.dK kv) := by
    obtain ⟨_, z, lo, vs, r, d⟩ := I.hok l _ h
    exact ⟨z, lo, vs, r, d⟩
  have hok : HOk X.prog X.w (upd H l (.dK kv)) s.heap := fun b u q => by
    by_cases e : b = l
    · subst e
      rw [upd_same] at q
      cases q
      exact new
    · rw [upd_ne e] at q
      exact (I.hok b u q).stay (fun _ _ _ r => r) (fun c r => by rw [upd_ne (off r fun _ _ z => by cases z)]; exact r) fun c zs r => by rw [upd_ne (off r fun _ _ z => by cases z)]; exact r
  have base : Un X.fs X.ex X.H_0 (upd H l (.dK kv)) X.s_0.heap s.heap := ⟨I.base.keep, I.base.slot, fun b o e n hx => by
      have z := I.base.free b o e n hx
      rw [upd_ne (nn b z)]
      exact z, I.base.there, fun b zs e => by
      have z := I.base.tups b zs e
      rw [upd_ne (off z fun _ _ y => by cases y)]
      exact z, fun b o u e => by
      by_cases q : b = l
      · subst q
        exact absurd e (nf o u)
      · rw [upd_ne q]
        exact I.base.frzs b o u e, fun b ps e => by
      obtain ⟨more, z⟩ := I.base.tbls b ps e
      exact ⟨more, by rw [upd_ne (off z fun _ _ y => by cases y)]; exact z⟩⟩
  exact ⟨I.ok, I.os, I.bare, base, I.loc, I.cell, by rw [upd_ne (nn _ I.free)]; exact I.free, fun x c e => by rw [upd_ne (nn _ (I.freeC x c e))]; exact I.freeC x c e,
    fun p hp => let ⟨a, b, c⟩ := I.pin p hp; ⟨a, by rw [upd_ne (nn _ b)]; exact b, c⟩, hok, I.len⟩
/-- from here on the dict is as any -/
theorem pss_meltD {rest : List Stmt} {u : TS} (h : PSs X rest u) : PSs X rest (fun D σ H => ∃ d o kv, H d = some (.frz o (.dK kv)) ∧ Nf X d ∧ u D σ (upd H d (.dK kv))) := by
  refine ⟨fun pins s σ H D I q => ?_⟩
  obtain ⟨d, o, kv, hd, nf, q⟩ := q
  exact h.run pins s σ _ D (inv_meltD I hd nf) q
end
end Moot
namespace Moot
open PySem PySem.Spec PyProof.Rows L2
/-- {}, to be a known dict -/
theorem pe_dnewG {X : Cx} {pos : Pos} : PE X (.Dict [] [] pos) (fun _ H Q => ∀ p o, H p = none → GdD o → Q (.ref p) (upd H p (.frz o (.dK [])))) := ⟨fun pins s σ H Q I h =>
  wpAny_Dict_empty ⟨.ref s.heap.objs.size, _, I.laid (a := s.heap.objs.size) (o := .frz { cls := .type "dict", data := .dict #[] } (.dK [])) (t' := s.toks) (fun _ _ q => Heap.get?_push_of_some _ q) (Nat.le_refl _) ⟨Heap.get?_push_size _ rfl, dk_empty s.heap I.big⟩, rfl, h _ _ (I.hok.fresh (Nat.le_refl _)) ⟨#[], 0, rfl, by simp⟩⟩⟩
end Moot
namespace Moot
open PySem PySem.Spec PyProof.Rows L2
section
variable {X : Cx}
/-- one of two rules -/
theorem call_or {f : Value} {r1 r2 : List V → Hp → VK → Prop} (h1 : CallR X f r1) (h2 : CallR X f r2) : CallR X f (fun xs H Q => r1 xs H Q ∨ r2 xs H Q) := by
  intro pins s σ H xs us Q I r q
  rcases q with q | q
  · exact h1 pins s σ H xs us Q I r q
  · exact h2 pins s σ H xs us Q I r q
/-- len of a dict, known or not -/
theorem call_lenR : CallR X (.builtin "len") (fun xs H Q => ∃ (a : Addr) (kvs : List (L2.Key × V)), xs = [.ref a] ∧ Rd H a (.dK kvs) ∧ Q (.int kvs.length) H) := by
  intro pins s σ H xs us Q I r q
  obtain ⟨a, kvs, rfl, e, q⟩ := q
  obtain ⟨u, rfl, rx⟩ := vals1 r
  cases rx
  exact d_len I e fun t s' I' => ⟨.int kvs.length, H, I', ⟨t, rfl⟩, q⟩
/-- the dict is as any from here on, if it is a known one -/
theorem pss_meltO {rest : List Stmt} {u : TS} (h : PSs X rest u) : PSs X rest (fun D σ H => (∃ d o kv, H d = some (.frz o (.dK kv)) ∧ Nf X d ∧ u D σ (upd H d (.dK kv))) ∨ u D σ H) := by
  refine ⟨fun pins s σ H D I q => ?_⟩
  rcases q with q | q
  · exact (pss_meltD h).run pins s σ H D I q
  · exact h.run pins s σ H D I q
end
end Moot
namespace Moot
open PySem PySem.Spec PyProof.Rows L2
section
variable {X : Cx} {e : Expr} {te : TE} {p apos cpos pos : Pos}
/-- list(e.items()), the dict known or not -/
theorem pe_itemsR (calm : X.calm = true) (he : PE X e te) (hg : Gl X "list") (hm : X.mg "list" = none) (hv : bootBuiltins "list" = some (.type "list")) (hb : attributeBase e "items" X.env (eval e X.env) = eval e X.env := by rfl) (hline : (apos.endLine == cpos.line) = true := by rfl)
    (hs : starEach [.Call (.Attribute e "items" apos) [] [] cpos] X.env = (false, eval (.Call (.Attribute e "items" apos) [] [] cpos) X.env) :: starEach [] X.env := by rfl) :
    PE X (.Call (.Name "list" p) [.Call (.Attribute e "items" apos) [] [] cpos] [] pos) (fun σ H Q => te σ H fun x H1 => ∃ (d : Addr) (kvs : List (L2.Key × V)), x = .ref d ∧ Rd H1 d (.dK kvs) ∧
      ∀ (H' : Hp) (l : Addr) (ts : List Addr), Same H1 H' → H1 l = none → H' l = some (.lst (ts.map V.ref)) → Paired (fun (t : Addr) (q : L2.Key × V) => H' t = some (.tup [kV q.1, q.2])) ts kvs → Q (.ref l) H') := by
  refine ⟨fun pins s σ H Q I q => wpAny_Call_Name_kw (ld_blt I hg hm hv (PyProof.Rows.callWith_type1 ?_ hs rfl))⟩
  rw [hs]
  refine Calls.spliced_cons (wpAny_Call_method (T := "dict") (id := "dict.items") hb rfl hline F.plainAttrs_dict F.slot_dict_items F.type_dict_items (thn (he.run pins s σ H _ I q) fun u s1 h1 => ?_))
  obtain ⟨x, H1, I1, rx, d, kvs, ex, hd, q⟩ := h1
  subst ex
  cases rx
  have ob : ObjOk X.prog X.w H1 s1.heap d (.dK kvs) := hd.ok I1.hok
  obtain ⟨few, lo, vs, kv, dic⟩ := ob
  obtain ⟨ep, dat⟩ := dic.dictAt
  have ln : kvs.length = vs.length := Paired.length kv
  refine ⟨dic.typeIs, dic.mapOf.noDict, ?_⟩
  refine method_meetsIn F.slot_dict_items F.entry_dict_items rfl (PySem.evalArgs_none ⟨rfl, dic.typeIs, F.args_dict_items_1 _, _, meets_dict_items (mixKind X.prog X.w) d lo, ⟨vs, dic⟩, Calls.spliced_nil ?_⟩)
  refine PySem.W.kdx_call (knd := mixKind X.prog X.w) (kvs := vs) (ep := ep) (I1.ok.hd calm) ⟨_, Heap.get?_push_size _ rfl, rfl, rfl⟩ (dat.push _) (by omega) fun h' tk acc c ts hk hS hl hG ha => ?_
  obtain ⟨H', same, nl, nts, _, hl', pr, J⟩ := LiI.items_laid (tk := tk) (I1.kept (t' := s1.toks) fun b ob q => Heap.get?_push_of_some _ q) few kv hk hS hl hG ha
  exact ⟨.ref _, H', J, rfl, q H' _ ts same nl hl' pr⟩
end
end Moot
/-! Walking a known tuple; [x if isinstance(x, str) else f(x) for x in ..]. -/
namespace Moot
open PySem PySem.Spec PyProof.Rows L2
/-- the items of the tuple at a, whose object is o -/
def Itk' (a : Addr) (o : Obj) (xs : List V) : It :=
  ⟨fun i H => H a = some (.frz o (.tup xs)) ∧ i < xs.length, fun i H x H' => H' = H ∧ xs[i]? = some x, fun i H => H a = some (.frz o (.tup xs)) ∧ xs.length ≤ i⟩
theorem turn_known {P : Program} {w : World} {K : PySem.W.Frag} {tg : Expr} (a it : Addr) (o : Obj) (xs : List V) : Turn P w K tg (Itk' a o xs) [it] it (fun i h => h.IsTupleIter it a i) := by
  have T := turn_tuple (P := P) (w := w) (K := K) (tg := tg) a it
  refine ⟨T.mem, T.obj, T.keep, ?_, ?_, T.self⟩
  · intro X hP hw hK hc i pins s σ H E I hf st hg
    obtain ⟨h1, h2⟩ := hg
    refine thn (T.item X hP hw hK hc i pins s σ H E I hf st ⟨xs, xs[i], .inl (.inr ⟨o, h1⟩), List.getElem?_eq_getElem h2⟩) fun r s1 ⟨u, hu, z⟩ => ⟨u, hu, thn z fun _ s2 ⟨x, H', a1, a2, ⟨e, y⟩, a4⟩ => ⟨x, H', a1, a2, ⟨e, y xs (.inl (.inr ⟨o, h1⟩))⟩, a4⟩⟩
  · intro X hP hw hK hc i pins s σ H E I hf st hg
    exact T.done X hP hw hK hc i pins s σ H E I hf st ⟨xs, .inl (.inr ⟨o, hg.1⟩), hg.2⟩
section
variable {X : Cx}
def iKnown (te : TE) : TI := fun σ H R => te σ H fun v H1 => ∃ a o xs, v = .ref a ∧ GdT o xs ∧ H1 a = some (.frz o (.tup xs)) ∧ R (Itk' a o xs) H1
theorem pig_known {nn : Nat} {tg e : Expr} {te : TE} (he : PE X e te) : PIG nn X tg e GdV (iKnown te) := by
  refine ⟨fun pins s σ H R I h => thn (he.run pins s σ H _ I h) fun v s1 ⟨y, H1, I1, r1, a, o, xs, ev, gd, ha, q⟩ => ?_⟩
  subst ev
  cases r1
  obtain ⟨its, n, hc, hd, rv, gi⟩ := gd
  obtain ⟨get, _⟩ := I1.hok a _ ha
  refine wpAny_pyIter_tuple (show s1.heap.IsTuple a its.toArray from ⟨o, get, hc, n, hd⟩) ?_
  refine ⟨s1.heap.objs.size, [s1.heap.objs.size], _, Itk' a o xs, H1, rfl, I1.kept (t' := s1.toks) fun b ob e => Heap.get?_push_of_some _ e, turn_known a _ o xs, ?_, ⟨_, Heap.get?_push_size _ rfl, rfl, rfl⟩, fun b hb => ?_, q⟩
  · intro Y e1 e2 e3 hcY i pins s σ H E k0 I hf st go
    obtain ⟨h1, h2⟩ := go
    obtain ⟨get', _⟩ := I.hok a _ h1
    obtain ⟨u, hu, ru⟩ := rv.get (List.getElem?_eq_getElem h2)
    rw [← e1, ← e2]
    obtain ⟨f0, f1, f2, f3, f4, f5⟩ := hf s1.heap.objs.size (by simp)
    refine wpAny_pyNext_tuple_item st (show s.heap.IsTuple a its.toArray from ⟨o, get', hc, n, hd⟩) (x := u) (by simpa using hu) fun h' st' sb => ?_
    have I2 : Inv Y pins σ H { s with heap := h' } := I.turned (t' := s.toks) (fun b ob hb e => (sb.2 b hb).trans e) f0 f1 f3 f4 f5
    obtain ⟨oi, e, cc, dd⟩ := id st'
    exact ⟨u, rfl, go_of (s := { s with heap := h' }) e cc dd (by decide) ⟨xs[i], H, I2, ru, gi u (List.mem_of_getElem? hu), ⟨rfl, List.getElem?_eq_getElem h2⟩, st', fun b hb => (hf b hb).1⟩⟩
  · have e : b = s1.heap.objs.size := by simpa using hb
    subst e
    exact I1.fpOk (Nat.le_refl _) (I1.hok.fresh (Nat.le_refl _))
end
section
variable {Y : Cx} {pins : List (Addr × Obj)} {σ : L2.St} {H : Hp} {s : Shared}
/-- isinstance(y, str), y a local text: nothing but a token or two changes -/
theorem raw_isi {y z : Str} {t : Tok} {p1 p2 p3 p4 : Pos} {m : Str → Option Value} {Q : Bool → Shared → Prop} {E : Value → Shared → Prop} (I : Inv Y pins σ H s) (hk : Y.env.scope.names.lookup y = some .local) (hn : s.heap.Ns Y.env.locals m) (hm : m y = some (.str z t))
    (gi : Gl Y "isinstance") (mi : Y.mg "isinstance" = none) (gs : Gl Y "str") (ms : Y.mg "str" = none) (h : ∀ tk, Q true { s with toks := tk })
    (he : starEach [.Name y p2, .Name "str" p3] Y.env = (false, eval (.Name y p2) Y.env) :: starEach [.Name "str" p3] Y.env := by rfl) (he2 : starEach [.Name "str" p3] Y.env = (false, eval (.Name "str" p3) Y.env) :: starEach [] Y.env := by rfl)
    (hpl : (backTo p4 (starEach [.Name "str" p3] Y.env)).any (·.1) = false := by rfl)
    (hw : ∀ whole, isTrue (.Call (.Name "isinstance" p1) [.Name y p2, .Name "str" p3] [] p4) Y.env whole = (do let v ← whole; standAt (Expr.Call (.Name "isinstance" p1) [.Name y p2, .Name "str" p3] [] p4).pos; holding [v] (truthy v)) := by intro _; rfl)
    (hdy : (y == ("__debug__" : Str)) = false := by decide) :
    wpAny (model Y.prog Y.w) Y.A (isTrue (.Call (.Name "isinstance" p1) [.Name y p2, .Name "str" p3] [] p4) Y.env (eval (.Call (.Name "isinstance" p1) [.Name y p2, .Name "str" p3] [] p4) Y.env)) Q E s := by
  refine isTrue_plain (wpAny_Call_Name_kw (ld_blt I gi mi (u := .builtin "isinstance") (by decide +kernel) ?_)) (hw _)
  refine callWith_builtin1 ?_ he hpl
  rw [he, he2]
  show wpAny _ _ (spliced ((false, eval (.Name y p2) Y.env) :: (false, eval (.Name "str" p3) Y.env) :: [])) _ _ _
  refine Calls.spliced_cons (raw_local I.ok hk hn hm (Calls.spliced_cons (ld_blt I gs ms (u := .type "str") (by decide +kernel) (Calls.spliced_nil ?_))) hdy)
  obtain ⟨P0, Z, pz, hx⟩ := kit_of (x := .str z) (u := .str z t) I ⟨t, rfl⟩ (.base (.str z))
  exact PySem.W.kia_one Z I.kIn pz (kit_ty (r := true) (by decide +kernel)) hx fun tk => wpAny_truthy_bool (h tk)
/-- one turn of [y if isinstance(y, str) else e2 for y in ..] -/
def tvIfStr (K : PySem.W.Frag) (i : Nat) (t2 : TE) : V → L2.St → Hp → Addr → (Hp → Prop) → Prop := fun x σ H D Nx =>
  (∃ (z : Str) (acc : List V), x = .str z ∧ GLs H D acc ∧ acc.length < sizeLine ∧ ∀ o', GdL o' (acc ++ [.str z]) → Nx (upd H D (.frz o' (.lst (acc ++ [.str z]))))) ∨
  ∃ a, x = .ref a ∧ TyX K H (.ref a) (.type "tuple") ∧ t2 (σ.set i (some x)) H fun v H2 => ∃ (b : Addr) (acc : List V), v = .ref b ∧ GLs H2 D acc ∧ acc.length < sizeLine ∧ ∀ o', GdL o' (acc ++ [.ref b]) → Nx (upd H2 D (.frz o' (.lst (acc ++ [.ref b]))))
theorem turn_ifStr {nn i : Nat} {y : Str} {e2 : Expr} {t2 : TE} {q0 p1 p2 p3 p4 p5 p6 : Pos} (xe : Y.xe = fun _ _ => False) (hN : Y.N.Nodup) (hi : Y.N[i]? = some y) (hk : Y.env.scope.names.lookup y = some .local) (h2 : PE Y e2 t2)
    (gi : Gl Y "isinstance") (mi : Y.mg "isinstance" = none) (gs : Gl Y "str") (ms : Y.mg "str" = none)
    (he : starEach [.Name y p2, .Name "str" p3] Y.env = (false, eval (.Name y p2) Y.env) :: starEach [.Name "str" p3] Y.env := by rfl) (he2 : starEach [.Name "str" p3] Y.env = (false, eval (.Name "str" p3) Y.env) :: starEach [] Y.env := by rfl)
    (hpl : (backTo p4 (starEach [.Name "str" p3] Y.env)).any (·.1) = false := by rfl)
    (hw : ∀ whole, isTrue (.Call (.Name "isinstance" p1) [.Name y p2, .Name "str" p3] [] p4) Y.env whole = (do let v ← whole; standAt (Expr.Call (.Name "isinstance" p1) [.Name y p2, .Name "str" p3] [] p4).pos; holding [v] (truthy v)) := by intro _; rfl)
    (hdy : (y == ("__debug__" : Str)) = false := by decide) (hcy : (y == ("__classdict__" : Str)) = false := by decide) :
    TurnOk nn Y (.Name y q0) [] (.IfExp (.Call (.Name "isinstance" p1) [.Name y p2, .Name "str" p3] [] p4) (.Name y p5) e2 p6) GdV [i] (tvIfStr Y.K i t2) := by
  intro pins s σ H x u D Nx _ I r g h
  have ws : ∀ v, wipe (σ.set i v) [i] = wipe σ [i] := fun v => by
    show (σ.set i v).set i none = σ.set i none
    rw [List.set_set]
  rcases h with ⟨z, acc, rfl, a1, a2, a3⟩ | ⟨a, rfl, ty, q⟩
  · obtain ⟨t, rfl⟩ := r
    refine wpAny_assign_Name (thn (store_both I hN hi hk (v := .str z) ⟨t, rfl⟩) fun _ s2 ⟨I2, m, hn, hm⟩ => wpAny_tests_nil ?_)
    rw [if_pos rfl]
    refine wpAny_IfExp (raw_isi I2 hk hn hm gi mi gs ms (fun tk => ?_) he he2 hpl hw hdy)
    rw [if_pos rfl]
    have I3 := I2.tok tk
    exact raw_local (s := { s2 with toks := tk }) I3.ok hk hn hm ⟨_, .str z, H, acc, I3, ws _, ⟨t, rfl⟩, g, a1, a2, a3⟩ hdy
  · have st := store_ok (M := model Y.prog Y.w) (A := Y.A) (E := fun _ _ => False) (Q := fun _ s' => Inv Y pins (σ.set i (some (.ref a))) H s') I hN hi (.inl hk) r (fun _ I' => I') (.inr hk)
    refine wpAny_assign_Name (thn st fun _ s2 I2 => wpAny_tests_nil ?_)
    rw [if_pos rfl]
    have test : PT Y (.Call (.Name "isinstance" p1) [.Name y p2, .Name "str" p3] [] p4) _ := pt_val (pe_callB call_isi gi mi (by decide +kernel) (pa_cons (pe_var (i := i) hi (.inl hk) hdy hcy) (pa_cons (pe_bltn (v := .ty "str") gs ms (u := .type "str") (by decide +kernel) rfl) pa_nil (hs := he2)) (hs := he)) (he := he) (hpl := hpl)) hw
    have iσ : (σ.set i (some (.ref a)))[i]? = some (some (.ref a)) := by
      rw [List.getElem?_set_self]
      rw [I.len]
      exact (List.getElem?_eq_some_iff.mp hi).1
    have t1 := test.run pins s2 (σ.set i (some (.ref a))) H (fun b H' => b = false ∧ H' = H) I2 ⟨.ref a, iσ, .ref a, .ty "str", .type "tuple", .type "str", false, rfl, .ty _, ty, kit_ty (r := false) (by decide +kernel), false, rfl, rfl, rfl⟩
    rw [xe] at t1
    refine wpAny_IfExp (thn t1 fun b s3 ⟨H3, I3, e1, e2⟩ => ?_)
    subst e1 e2
    rw [if_neg (by decide)]
    have r2 := h2.run pins s3 (σ.set i (some (.ref a))) H3 _ I3 q
    rw [xe] at r2
    refine thn r2 fun v s4 ⟨yv, H4, I4, r4, b, acc, ev, a1, a2, a3⟩ => ?_
    subst ev
    cases r4
    exact ⟨_, .ref b, H4, acc, I4, ws _, rfl, trivial, a1, a2, a3⟩
end
end Moot
namespace Moot
open PySem PySem.Spec PyProof.Rows L2
section
variable {X : Cx}
/-- name = [..] on one line, the list known -/
theorem ps_setLcG {i : Nat} {y : Str} {py : Pos} {elt tg iter : Expr} {ifs : List Expr} {scope : Scope} {own : List (Str × Nat)} {pos spos : Pos} {wi : TI} {GU : Value → Prop} {tv : V → L2.St → Hp → Addr → (Hp → Prop) → Prop} (hc : X.calm = true) (hN : X.N.Nodup) (hy : X.N[i]? = some y) (hyl : X.env.scope.names.lookup y = some .local)
    (hsw : swapsWith (.ListComp elt [⟨tg, iter, ifs, 0⟩] scope pos) (some (.Name y py)) spos.line X.env = pure true) (hi : PIG 0 X tg iter GU wi) (ok : BlkOk X.N X.env.scope scope own)
    (ht : ∀ (s : Shared) (H : Hp) (C : Addr) (cl : List (Str × Addr)) (fp : List Addr), TurnOk 0 (X.blk s H scope (compEnvC scope cl C X.env) fp) tg ifs elt GU (own.map (·.2)) tv) (hs : ∀ x, foldedSetIterable iter X.env x = pure x := by intro _; rfl) :
    PS X (.Assign [.Name y py] (.ListComp elt [⟨tg, iter, ifs, 0⟩] scope pos) spos) (tAsg (tLcG wi tv (own.map (·.2))) (gName i)) := by
  refine ⟨fun pins s σ H D I h => ?_⟩
  rw [exec_Assign_Name_used _ _ _ _ hsw]
  refine wpAny_bind (wpAny_standAt (wpAny_bind ?_))
  show wpAny _ X.A (do let _ ← comprehension (.ListComp elt [⟨tg, iter, ifs, 0⟩] scope pos) scope X.env (firstIterPos [⟨tg, iter, ifs, 0⟩] pos) (newList []) false (eval iter X.env) (some (assign (.Name y py) X.env))) _ _ s
  have h' : tLcG wi tv (own.map (·.2)) σ H (fun x H1 => gName i x σ H1 D.nx) := h
  refine wpAny_bind (thn (lcG_core (nn := 0) (Qf := fun _ s' => SP X pins D .next s') hc hN (Nat.zero_le _) I hi ok ht hs h' fun L C s' m H' _ I' q hn f => ?_) fun _ s' hq => wpAny_pure (wpAny_pure hq))
  show wpAny _ _ (assign (.Name y py) X.env (.ref L)) _ _ _
  refine wpAny_assign_Name (store_ok2 (v := V.ref L) I' hN hy (.inl hyl) rfl (fun s2 I2 ⟨a, sb, ha⟩ => ?_) (.inr hyl))
  obtain ⟨f0, f1, f2, f3, f4, f5⟩ := f
  have ne : C ≠ a := by
    rcases ha with z | z
    · rw [z]
      exact f1
    · exact fun e => f4 y a z e.symm
  exact ⟨m, hn.sameBut sb ne, fun h3 sb3 => ⟨_, H', I2.turned (t' := s2.toks) (fun b o hb e => (sb3.2 b hb).trans e) f0 f1 f3 f4 f5, q⟩⟩
end
section
variable {tv : V → L2.St → Hp → Addr → (Hp → Prop) → Prop} {vs : List Nat} {σ : L2.St} {H1 : Hp} {D : Addr} {Qd : Hp → Prop} {o0 : Obj}
theorem lcG_known {a : Addr} {o : Obj} {xs : List V} (Pv : Nat → Hp → Prop) (h0 : Pv 0 (upd H1 D (.frz o0 (.lst [])))) (hl : ∀ i H, Pv i H → H a = some (.frz o (.tup xs))) (hs : ∀ i x H, xs[i]? = some x → Pv i H → tv x (wipe σ vs) H D (Pv (i + 1))) (hd : ∀ H, Pv xs.length H → Qd H) :
    ∃ W : Nat → Nat → Hp → Prop, (∃ m, W 0 m (upd H1 D (.frz o0 (.lst [])))) ∧ ∀ i m H, W i m H → ((Itk' a o xs).stop i H ∧ Qd H) ∨ ((Itk' a o xs).go i H ∧ ∃ Nx : Hp → Prop, (∀ H', Nx H' → ∃ m', m' < m ∧ W (i + 1) m' H') ∧ ∀ x H', (Itk' a o xs).yld i H x H' → tv x (wipe σ vs) H' D Nx) :=
  lcG_by Pv h0 (fun i H lt p => ⟨hl i H p, lt⟩) (fun H p => ⟨hl _ H p, Nat.le_refl _⟩) (fun i x H H' lt p y => by
    obtain ⟨e, y⟩ := y
    subst e
    exact hs i x _ y p) hd
end
end Moot
/-! Walking a known list; [(y, e2) for y in ..], the pairs known. -/
namespace Moot
open PySem PySem.Spec PyProof.Rows L2
/-- the items of the list at a, whose object is o -/
def Itl' (a : Addr) (o : Obj) (xs : List V) : It :=
  ⟨fun i H => H a = some (.frz o (.lst xs)) ∧ i < xs.length, fun i H x H' => H' = H ∧ xs[i]? = some x, fun i H => H a = some (.frz o (.lst xs)) ∧ xs.length ≤ i⟩
theorem turn_knownL {P : Program} {w : World} {K : PySem.W.Frag} {tg : Expr} (a it : Addr) (o : Obj) (xs : List V) : Turn P w K tg (Itl' a o xs) [it] it (fun i h => h.IsListIter it a i) := by
  have T := turn_list (P := P) (w := w) (K := K) (tg := tg) a it
  refine ⟨T.mem, T.obj, T.keep, ?_, ?_, T.self⟩
  · intro X hP hw hK hc i pins s σ H E I hf st hg
    obtain ⟨h1, h2⟩ := hg
    refine thn (T.item X hP hw hK hc i pins s σ H E I hf st ⟨xs, xs[i], .inl (.inr ⟨o, h1⟩), List.getElem?_eq_getElem h2⟩) fun r s1 ⟨u, hu, z⟩ => ⟨u, hu, thn z fun _ s2 ⟨x, H', a1, a2, ⟨e, y⟩, a4⟩ => ⟨x, H', a1, a2, ⟨e, y xs (.inl (.inr ⟨o, h1⟩))⟩, a4⟩⟩
  · intro X hP hw hK hc i pins s σ H E I hf st hg
    exact T.done X hP hw hK hc i pins s σ H E I hf st ⟨xs, .inl (.inr ⟨o, hg.1⟩), hg.2⟩
section
variable {X : Cx}
def iKnownL (te : TE) : TI := fun σ H R => te σ H fun v H1 => ∃ a o xs, v = .ref a ∧ GdL o xs ∧ H1 a = some (.frz o (.lst xs)) ∧ R (Itl' a o xs) H1
theorem pig_knownL {nn : Nat} {tg e : Expr} {te : TE} (he : PE X e te) : PIG nn X tg e GdV (iKnownL te) := by
  refine ⟨fun pins s σ H R I h => thn (he.run pins s σ H _ I h) fun v s1 ⟨y, H1, I1, r1, a, o, xs, ev, gd, ha, q⟩ => ?_⟩
  subst ev
  cases r1
  obtain ⟨its, n, rfl, rv, gi⟩ := gd
  obtain ⟨get, _⟩ := I1.hok a _ ha
  refine wpAny_pyIter_list (show s1.heap.IsList a its.toArray from ⟨_, get, rfl, n, rfl⟩) ?_
  refine ⟨s1.heap.objs.size, [s1.heap.objs.size], _, Itl' a _ xs, H1, rfl, I1.kept (t' := s1.toks) fun b ob e => Heap.get?_push_of_some _ e, turn_knownL a _ _ xs, ?_, ⟨_, Heap.get?_push_size _ rfl, rfl, rfl⟩, fun b hb => ?_, q⟩
  · intro Y e1 e2 e3 hcY i pins s σ H E k0 I hf st go
    obtain ⟨h1, h2⟩ := go
    obtain ⟨get', _⟩ := I.hok a _ h1
    obtain ⟨u, hu, ru⟩ := rv.get (List.getElem?_eq_getElem h2)
    rw [← e1, ← e2]
    obtain ⟨f0, f1, f2, f3, f4, f5⟩ := hf s1.heap.objs.size (by simp)
    refine wpAny_pyNext_list_item st (show s.heap.IsList a its.toArray from ⟨_, get', rfl, n, rfl⟩) (x := u) (by simpa using hu) fun h' st' sb => ?_
    have I2 : Inv Y pins σ H { s with heap := h' } := I.turned (t' := s.toks) (fun b ob hb e => (sb.2 b hb).trans e) f0 f1 f3 f4 f5
    obtain ⟨oi, e, cc, dd⟩ := id st'
    exact ⟨u, rfl, go_of (s := { s with heap := h' }) e cc dd (by decide) ⟨xs[i], H, I2, ru, gi u (List.mem_of_getElem? hu), ⟨rfl, List.getElem?_eq_getElem h2⟩, st', fun b hb => (hf b hb).1⟩⟩
  · have e : b = s1.heap.objs.size := by simpa using hb
    subst e
    exact I1.fpOk (Nat.le_refl _) (I1.hok.fresh (Nat.le_refl _))
/-- the list is as any from here on -/
theorem pss_meltL {rest : List Stmt} {u : TS} (h : PSs X rest u) : PSs X rest (fun D σ H => ∃ d o xs, H d = some (.frz o (.lst xs)) ∧ Nf X d ∧ u D σ (upd H d (.lst xs))) := by
  refine ⟨fun pins s σ H D I q => ?_⟩
  obtain ⟨d, o, xs, hd, nf, q⟩ := q
  exact h.run pins s σ _ D (inv_melt I hd nf) q
end
section
variable {tv : V → L2.St → Hp → Addr → (Hp → Prop) → Prop} {vs : List Nat} {σ : L2.St} {H1 : Hp} {D : Addr} {Qd : Hp → Prop} {o0 : Obj}
theorem lcG_knownL {a : Addr} {o : Obj} {xs : List V} (Pv : Nat → Hp → Prop) (h0 : Pv 0 (upd H1 D (.frz o0 (.lst [])))) (hl : ∀ i H, Pv i H → H a = some (.frz o (.lst xs))) (hs : ∀ i x H, xs[i]? = some x → Pv i H → tv x (wipe σ vs) H D (Pv (i + 1))) (hd : ∀ H, Pv xs.length H → Qd H) :
    ∃ W : Nat → Nat → Hp → Prop, (∃ m, W 0 m (upd H1 D (.frz o0 (.lst [])))) ∧ ∀ i m H, W i m H → ((Itl' a o xs).stop i H ∧ Qd H) ∨ ((Itl' a o xs).go i H ∧ ∃ Nx : Hp → Prop, (∀ H', Nx H' → ∃ m', m' < m ∧ W (i + 1) m' H') ∧ ∀ x H', (Itl' a o xs).yld i H x H' → tv x (wipe σ vs) H' D Nx) :=
  lcG_by Pv h0 (fun i H lt p => ⟨hl i H p, lt⟩) (fun H p => ⟨hl _ H p, Nat.le_refl _⟩) (fun i x H H' lt p y => by
    obtain ⟨e, y⟩ := y
    subst e
    exact hs i x _ y p) hd
end
section
variable {Y : Cx}
/-- one turn of [(y, e2) for y in ..] -/
def tvPair (i : Nat) (t2 : TE) : V → L2.St → Hp → Addr → (Hp → Prop) → Prop := fun x σ H D Nx => ∃ z : Str, x = .str z ∧ t2 (σ.set i (some x)) H fun v H2 => ∃ a, v = .ref a ∧ ∀ p o, H2 p = none → GdT o [x, v] →
  ∃ acc, GLs (upd H2 p (.frz o (.tup [x, v]))) D acc ∧ acc.length < sizeLine ∧ ∀ o', GdL o' (acc ++ [.ref p]) → Nx (upd (upd H2 p (.frz o (.tup [x, v]))) D (.frz o' (.lst (acc ++ [.ref p]))))
theorem turn_pair {nn i : Nat} {y : Str} {e2 : Expr} {t2 : TE} {x1} {q0 p1 pos : Pos} (xe : Y.xe = fun _ _ => False) (hN : Y.N.Nodup) (hi : Y.N[i]? = some y) (hk : Y.env.scope.names.lookup y = some .local) (h2 : PE Y e2 t2)
    (hs : starEach [.Name y p1, e2] Y.env = (false, eval (.Name y p1) Y.env) :: starEach [e2] Y.env := by rfl) (hs2 : starEach [e2] Y.env = (false, eval e2 Y.env) :: starEach [] Y.env := by rfl) (hdy : (y == ("__debug__" : Str)) = false := by decide) :
    TurnOk nn Y (.Name y q0) [] (.Tuple [.Name y p1, e2] x1 pos) GdV [i] (tvPair i t2) := by
  intro pins s σ H x u D Nx _ I r g h
  obtain ⟨z, rfl, q⟩ := h
  obtain ⟨t, rfl⟩ := r
  have ws : wipe (σ.set i (some (.str z))) [i] = wipe σ [i] := by
    show (σ.set i (some (.str z))).set i none = σ.set i none
    rw [List.set_set]
  refine wpAny_assign_Name (thn (store_both I hN hi hk (v := .str z) ⟨t, rfl⟩) fun _ s2 ⟨I2, m, hn, hm⟩ => wpAny_tests_nil ?_)
  rw [if_pos rfl]
  refine wpAny_Tuple_spliced ?_
  rw [hs]
  show wpAny _ _ (spliced ((false, eval (.Name y p1) Y.env) :: backTo pos (starEach [e2] Y.env))) _ _ s2
  refine Calls.spliced_cons (raw_local I2.ok hk hn hm ?_ hdy)
  have A2 := pa_cons h2 (pa_nil (X := Y)) hs2
  have A3 := A2.run pos pins s2 (σ.set i (some (.str z))) H (fun xs H2 => match xs with
    | [v] => ∃ a, v = .ref a ∧ ∀ p o, H2 p = none → GdT o [.str z, v] →
      ∃ acc, GLs (upd H2 p (.frz o (.tup [.str z, v]))) D acc ∧ acc.length < sizeLine ∧ ∀ o', GdL o' (acc ++ [.ref p]) → Nx (upd (upd H2 p (.frz o (.tup [.str z, v]))) D (.frz o' (.lst (acc ++ [.ref p]))))
    | _ => False) I2 q
  rw [xe] at A3
  refine thn A3 fun us s3 ⟨xs, H2, I3, r2, q2⟩ => ?_
  match xs, r2, q2 with
  | [v], r2, ⟨a, ev, q⟩ =>
    subst ev
    obtain ⟨w, rfl, rv⟩ := vals1 r2
    cases rv
    refine ⟨by show 2 ≤ sizeLine; decide, ?_⟩
    have fr : H2 s3.heap.objs.size = none := I3.hok.fresh (Nat.le_refl _)
    have vv : Vals [.str z, .ref a] [Value.str z t, .ref a] := .cons ⟨t, rfl⟩ (.cons rfl .nil)
    have gg : GdS [Value.str z t, .ref a] := fun v m => by
      rcases List.mem_cons.mp m with e | m
      · rw [e]; exact g
      · rw [List.mem_singleton.mp m]; trivial
    obtain ⟨acc, a1, a2, a3⟩ := q s3.heap.objs.size { cls := .type "tuple", data := .seq [Value.str z t, Value.ref a].toArray } fr ⟨[Value.str z t, .ref a], 0, rfl, rfl, vv, gg⟩
    exact ⟨_, .ref s3.heap.objs.size, _, acc, I3.laid (t' := s3.toks) (fun b o e => Heap.get?_push_of_some _ e) (Nat.le_refl _) (show ObjOk Y.prog Y.w _ _ _ (.frz { cls := .type "tuple", data := .seq [Value.str z t, Value.ref a].toArray } (.tup [.str z, .ref a])) from ⟨Heap.get?_push_size _ rfl, by show 2 ≤ sizeLine; decide, [Value.str z t, .ref a], vv, IsTup.new _ _⟩), ws, rfl, trivial, a1, a2, a3⟩
end
end Moot
/-! [y for y, z in ..] over known pairs; e[::-1]. -/
namespace Moot
open PySem PySem.Spec PyProof.Rows L2
section
variable {Y : Cx} {pins : List (Addr × Obj)} {σ : L2.St} {H : Hp} {s : Shared}
theorem store_more {i : Nat} {y z : Str} {v : V} {u w : Value} {m : Str → Option Value} {E : Value → Shared → Prop} (I : Inv Y pins σ H s) (hN : Y.N.Nodup) (hi : Y.N[i]? = some z) (hk : Y.env.scope.names.lookup z = some .local) (r : RelV v w) (hn : s.heap.Ns Y.env.locals m) (hm : m y = some u) (ne : y ≠ z) :
    wpAny (model Y.prog Y.w) Y.A (storeName Y.env z w) (fun _ s' => Inv Y pins (σ.set i (some v)) H s' ∧ ∃ m', s'.heap.Ns Y.env.locals m' ∧ m' y = some u) E s := by
  have hcls : (Y.env.scope.kind == .class || (Y.env.scope.kind == .module && Y.env.locals != Y.env.globals)) = false := by rw [I.ok.kind]; rfl
  exact wpAny_mono (wpAny_both (store_ok (Q := fun _ s' => Inv Y pins (σ.set i (some v)) H s') (E := E) I hN hi (.inl hk) r (fun _ I' => I') (.inr hk))
    (wpAny_storeName_local (Q := fun _ s' => ∃ m', s'.heap.Ns Y.env.locals m' ∧ m' y = some u) (E := E) hk hn (fun h' hn' _ => ⟨_, hn', by simp [ne, hm]⟩) hcls)) (fun _ _ z => z) fun _ _ z => z.1
/-- one turn of [y for y, z in ..], the pair known -/
def tvFst : V → L2.St → Hp → Addr → (Hp → Prop) → Prop := fun x σ H D Nx => ∃ (t r : Addr) (zz : Str) (acc : List V), x = .ref t ∧ GTp H t [.str zz, .ref r] ∧ GLs H D acc ∧ acc.length < sizeLine ∧ ∀ o', GdL o' (acc ++ [.str zz]) → Nx (upd H D (.frz o' (.lst (acc ++ [.str zz]))))
theorem turn_fst {nn i j : Nat} {y z : Str} {kt} {q0 q1 q2 p1 : Pos} (hc : Y.calm = true) (hN : Y.N.Nodup) (hi : Y.N[i]? = some y) (hk : Y.env.scope.names.lookup y = some .local) (hj : Y.N[j]? = some z) (hkz : Y.env.scope.names.lookup z = some .local) (ne : y ≠ z) (ij : i ≠ j)
    (hs1 : (assignEach [.Name y q1, .Name z q2] Y.env).map (·.2) = [assign (.Name y q1) Y.env, assign (.Name z q2) Y.env] := by rfl) (hl : (assignEach [.Name y q1, .Name z q2] Y.env).length = 2 := by rfl) (hst : (assignEach [.Name y q1, .Name z q2] Y.env).findIdx? (·.1) = none := by rfl)
    (hdy : (y == ("__debug__" : Str)) = false := by decide) :
    TurnOk nn Y (.Tuple [.Name y q1, .Name z q2] kt q0) [] (.Name y p1) (fun _ => True) [i, j] tvFst := by
  intro pins s σ H x u D Nx _ I r _ h
  obtain ⟨t, rr, zz, acc, rfl, ⟨o, ⟨its, n, hcl, hd, rv, gi⟩, hH⟩, a1, a2, a3⟩ := h
  cases r
  obtain ⟨get, _⟩ := I.hok t _ hH
  obtain ⟨u0, us, e0, r0, rest⟩ : ∃ u0 us, its = u0 :: us ∧ RelV (.str zz) u0 ∧ Vals [.ref rr] us := by
    cases rv with
    | cons p q => exact ⟨_, _, rfl, p, q⟩
  obtain ⟨u1, e1, r1⟩ := vals1 rest
  subst e1 e0
  obtain ⟨tk, rfl⟩ := r0
  have g0 : GdV (.str zz tk) := gi _ List.mem_cons_self
  have it : IsTup s.heap t [Value.str zz tk, u1].toArray := ⟨o, get, hcl, n, hd⟩
  refine assign_Tuple_tuple (I.ok.hd hc) it (by rw [hl]; rfl) hst fun h' hx => ?_
  have I1 : Inv Y pins σ H { s with heap := h' } := I.kept (t' := s.toks) fun b o e => hx b o (Nat.ne_of_lt (Heap.lt_size e)) e
  rw [hs1]
  show wpAny _ _ (assignInOrder [assign (.Name y q1) Y.env, assign (.Name z q2) Y.env] [Value.str zz tk, u1]) _ _ _
  refine assignInOrder_cons (wpAny_assign_Name (thn (store_both I1 hN hi hk (v := .str zz) ⟨tk, rfl⟩) fun _ s2 ⟨I2, m, hn, hm⟩ => ?_))
  refine assignInOrder_cons (wpAny_assign_Name (thn (store_more I2 hN hj hkz r1 hn hm ne) fun _ s3 ⟨I3, m3, hn3, hm3⟩ => assignInOrder_nil (wpAny_tests_nil ?_)))
  rw [if_pos rfl]
  have ws : wipe ((σ.set i (some (.str zz))).set j (some (.ref rr))) [i, j] = wipe σ [i, j] := by
    show (((σ.set i (some (.str zz))).set j (some (.ref rr))).set j none).set i none = (σ.set j none).set i none
    rw [List.set_set, List.set_comm _ _ ij, List.set_set]
  exact raw_local I3.ok hk hn3 hm3 ⟨_, .str zz, H, acc, I3, ws, ⟨tk, rfl⟩, g0, a1, a2, a3⟩ hdy
end
section
variable {tv : V → L2.St → Hp → Addr → (Hp → Prop) → Prop} {vs : List Nat} {σ : L2.St} {H1 : Hp} {D : Addr} {Qd : Hp → Prop} {o0 : Obj}
theorem lcG_list {K : PySem.W.Frag} {a : Addr} {xs : List V} (Pv : Nat → Hp → Prop) (h0 : Pv 0 (upd H1 D (.frz o0 (.lst [])))) (hl : ∀ i H, Pv i H → SqL K H a xs) (hs : ∀ i x H, xs[i]? = some x → Pv i H → tv x (wipe σ vs) H D (Pv (i + 1))) (hd : ∀ H, Pv xs.length H → Qd H) :
    ∃ W : Nat → Nat → Hp → Prop, (∃ m, W 0 m (upd H1 D (.frz o0 (.lst [])))) ∧ ∀ i m H, W i m H → ((Itl K a).stop i H ∧ Qd H) ∨ ((Itl K a).go i H ∧ ∃ Nx : Hp → Prop, (∀ H', Nx H' → ∃ m', m' < m ∧ W (i + 1) m' H') ∧ ∀ x H', (Itl K a).yld i H x H' → tv x (wipe σ vs) H' D Nx) :=
  lcG_by (n := xs.length) Pv h0 (fun i H lt p => ⟨xs, xs[i], hl i H p, List.getElem?_eq_getElem lt⟩) (fun H p => ⟨xs, hl _ H p, Nat.le_refl _⟩) (fun i x H H' lt p y => by
    obtain ⟨e, y⟩ := y
    subst e
    exact hs i x _ (y xs (hl _ _ p)) p) hd
end
section
variable {X : Cx} {e k : Expr} {te tk : TE} {p2 pos : Pos}
theorem vals_rev : ∀ {xs : List V} {us : List Value}, Vals xs us → Vals xs.reverse us.reverse
  | _, _, .nil => .nil
  | _, _, .cons r t => by
    rw [List.reverse_cons, List.reverse_cons]
    exact (vals_rev t).append (.cons r .nil)
/-- e[::-1], a list -/
theorem pe_rev (he : PE X e te) (hk : PE X k tk) (hs : ∀ a n : Addr, ∃ ops, subscripted (.Slice none none (some k) p2) false (.ref a) (.ref n) = operate ops (getItem (.ref a) (.ref n)) := by intro _ _; exact ⟨_, rfl⟩) : PE X (.Subscript e (.Slice none none (some k) p2) pos) (fun σ H Q => te σ H fun x H1 => tk σ H1 fun y H2 => y = .int (-1) ∧ ∃ a xs, x = .ref a ∧ SqL X.K H2 a xs ∧ ∀ p, H2 p = none → Q (.ref p) (upd H2 p (.lst xs.reverse))) := by
  refine ⟨fun pins s σ H Q I h => ?_⟩
  refine Subscript_ (thn (he.run pins s σ H _ I h) fun v s1 ⟨x, H1, I1, r1, q1⟩ => ?_)
  refine wpAny_Slice ?_
  rw [evalPart_none]
  refine wpAny_pure (wpAny_pure ?_)
  rw [evalPart_some]
  refine thn (hk.run pins s1 σ H1 _ I1 q1) fun u s2 ⟨y, H2, I2, r2, q2⟩ => ?_
  obtain ⟨rfl, a, xs, rfl, hq, q⟩ := q2
  obtain ⟨t, rfl⟩ := r2
  cases r1
  obtain ⟨its, r, hl, hz⟩ := I2.list hq
  have hlen := r.length
  have I4 : Inv X pins σ H2 { s2 with heap := s2.heap.push { cls := .type "slice", data := .fields #[.none, .none, .int (-1) t] } } := I2.kept (t' := s2.toks) fun b ob q => Heap.get?_push_of_some _ q
  obtain ⟨its', r', hl', hz'⟩ := I4.list hq
  have hlen' := r'.length
  show wpAny (model X.prog X.w) X.A (subscriptTail e (.Slice none none (some k) p2) (.ref a) (.ref s2.heap.objs.size)) (EP X pins σ Q) X.xe { s2 with heap := s2.heap.push { cls := .type "slice", data := .fields #[.none, .none, .int (-1) t] } }
  obtain ⟨ops, hs⟩ := hs a s2.heap.objs.size
  refine tail_any (ops := ops) (T := "list") hl'.isList.typeIs slot_list_getitem.lookup ?_ hs
  refine wpAny_getItem_list_slice hl'.isList (Heap.IsSliceOf.new ..) .none .none (.int (-1) t) (by decide) ?_ (by rw [List.size_toArray] <;> omega)
  rw [PySem.W.krv_pick]
  have rr : Vals xs.reverse its'.reverse := vals_rev r'
  refine ⟨.ref _, _, I4.laid (o := .lst xs.reverse) (fun b ob q => Heap.get?_push_of_some _ q) (Nat.le_refl _) ?_, rfl, q _ (I4.hok.fresh (Nat.le_refl _))⟩
  exact ⟨by rw [List.length_reverse]; exact hz', _, 0, rr, Heap.get?_push_size _ rfl⟩
end
end Moot
/-! _law_other_rows. -/
namespace Moot
open PySem PySem.Spec PyProof.Rows L2
theorem cutL (vs : List V) : cutV vs none (some (-1)) = vs.take (vs.length - 1) := by
  unfold cutV
  rw [HT.sIx_none]
  show (vs.drop 0).take ((if (-1 : Int) < 0 then ((-1 : Int) + (vs.length : Int)).toNat else min (-1 : Int).toNat vs.length) - 0) = _
  rw [if_pos (by decide), List.drop_zero, Nat.sub_zero]
  congr 1
  omega
section
variable {P : Program} {w : World} {K : PySem.W.Frag} {mg : Str → Option Value} {base : Heap}
abbrev sOr : Stmt := top 42
abbrev pOr : List Str := ["_law_box_here", "_law_rows_here"]
abbrev nOr : List Str := ["_law_box_here", "_law_rows_here", "_law_names_here", "_law_at", "_law_others", "_law_name_here", "_law_requirement_here"]
theorem scOr : FnScope nOr pOr (defScope sOr) := ⟨rfl, rfl, rfl, by decide +kernel, rfl, by decide +kernel, by decide +kernel⟩
def spOr : Sp := fun vs H Q _ => ∃ (b g m l : Addr) (n : Nat) (ts : List Addr) (rs : Rws) (c : Rq) (xs : List Str), vs = [.ref b, .ref l] ∧ Box H b g m n ∧ n ≤ 700000 ∧ H l = some (.lst (ts.map V.ref)) ∧ l ≠ b ∧ l ≠ g ∧ RowsG H ts rs ∧ Fit H c xs rs ∧ 1 ≤ xs.length ∧
  ∀ (l' : Addr) (ts' : List Addr) (rs' : Rws) (c' : Rq) (xs' : List Str) (H' : Hp), H' l' = some (.lst (ts'.map V.ref)) → l' ≠ b → l' ≠ g → RowsAt H' ts' rs' → Fit H' c' xs' rs' → Box H' b g m (n + 200) → Keep b g H H' → Q (.ref l') H'
theorem ok_or {f fT fR : Addr} {fd fdT fdR : FuncData} {k : Nat} (F : Fun K "_law_other_rows" "_law_other_rows" sOr f fd) (T : Bq mg)
    (FT : Fun K "_law_take" "_law_take" sTake fT fdT) (bT : Binds K fdT ["_law_box_here", "_law_size"] []) (gT : mg "_law_take" = some (.ref fT)) (GT : FnOk P w K mg base CX0 k fT fdT ["_law_box_here", "_law_size"] spTake)
    (FR : Fun K "_law_requirement" "_law_requirement" sReq fR fdR) (bR : Binds K fdR ["_law_box_here", "_law_names_here"] []) (gR : mg "_law_requirement" = some (.ref fR)) (GR : FnOk P w K mg base CX0 k fR fdR ["_law_box_here", "_law_names_here"] spReq) : FnOk P w K mg base CX0 (k + 1) f fd pOr spOr := by
  refine F.ok scOr (fun vs H Q E h => ?_) (fun cdv A outer s H vs Q E hr h => ?_)
  · obtain ⟨b, g, m, l, n, ts, rs, c, xs, rfl, _⟩ := h
    rfl
  · obtain ⟨b, g, m, l, n, ts, rs, c, xs, rfl, B, hn, hl, lb, lg, ra, fit, x1, q⟩ := h
    refine ⟨_, pss_cons (ps_setLcG (i := 2) (own := [("_law_name_here", 5), ("_law_requirement_here", 6)]) (tv := tvFst) (by rfl) scOr.nd rfl rfl (sw_true rfl rfl rfl (by decide +kernel)) (pig_of (pi_list (pv 1))) (blkOk_by (N := nOr) (sc := defScope sOr) (by decide +kernel)) (fun _ _ _ _ _ => turn_fst (by rfl) scOr.nd rfl rfl rfl rfl (by decide) (by decide)))
      (pss_cons (ps_set (i := 3) scOr.nd rfl (Or.inl rfl) (pe_call GT hr (by rfl) gT FT.kp bT .nil pass0 (pa_cons (pv 0) (pa_cons (pe_callB call_len_seq (by rfl) T.T.len PySem.boot_len (pa_cons (pv 1) pa_nil)) pa_nil))))
      (pss_cons (ps_set (i := 4) scOr.nd rfl (Or.inl rfl) (pe_callTy call_list_of (by rfl) T.T.lst (by decide +kernel) (pa_cons (pv 1) pa_nil)))
      (pss_cons (ps_asg (pe_tup (pa_cons (pe_ix ix_tup (pe_ix ix_list (pv 1) (pv 3) (fun _ _ => rfl)) pe_int (fun _ _ => rfl)) (pa_cons (pe_call GR hr (by rfl) gR FR.kp bR .nil pass0 (pa_cons (pv 0) (pa_cons (pv 2) pa_nil))) pa_nil))) (pg_sub (pv 4) (pv 3) L2.set_list))
      (pss_cons (ps_if (pt_cmpR op_eq (pe_call GT hr (by rfl) gT FT.kp bT .nil pass0 (pa_cons (pv 0) (pa_cons pe_int pa_nil))) pe_int (nomark _))
        (pss_one (ps_ret (pe_lc (own := [("_law_name_here", 5)]) (g := gName 5) (tt := tYes) (by rfl) scOr.nd (pi_list (pe_slice sl_list (pv 2) po_none (po_some (pe_un un_neg pe_int)))) (blkOk_by (N := nOr) (sc := defScope sOr) (by decide +kernel))
          (fun _ _ _ _ _ => pg_name (i := 5) scOr.nd rfl (Or.inl rfl)) (fun _ _ _ _ _ => pts_nil) (fun _ _ _ _ _ => pe_tup (pa_cons (pv 5) (pa_cons (pe_tup (pa_cons pe_int (pa_cons (pe_tup (pa_cons (pv 5) pa_nil)) pa_nil))) pa_nil)))))) pss_nil)
      (pss_one (ps_ret (pv 4))))))), ?_⟩
    have flen := fit.len
    have few := fit.few
    have knd : (rs.map (·.1)).Nodup := fit.keys.nodup_iff.mpr fit.nd
    have nm : ∀ x ∈ rs.map (·.1), Nm x := fun x mx => fit.nm x (fit.keys.mem_iff.mp mx)
    have kl : (rs.map (·.1)).length = xs.length := by rw [List.length_map]; exact flen
    have tl : (ts.map V.ref).length = xs.length := by rw [List.length_map, ra.1]; exact flen
    -- the names
    refine ⟨.ref l, rfl, l, rfl, ⟨_, SqL.of hl⟩, fun np nnp o0 g0 => lcG_list (K := K) (a := l) (xs := ts.map V.ref) (fun j H6 => Same H H6 ∧ GLs H6 np (((rs.take j).map (·.1)).map V.str)) ⟨same_new nnp, o0, g0, upd_same⟩ (fun j H6 h => SqL.of (h.1 _ _ hl)) ?_ ?_⟩
    · rintro j x H6 hx ⟨s6, hD⟩
      rw [List.getElem?_map] at hx
      obtain ⟨t, ht, rfl⟩ := Option.map_eq_some_iff.mp hx
      obtain ⟨x, r, hxr, gt⟩ := (ra.tups (Same.tups s6)).2 j t ht
      have lt := (List.getElem?_eq_some_iff.mp hxr).1
      refine ⟨t, r, x, _, rfl, gt, hD, ?_, fun o' g' => ⟨fun d o e => ?_, o', ?_, ?_⟩⟩
      · rw [List.length_map, List.length_map, List.length_take]
        exact small1000 (by omega)
      · rw [upd_ne (ne_of_none e nnp)]
        exact s6 d o e
      · rw [List.take_add_one, hxr, List.map_append, List.map_append]
        exact g'
      · rw [upd_same, List.take_add_one, hxr, List.map_append, List.map_append]
        rfl
    rintro H3 ⟨s3, hnp3⟩
    rw [List.length_map, ra.1, List.take_length] at hnp3
    obtain ⟨o2, g2, np3⟩ := hnp3
    obtain ⟨npb, npg, _⟩ := B.ne nnp
    have B3 := B.same s3
    have hl3 := s3 _ _ hl
    -- the place
    refine ⟨.ref b, rfl, .ref l, rfl, l, _, rfl, .inl (SqL.of hl3), b, g, m, n, ((ts.map V.ref).length : Int), rfl, B3, by omega, by omega, by omega, fun v H4 v0 v1 B4 K4 => ?_⟩
    obtain ⟨j, rfl⟩ := Int.eq_ofNat_of_zero_le v0
    have jl : j < xs.length := by omega
    have hl4 := K4 _ _ hl3 lb lg
    have np4 := K4 _ _ np3 npb npg
    have K04 : Keep b g H H4 := (Same.keep s3).trans K4
    refine ⟨.ref l, rfl, l, _, rfl, .inl (SqL.of hl4), fun M nM => ?_⟩
    obtain ⟨Mb, Mg, Mm⟩ := B4.ne nM
    have s5 := same_new (o := .lst (ts.map V.ref)) nM
    have hM5 : (upd H4 M (.lst (ts.map V.ref))) M = some (.lst (ts.map V.ref)) := upd_same
    generalize upd H4 M (.lst (ts.map V.ref)) = H5 at s5 hM5 ⊢
    have B5 := B4.same s5
    have hl5 := s5 _ _ hl4
    have np5 := s5 _ _ np4
    have K05 := K04.trans (Same.keep s5)
    have tup05 := K05.tups B
    have ra5 := ra.tups tup05
    have fM : H M = none := K04.free Mb Mg nM
    obtain ⟨t0, ht0⟩ : ∃ t, ts[j]? = some t := ⟨ts[j]'(by rw [List.length_map] at tl; omega), List.getElem?_eq_getElem _⟩
    obtain ⟨x0, r0, hx0, gt0⟩ := ra5.2 j t0 ht0
    obtain ⟨og, gg, et0⟩ := gt0
    refine ⟨.ref l, rfl, .int (j : Int), rfl, l, _, (j : Int), .ref t0, rfl, rfl, SqL.of hl5, atI_nat (by rw [List.getElem?_map, ht0]; rfl), t0, _, 0, .str x0, rfl, rfl, .inl (.inr ⟨og, et0⟩), atI_nat (j := 0) rfl, ?_⟩
    refine ⟨.ref b, rfl, .ref np, rfl, b, g, m, np, _, rs.map (·.1), rfl, B5, by omega, ⟨o2, g2, np5⟩, by omega, by omega, nm, fun r d ps H6 nr R fine d1 d2 B6 K6 => ⟨by show 2 ≤ sizeLine; decide, fun p4 np4 => ?_⟩⟩
    have s7 := same_new (o := .tup [.str x0, .ref r]) np4
    have hp7 : (upd H6 p4 (.tup [.str x0, .ref r])) p4 = some (.tup [.str x0, .ref r]) := upd_same
    generalize upd H6 p4 (.tup [.str x0, .ref r]) = H7 at s7 hp7 ⊢
    have K57 : Keep b g H5 H7 := K6.trans (Same.keep s7)
    have B7 := B6.same s7
    have hM7 := K57 _ _ hM5 Mb Mg
    have np7 := K57 _ _ np5 npb npg
    have tup7 := (K05.trans K57).tups B
    have ra7 := (ra.tups tup7).at
    have val : Valid (rs.map (·.1)) d ps := fine_valid (by omega) knd nm fine d1 d2
    have R7 : ReqAt H7 r d ps := (R.tups (Same.tups s7)).at
    refine ⟨.ref M, rfl, .int (j : Int), rfl, M, _, j, j, rfl, rfl, hM7, ?_, ?_⟩
    · unfold ixN
      rw [if_pos (by omega), if_pos (by omega)]
      simp
    have ts2 : ((ts.map V.ref).set j (.ref p4)) = (ts.set j p4).map V.ref := by rw [List.map_set]
    have tlS := tups_store (ys := (ts.map V.ref).set j (.ref p4)) hM7
    have ra8 := (ra7.put (x := x0) (r := r) (j := j) (by rw [ra.1]; omega) hp7).tups tlS
    have hM8 : (upd H7 M (.lst ((ts.map V.ref).set j (.ref p4)))) M = some (.lst ((ts.set j p4).map V.ref)) := by rw [upd_same, ts2]
    have B8 := B7.store (o := .lst ((ts.map V.ref).set j (.ref p4))) Mb Mg Mm
    have np8 : (upd H7 M (.lst ((ts.map V.ref).set j (.ref p4)))) np = some (.frz o2 (.lst ((rs.map (·.1)).map V.str))) := by
      rw [upd_ne (fun z => by rw [z, hM7] at np7; cases np7)]
      exact np7
    have K08 : Keep b g H (upd H7 M (.lst ((ts.map V.ref).set j (.ref p4)))) := fun a o e n1 n2 => by
      rw [upd_ne (ne_of_none e fM)]
      exact (K05.trans K57) a o e n1 n2
    have ek : (rs.set j (x0, r)).map (·.1) = rs.map (·.1) := by
      rw [List.map_set]
      refine List.ext_getElem? fun i => ?_
      by_cases e : j = i
      · subst e
        rw [List.getElem?_set_self (by rw [List.length_map]; omega), List.getElem?_map, hx0]
        rfl
      · rw [List.getElem?_set_ne e]
    have each8 : ∀ q ∈ rs.set j (x0, r), Some1 (upd H7 M (.lst ((ts.map V.ref).set j (.ref p4)))) (rs.map (·.1)) q.2 := fun q mq => by
      rcases List.mem_or_eq_of_mem_set mq with mq | e
      · have mk : q.1 ∈ xs := fit.keys.mem_iff.mp (List.mem_map.mpr ⟨_, mq, rfl⟩)
        have v := fit.ok _ mk
        exact ⟨_, _, ((fit.each _ mq).tups tup7).tups tlS, { v with few := by omega, sub := fun y my => fit.keys.mem_iff.mpr (v.sub y my), nm := nm }⟩
      · rw [e]
        exact ⟨d, ps, R7.tups tlS, val⟩
    obtain ⟨c8, fit8⟩ := fit_of knd (by omega) nm ek each8
    generalize upd H7 M (.lst ((ts.map V.ref).set j (.ref p4))) = H8 at hM8 B8 np8 K08 ra8 fit8 ⊢
    -- one of four times all but the last, each by itself
    refine ⟨.ref b, rfl, b, g, m, _, 4, rfl, B8, by omega, by decide, by decide, fun u H9 u0 u1 B9 K9 => ⟨rfl, _, rfl, ite2 (fun _ => ?_) (fun _ => ?_)⟩⟩
    · have np9 := K9 _ _ np8 npb npg
      have K09 := K08.trans K9
      refine ⟨.ref np, rfl, 1, rfl, -1, rfl, np, _, rfl, .inl (.inr ⟨o2, np9⟩), fun a1 na1 => ?_⟩
      rw [cutL, ← List.map_take]
      obtain ⟨a1b, a1g, _⟩ := B9.ne na1
      have hzs : ∃ zs : List Str, zs = (rs.map (·.1)).take (((rs.map (·.1)).map V.str).length - 1) := ⟨_, rfl⟩
      obtain ⟨zs, ezs⟩ := hzs
      rw [← ezs]
      have zsub : ∀ z ∈ zs, z ∈ rs.map (·.1) := fun z mz => by
        rw [ezs] at mz
        exact List.mem_of_mem_take mz
      have znd : zs.Nodup := by
        rw [ezs]
        exact knd.sublist (List.take_sublist _ _)
      have z8 : zs.length ≤ 8 := by
        rw [ezs, List.length_take]
        omega
      have s10 := same_new (o := .lst (zs.map V.str)) na1
      have h10 : (upd H9 a1 (.lst (zs.map V.str))) a1 = some (.lst (zs.map V.str)) := upd_same
      generalize upd H9 a1 (.lst (zs.map V.str)) = H10 at s10 h10 ⊢
      have B10 := B9.same s10
      refine ⟨a1, rfl, ⟨_, SqL.of h10⟩, fun D nD => ?_⟩
      obtain ⟨Db, Dg, _⟩ := B10.ne nD
      refine lc_list (K := K) (a := a1) (xs := zs.map V.str) (fun i H4 => Same H10 H4 ∧ ∃ (ts : List Addr) (rs : Rws), H4 D = some (.lst (ts.map V.ref)) ∧ RowsAt H4 ts rs ∧ rs.map (·.1) = zs.take i ∧ ∀ q ∈ rs, Some1 H4 zs q.2) ⟨same_new nD, [], [], upd_same, ⟨rfl, fun i t e => by cases e⟩, rfl, fun q m => by cases m⟩ (fun i H4 _ h => SqL.of (h.1 _ _ h10)) ?_ ?_
      · rintro i x H4 hx ⟨s4, ts3, rs3, hD, ra3, ek3, each3⟩
        rw [List.getElem?_map] at hx
        obtain ⟨z, hz, rfl⟩ := Option.map_eq_some_iff.mp hx
        have mz := List.mem_of_getElem? hz
        have rlen : rs3.length ≤ 8 := by
          have := congrArg List.length ek3
          rw [List.length_map, List.length_take] at this
          omega
        refine ⟨rfl, .str z, rfl, .str z, rfl, by show 1 ≤ sizeLine; decide, fun p np1 => ?_⟩
        have q1 := same_new (o := .tup [.str z]) np1
        have g1 : (upd H4 p (.tup [.str z])) p = some (.tup [.str z]) := upd_same
        generalize upd H4 p (.tup [.str z]) = H11 at q1 g1 ⊢
        refine ⟨by show 2 ≤ sizeLine; decide, fun r nr1 => ?_⟩
        have q2 := same_new (o := .tup [.int 1, .ref p]) nr1
        have g3 : (upd H11 r (.tup [.int 1, .ref p])) r = some (.tup [.int 1, .ref p]) := upd_same
        generalize upd H11 r (.tup [.int 1, .ref p]) = H12 at q2 g3 ⊢
        refine ⟨by show 2 ≤ sizeLine; decide, fun t nt1 => ?_⟩
        have q3 := same_new (o := .tup [.str z, .ref r]) nt1
        have g4 : (upd H12 t (.tup [.str z, .ref r])) t = some (.tup [.str z, .ref r]) := upd_same
        generalize upd H12 t (.tup [.str z, .ref r]) = H13 at q3 g4 ⊢
        have sq := (q1.trans q2).trans q3
        have hD13 := sq _ _ hD
        have tl3 := tups_store (ys := ts3.map V.ref ++ [.ref t]) hD13
        have one : Some1 H13 zs r := ⟨1, [z].map Sum.inl, ⟨p, [z].map V.str, q3 _ _ g3, .inr ⟨q3 _ _ (q2 _ _ g1), [z], rfl⟩, Parts.names [z]⟩, names_valid z8 (fun x mx => nm x (zsub x mx)) (List.nodup_cons.mpr ⟨(fun m => by cases m), List.nodup_nil⟩) (fun y my => by cases List.mem_singleton.mp my; exact mz) (by decide) (by show (1 : Int) ≤ 1; decide)⟩
        refine ⟨_, hD13, ?_, fun a o e => ?_, ts3 ++ [t], rs3 ++ [(z, r)], ?_, ((ra3.same sq).snoc g4).tups tl3, ?_, fun q mq => ?_⟩
        · rw [List.length_map, ra3.1]
          exact small1000 (by omega)
        · rw [upd_ne (ne_of_none e nD)]
          exact sq _ _ (s4 a o e)
        · rw [upd_same, List.map_append]
          rfl
        · rw [List.map_append, ek3, List.take_add_one, hz]
          rfl
        · rcases List.mem_append.mp mq with mq | mq
          · exact ((each3 q mq).tups (Same.tups sq)).tups tl3
          · rw [List.mem_singleton.mp mq]
            exact one.tups tl3
      · rintro H4 ⟨s4, ts3, rs3, hD, ra3, ek3, each3⟩
        rw [List.length_map, List.take_length] at ek3
        obtain ⟨c3, fit3⟩ := fit_of znd z8 (fun x mx => nm x (zsub x mx)) ek3 each3
        have s94 := s10.trans s4
        exact q D ts3 rs3 c3 zs H4 hD Db Dg ra3 fit3 ((B9.same s94).more (by omega)) (K09.trans (Same.keep s94))
    · refine ⟨.ref M, rfl, q M (ts.set j p4) _ c8 _ H9 (K9 _ _ hM8 Mb Mg) Mb Mg (ra8.tups (K9.tups B8)) (fit8.tups (K9.tups B8)) (B9.more (by omega)) (K08.trans K9)⟩
end
end Moot
/-! sorted(rows): pairs of a name and a tuple, no name twice, by their names. -/
namespace Moot
open PySem PySem.Spec PySem.W PyProof.Rows
/-- such a pair in the heap -/
def RowIs (h : Heap) (t : Addr) (x : Str) : Prop := ∃ (o : Obj) (tk : Tok) (r : Addr) (n : Nat), h.get? t = some o ∧ o.cls = .type "tuple" ∧ o.data = .seq #[.str x tk, .ref r] n
/-- by the names of these -/
def rowKind (L : List Addr) (nm : Addr → Str) : KeyKind where
  toKeyOrd := strKind.toKeyOrd
  keyOf v := match v with
    | .ref a => if a ∈ L then some (nm a).cps.toList else none
    | _ => none
  dflt := ([] : List Nat)
theorem rowKind_in {L : List Addr} {nm : Addr → Str} {t : Addr} (h : t ∈ L) : (rowKind L nm).keyOf (.ref t) = some (nm t).cps.toList := if_pos h
theorem rowKind_of {L : List Addr} {nm : Addr → Str} {v : Value} {a : List Nat} (h : (rowKind L nm).keyOf v = some a) : ∃ t, v = .ref t ∧ t ∈ L ∧ a = (nm t).cps.toList := by
  cases v with
  | ref t =>
    have h : (if t ∈ L then some (nm t).cps.toList else none) = some a := h
    by_cases m : t ∈ L
    · rw [if_pos m] at h
      exact ⟨t, rfl, m, (Option.some.inj h).symm⟩
    · rw [if_neg m] at h
      cases h
  | _ => cases h
section
variable {prog : Program} {w : World} {A : Around} {s : Shared} {L : List Addr} {nm : Addr → Str}
theorem rows_firsts {h : Heap} {nm : Addr → Str} : ∀ {L : List Addr}, (∀ t ∈ L, RowIs h t (nm t)) → ∃ fs, KatTups h (L.map Value.ref) fs ∧ fs.length = L.length ∧ ∀ f ∈ fs, ∃ x tk, f = Value.str x tk
  | [], _ => ⟨[], KatTups.nil, rfl, fun f m => by cases m⟩
  | t :: L, a => by
    obtain ⟨fs, h1, h2, h3⟩ := rows_firsts (L := L) fun u m => a u (List.mem_cons_of_mem _ m)
    obtain ⟨o, tk, r, n, ho, hc, hd⟩ := a t List.mem_cons_self
    refine ⟨.str (nm t) tk :: fs, KatTups.cons ho hc hd rfl h1, by rw [List.length_cons, List.length_cons, h2], fun f m => ?_⟩
    rcases List.mem_cons.mp m with e | m
    · exact ⟨_, _, e⟩
    · exact h3 f m
theorem rows_sorts (rows : ∀ t ∈ L, RowIs s.heap t (nm t)) (one : ∀ t ∈ L, ∀ u ∈ L, nm t = nm u → t = u) (hu : A.units < cLine) : SortsAt prog w A s (rowKind L nm) (L.map Value.ref) := by
  refine ⟨fun v hv => ?_, tuples' (Value.type "str" != Value.type "tuple"), ?_, fun h2 E Q hq => ?_⟩
  · obtain ⟨t, m, rfl⟩ := List.mem_map.mp hv
    exact ⟨_, rowKind_in m⟩
  · intro E x y a b Q ha hb hq
    obtain ⟨t, rfl, mt, rfl⟩ := rowKind_of ha
    obtain ⟨u, rfl, mu, rfl⟩ := rowKind_of hb
    obtain ⟨o, tk, r, n, ho, hc, hd⟩ := rows t mt
    obtain ⟨o', tk', r', n', ho', hc', hd'⟩ := rows u mu
    have hq : Q (decide ((nm t).cps.toList < (nm u).cps.toList)) s := hq
    refine kat_lt ho hd ho' hd' ?_
    show KatLex prog w A _ (decide (2 < 2)) Q [(.str (nm t) tk, .str (nm u) tk'), (.ref r, .ref r')] 0 s
    refine kat_cons (eqAt_alike (.str (nm t)) (.str (nm u)) A s _ _ _ _ (.str _ _) (.str _ _) rfl (by show A.units + min 0 0 < cLine; omega) prog w _ _ ?_)
    by_cases e : t = u
    · subst e
      have eo : o = o' := by
        rw [ho] at ho'
        exact Option.some.inj ho'
      subst eo
      rw [hd] at hd'
      have er : r = r' := by
        injection hd' with e1 e2
        have := congrArg (fun z : Array Value => z[1]?) e1
        have := Option.some.inj this
        exact Value.ref.inj this
      subst er
      rw [show PyData.eqv (.str (nm t)) (.str (nm t)) = true from beq_self_eq_true (nm t)]
      refine kat_yes (kat_cons (SeqAt.EqAt.same (A := A) (s := s) (.ref r) prog w _ _ (kat_yes (kat_nil ?_))))
      rw [decide_eq_false (List.lt_irrefl _)] at hq
      exact hq
    · have ne : nm t ≠ nm u := fun z => e (one t mt u mu z)
      rw [show PyData.eqv (.str (nm t)) (.str (nm u)) = false from beq_false_of_ne ne]
      exact kat_no (oneLt_str hq)
  · obtain ⟨fs, t1, t2, t3⟩ := rows_firsts rows
    rw [List.length_map] at h2
    refine kat_kind (T := .type "str") t1 (by omega) (fun f hf => ?_) (beq_self_eq_true _) hq
    obtain ⟨x, tk, rfl⟩ := t3 f hf
    exact Looks.of_pure rfl
end
open L2
theorem each_refs : ∀ {vs : List Value} {us : List Addr}, EachIs (fun v t => v = Value.ref t) vs us → Vals (us.map V.ref) vs
  | _, _, .nil => .nil
  | _, _, .cons h t => .cons (by rw [h]; exact rfl) (each_refs t)
theorem refs_each : ∀ {ts : List Addr} {vs : List Value}, Vals (ts.map V.ref) vs → vs = ts.map Value.ref
  | [], _, r => by cases r; rfl
  | t :: ts, _, r => by
    cases r with
    | cons a b =>
      rw [refs_each b]
      have a : _ = Value.ref t := a
      rw [a]
      rfl
theorem each_self {R : Value → Addr → Prop} : ∀ {ts : List Addr}, (∀ t ∈ ts, R (.ref t) t) → EachIs R (ts.map Value.ref) ts
  | [], _ => .nil
  | t :: ts, h => .cons (h t List.mem_cons_self) (each_self fun u m => h u (List.mem_cons_of_mem _ m))
/-- sorted(rows), no name twice -/
def rSortedR (K : PySem.W.Frag) : List V → Hp → VK → Prop := fun vs H Q => ∃ (a : Addr) (ts : List Addr) (nm : Addr → Str), vs = [V.ref a] ∧ SqL K H a (ts.map V.ref) ∧ (∀ t ∈ ts, ∃ r, Rd H t (.tup [.str (nm t), .ref r])) ∧ (∀ t ∈ ts, ∀ u ∈ ts, nm t = nm u → t = u) ∧
  ∀ (us : List Addr) (p : Addr), us.Perm ts → (us.map nm).Pairwise (fun x y => ltCps y.cps.toList x.cps.toList = false) → H p = none → Q (.ref p) (upd H p (.lst (us.map V.ref)))
theorem cr_sortedR {X : Cx} (hu : X.A.units + 64 < cLine) : CallR X (.builtin "sorted") (rSortedR X.K) := by
  rintro pins s σ H xs us Q I r ⟨a, ts, nm, rfl, hs, rows, one, q⟩
  obtain ⟨its, rv, hl, hz⟩ := I.list hs
  rw [Vals.ref1 r]
  have ei := refs_each rv
  have lz : its.length ≤ sizeLine := by rw [← rv.length]; exact hz
  have rows1 : ∀ t ∈ ts, RowIs s.heap t (nm t) := fun t mt => by
    obtain ⟨r, rd⟩ := rows t mt
    obtain ⟨_, its2, r2, o, ho, hc, n, hd⟩ := rd.ok I.hok
    obtain ⟨u1, u2, rfl, ri, rj⟩ := vals2 r2
    obtain ⟨t1, rfl⟩ := ri
    cases rj
    exact ⟨o, t1, r, n, ho, hc, hd⟩
  have S : SortsAt X.prog X.w X.A.in1.in1 { s with heap := sortingHeap (copyHeap s.heap its) (s.heap.objs.size + 1) its } (rowKind ts nm) its := by
    have rows2 : ∀ t ∈ ts, RowIs (sortingHeap (copyHeap s.heap its) (s.heap.objs.size + 1) its) t (nm t) := fun t mt => by
      obtain ⟨o, tk, r, n, ho, h⟩ := rows1 t mt
      exact ⟨o, tk, r, n, sorting_copy_old ho, h⟩
    have := rows_sorts (prog := X.prog) (w := X.w) (A := X.A.in1.in1) (s := { s with heap := sortingHeap (copyHeap s.heap its) (s.heap.objs.size + 1) its }) rows2 one (by show X.A.units + 1 + 1 < cLine; omega)
    rw [ei]
    rw [ei] at this
    exact this
  refine sorted_vals hl.isList S lz ?_
  have tot := sortLe_total strKind.toKeyOrd false (fun t : Addr => (nm t).cps.toList)
  have each : EachIs (fun v t => v = Value.ref t) (sortVals (rowKind ts nm) false its its) (ts.mergeSort (sortLe strKind.toKeyOrd false fun t => (nm t).cps.toList)) := by
    rw [ei]
    exact sortVals_each (κ := rowKind ts nm) (fun t => (nm t).cps.toList) (each_self fun t _ => rfl) (each_self fun t m => rowKind_in m)
  have pm := List.mergeSort_perm ts (sortLe strKind.toKeyOrd false fun t => (nm t).cps.toList)
  have pw := List.pairwise_mergeSort (le := sortLe strKind.toKeyOrd false fun t => (nm t).cps.toList) tot.trans (fun a b => by
    rcases tot.total a b with h | h <;> simp [h]) ts
  generalize ts.mergeSort (sortLe strKind.toKeyOrd false fun t => (nm t).cps.toList) = zs at each pm pw
  obtain ⟨ep, he'⟩ := PyProof.Rows.sortedAll_at s.heap its (sortVals (rowKind ts nm) false its its).toArray
  have hlen : (zs.map V.ref).length ≤ sizeLine := by
    rw [List.length_map, pm.length_eq, ← List.length_map (f := V.ref)]
    exact hz
  refine ⟨.ref _, upd H (s.heap.objs.size + 1) (.lst (zs.map V.ref)), I.laid (t' := s.toks) (fun _ _ => PyProof.Rows.sortedAll_old) (Nat.le_succ _) ⟨hlen, _, ep, each_refs each, he'⟩, rfl, q zs _ pm ?_ (I.hok.fresh (Nat.le_succ _))⟩
  refine List.pairwise_map.mpr (pw.imp fun {x y} h => ?_)
  have h : (!decide ((nm y).cps.toList < (nm x).cps.toList)) = true := h
  rw [ltCps_eq]
  exact (Bool.not_eq_true' _).mp h
end Moot
/-! _law_as_built. -/
namespace Moot
open PySem PySem.Spec PyProof.Rows L2
/-- a requirement as data -/
def rqD (c : Int) (ps : List Part) : PyData := .tuple [.int c, .tuple (ps.map partD)]
theorem ReqAt.dp {K : PySem.W.Frag} {H : Hp} {r : Addr} {c : Int} {ps : List Part} (h : ReqAt H r c ps) : Dp K H (.ref r) (rqD c ps) := by
  obtain ⟨p, vs, h1, h2, h3⟩ := h
  exact .tup (SqT.of h1) (.cons (.int c) (.cons (.tup h2.seq h3.dp) .nil))
theorem Valid.good {xs : List Str} {c : Int} {ps : List Part} (h : Valid xs c ps) : ∀ p ∈ ps, Good xs p := fun p m => by
  rcases p with x | ⟨d, ns⟩
  · exact h.sub x (mem_names m (by show x ∈ [x]; exact List.mem_cons_self))
  · obtain ⟨i1, i2, i3, i4, i5⟩ := h.inn d ns m
    have sub : ∀ y ∈ ns, y ∈ xs := fun y my => h.sub y (mem_names m (by show y ∈ ns ++ []; rw [List.append_nil]; exact my))
    have := nd_len ns xs i4 sub
    have := h.few
    exact ⟨by omega, by omega, i1, i2, fun _ => i4, sub⟩
theorem rqD_lay {xs : List Str} {c : Int} {ps : List Part} (h : Valid xs c ps) : (rqD c ps).canLay0 = true ∧ (rqD c ps).depth ≤ 4 := by
  obtain ⟨a1, a2⟩ := goods_lay (fun x mx => (h.nm x mx).ok) h.good
  refine ⟨?_, ?_⟩
  · show (true && ((PyData.canLayAll0 (ps.map partD)) && true)) = true
    rw [a1]
    rfl
  · show max 0 (max (PyData.depthAll (ps.map partD) + 1) 0) + 1 ≤ 4
    omega
/-- a row as data -/
def rowD (c : Rq) (q : Str × Addr) : PyData := .tuple [.str q.1, rqD (c q.1).1 (c q.1).2]
theorem lay_all : ∀ {ds : List PyData} {n : Nat}, (∀ d ∈ ds, d.canLay0 = true ∧ d.depth ≤ n) → PyData.canLayAll0 ds = true ∧ PyData.depthAll ds ≤ n
  | [], n, _ => ⟨rfl, Nat.zero_le _⟩
  | d :: ds, n, h => by
    obtain ⟨a1, a2⟩ := h d List.mem_cons_self
    obtain ⟨b1, b2⟩ := lay_all (ds := ds) fun e m => h e (List.mem_cons_of_mem _ m)
    refine ⟨?_, ?_⟩
    · show (PyData.canLay0 d && PyData.canLayAll0 ds) = true
      rw [a1, b1]
      rfl
    · show max (PyData.depth d) (PyData.depthAll ds) ≤ n
      omega
theorem low_shaped {d : PyData} (h1 : PyData.canLay0 d = true) (h2 : PyData.depth d ≤ 64) : SeqAt.shaped d = true := by
  unfold SeqAt.shaped
  rw [h1, decide_eq_true h2]
  rfl
theorem rowD_lay {H : Hp} {c : Rq} {xs : List Str} {rs : Rws} (fit : Fit H c xs rs) {q : Str × Addr} (m : q ∈ rs) : (rowD c q).canLay0 = true ∧ (rowD c q).depth ≤ 5 := by
  have mx : q.1 ∈ xs := fit.keys.mem_iff.mp (List.mem_map.mpr ⟨q, m, rfl⟩)
  obtain ⟨a1, a2⟩ := rqD_lay (fit.ok _ mx)
  refine ⟨?_, ?_⟩
  · show (PyData.strOk q.1 && (PyData.canLay0 (rqD (c q.1).1 (c q.1).2) && true)) = true
    rw [(fit.nm _ mx).ok, a1]
    rfl
  · show max 0 (max (PyData.depth (rqD (c q.1).1 (c q.1).2)) 0) + 1 ≤ 5
    omega
theorem dp_all {K : PySem.W.Frag} {H : Hp} {f : (Str × Addr) → PyData} {g : Nat → V} : ∀ {rs : Rws} {xs : List V}, xs.length = rs.length → (∀ (i : Nat) (v : V) (q : Str × Addr), xs[i]? = some v → rs[i]? = some q → Dp K H v (f q)) → DpAll K H xs (rs.map f)
  | [], [], _, _ => .nil
  | [], _ :: _, h, _ => by cases h
  | _ :: _, [], h, _ => by cases h
  | q :: rs, v :: xs, h, hd => .cons (hd 0 v q rfl rfl) (dp_all (g := g) (Nat.succ.inj h) fun i v q e1 e2 => hd (i + 1) v q e1 e2)
/-- rows read as data -/
theorem RowsAt.dp {K : PySem.W.Frag} {H : Hp} {ts : List Addr} {rs : Rws} {c : Rq} {xs : List Str} (h : RowsAt H ts rs) (fit : Fit H c xs rs) : DpAll K H (ts.map V.ref) (rs.map (rowD c)) := by
  refine dp_all (g := fun _ => .non) (by rw [List.length_map, h.1]) fun i v q e1 e2 => ?_
  rw [List.getElem?_map] at e1
  obtain ⟨t, ht, rfl⟩ := Option.map_eq_some_iff.mp e1
  obtain ⟨x, r, e3, rd⟩ := h.2 i t ht
  rw [e2] at e3
  cases e3
  exact .tup (.inl rd) (.cons (.str x) (.cons (fit.each _ (List.mem_of_getElem? e2)).dp .nil))
theorem rd_one {H : Hp} {t : Addr} {x y : Str} {r s : Addr} (h1 : Rd H t (.tup [.str x, .ref r])) (h2 : Rd H t (.tup [.str y, .ref s])) : x = y ∧ r = s := by
  rcases h1 with h1 | ⟨o, h1⟩ <;> rcases h2 with h2 | ⟨o', h2⟩ <;> (rw [h1] at h2; cases h2) <;> exact ⟨rfl, rfl⟩
/-- the name in a row's tuple -/
noncomputable def nmOf (H : Hp) (t : Addr) : Str := open Classical in if h : ∃ x r, Rd H t (.tup [.str x, .ref r]) then h.choose else ⟨#[]⟩
theorem nmOf_eq {H : Hp} {t : Addr} {x : Str} {r : Addr} (h : Rd H t (.tup [.str x, .ref r])) : nmOf H t = x := by
  have e : ∃ x r, Rd H t (.tup [.str x, .ref r]) := ⟨x, r, h⟩
  unfold nmOf
  rw [dif_pos e]
  obtain ⟨s, hs⟩ := e.choose_spec
  exact (rd_one hs h).1
theorem key_one {rs : Rws} (nd : (rs.map (·.1)).Nodup) {i j : Nat} {x : Str} {r s : Addr} (h1 : rs[i]? = some (x, r)) (h2 : rs[j]? = some (x, s)) : i = j := by
  have e1 : (rs.map (·.1))[i]? = some x := by rw [List.getElem?_map, h1]; rfl
  have e2 : (rs.map (·.1))[j]? = some x := by rw [List.getElem?_map, h2]; rfl
  exact (List.getElem?_inj (List.getElem?_eq_some_iff.mp e1).1 nd).mp (e1.trans e2.symm)
theorem pair_one {rs : Rws} (nd : (rs.map (·.1)).Nodup) {x : Str} {r s : Addr} (h1 : (x, r) ∈ rs) (h2 : (x, s) ∈ rs) : r = s := by
  obtain ⟨i, hi⟩ := List.getElem?_of_mem h1
  obtain ⟨j, hj⟩ := List.getElem?_of_mem h2
  have e := key_one nd hi hj
  subst e
  rw [hi] at hj
  cases hj
  rfl
/-- the rows sorted: those of the network -/
theorem rows_sorted {H : Hp} {ts us : List Addr} {rs rsN : Rws} (ra : RowsAt H ts rs) (nd : (rs.map (·.1)).Nodup) (ndN : (rsN.map (·.1)).Nodup) (srt : Srt (rsN.map (·.1))) (sub : ∀ q ∈ rsN, q ∈ rs) (len : rsN.length = rs.length) (pm : us.Perm ts)
    (pw : (us.map (nmOf H)).Pairwise fun x y => ltCps y.cps.toList x.cps.toList = false) : RowsAt H us rsN := by
  have mem : ∀ t ∈ ts, ∃ x r, (x, r) ∈ rs ∧ Rd H t (.tup [.str x, .ref r]) := fun t mt => by
    obtain ⟨i, hi⟩ := List.getElem?_of_mem mt
    obtain ⟨x, r, e, rd⟩ := ra.2 i t hi
    exact ⟨x, r, List.mem_of_getElem? e, rd⟩
  have keysN : ∀ x, x ∈ rsN.map (·.1) ↔ x ∈ rs.map (·.1) := fun x => by
    refine ⟨fun m => ?_, fun m => ?_⟩
    · obtain ⟨q, mq, rfl⟩ := List.mem_map.mp m
      exact List.mem_map.mpr ⟨q, sub q mq, rfl⟩
    · have s1 : ∀ y ∈ rsN.map (·.1), y ∈ rs.map (·.1) := fun y my => by
        obtain ⟨q, mq, rfl⟩ := List.mem_map.mp my
        exact List.mem_map.mpr ⟨q, sub q mq, rfl⟩
      exact Decidable.byContradiction fun nm => by
        have l := nd_len (x :: rsN.map (·.1)) (rs.map (·.1)) (List.nodup_cons.mpr ⟨nm, ndN⟩) fun y my => by
          rcases List.mem_cons.mp my with rfl | my
          · exact m
          · exact s1 y my
        rw [List.length_cons, List.length_map, List.length_map] at l
        omega
  have tsn : ts.map (nmOf H) = rs.map (·.1) := by
    refine List.ext_getElem? fun i => ?_
    rw [List.getElem?_map, List.getElem?_map]
    cases ht : ts[i]? with
    | none =>
      have : rs[i]? = none := by
        rw [List.getElem?_eq_none_iff] at ht ⊢
        rw [← ra.1]
        exact ht
      rw [this]
      rfl
    | some t =>
      obtain ⟨x, r, e, rd⟩ := ra.2 i t ht
      rw [e]
      show some (nmOf H t) = some x
      rw [nmOf_eq rd]
  have und : (us.map (nmOf H)).Nodup := by
    rw [(pm.map (nmOf H)).nodup_iff, tsn]
    exact nd
  have eq : us.map (nmOf H) = rsN.map (·.1) := srt_one pw und srt ndN fun x => by
    rw [(pm.map (nmOf H)).mem_iff, tsn]
    exact (keysN x).symm
  refine ⟨by have := congrArg List.length eq; rwa [List.length_map, List.length_map] at this, fun i t ht => ?_⟩
  obtain ⟨x, r, mr, rd⟩ := mem t (pm.mem_iff.mp (List.mem_of_getElem? ht))
  have e := congrArg (fun l : List Str => l[i]?) eq
  have e : (us.map (nmOf H))[i]? = (rsN.map (·.1))[i]? := e
  rw [List.getElem?_map, List.getElem?_map, ht] at e
  obtain ⟨⟨y, s⟩, hs, ey⟩ := Option.map_eq_some_iff.mp e.symm
  have ey : y = nmOf H t := ey
  rw [nmOf_eq rd] at ey
  subst ey
  have := pair_one nd (sub _ (List.mem_of_getElem? hs)) mr
  subst this
  exact ⟨_, _, hs, rd⟩
section
variable {P : Program} {w : World} {K : PySem.W.Frag} {mg : Str → Option Value} {base : Heap}
abbrev sBu : Stmt := top 41
abbrev pBu : List Str := ["_law_network", "_law_rows_here"]
abbrev nBu : List Str := ["_law_network", "_law_rows_here", "_law_due", "_law_found", "_law_row", "_law_name_here", "_law_requirement_here"]
theorem scBu : FnScope nBu pBu (defScope sBu) := ⟨rfl, rfl, rfl, by decide +kernel, rfl, by decide +kernel, by decide +kernel⟩
def spBu (K : PySem.W.Frag) (C : Addr) : Sp := fun vs H Q _ => ∃ (net D l : Addr) (ts : List Addr) (rs rsN : Rws) (c : Rq) (xs : List Str), vs = [.ref net, .ref l] ∧ NetAt C H net D c xs rsN ∧ (∀ q ∈ rsN, q ∈ rs) ∧ SqL K H l (ts.map V.ref) ∧ RowsAt H ts rs ∧ Fit H c xs rs ∧ ∀ H', Same H H' → Q (.bl true) H'
theorem ok_bu {f C f1 f2 f3 f4 : Addr} {fd fd1 fd2 fd3 fd4 : FuncData} {k : Nat} (F : Fun K "_law_as_built" "_law_as_built" sBu f fd) (T : Bq mg) (X : Txt K mg C)
    (M1 : Meth K C "as_rows" f1) (b1 : Binds K fd1 ["self"] []) (G1 : FnOk P w K mg base CX0 k f1 fd1 ["self"] (spAr C))
    (M2 : Meth K C "node_names" f2) (b2 : Binds K fd2 ["self"] []) (G2 : FnOk P w K mg base CX0 k f2 fd2 ["self"] (spNn C))
    (M3 : Meth K C "requirement_of" f3) (b3 : Binds K fd3 ["self", "name"] []) (G3 : FnOk P w K mg base CX0 k f3 fd3 ["self", "name"] (spRo C))
    (l4 : PySem.W.findIn K (.ref C) "__len__" = some (some (.ref f4))) (i4 : PySem.W.isFn K (.ref f4) = true) (b4 : Binds K fd4 ["self"] []) (G4 : FnOk P w K mg base CX0 k f4 fd4 ["self"] (spLen C)) : FnOk P w K mg base CX0 (k + 1 + 1) f fd pBu (spBu K C) := by
  refine F.ok scBu (fun vs H Q E h => ?_) (fun cdv A outer s H vs Q E hr h => ?_)
  · obtain ⟨net, D, l, ts, rs, rsN, c, xs, rfl, _⟩ := h
    rfl
  · obtain ⟨net, D, l, ts, rs, rsN, c, xs, rfl, N, sub, hl, ra, fit, q⟩ := h
    have hr0 : Room k (A.deeper (envOfC "_law_as_built" (defScope sBu) s.heap.objs.size f cdv)) := hr.mono (by omega)
    refine ⟨_, pss_cons (ps_set (i := 2) scBu.nd rfl (Or.inl rfl) (pe_callTy call_tuple_of (by rfl) T.T.tup (by decide +kernel) (pa_cons (pe_callB (cr_sortedR hr.units) (by rfl) T.T.srt (by decide +kernel) (pa_cons (pv 1) pa_nil)) pa_nil)))
      (pss_cons (ps_if (PW.pt (pw_or (pt_cmpR (op_neD hr.units) (pe_meth0 (pv 0) X.cl M1 G1 hr0 b1 .nil pass0) (pv 2) (by rfl))
          (pw_or1 (pt_cmpR (op_neD hr.units) (pe_meth0 (pv 0) X.cl M2 G2 hr0 b2 .nil pass0) (pe_callTy call_tuple_of (by rfl) T.T.tup (by decide +kernel) (pa_cons (pe_lc (own := [("_law_row", 4)]) (g := gName 4) (tt := tYes) (by rfl) scBu.nd (pi_tup (pv 2)) (blkOk_by (N := nBu) (sc := defScope sBu) (by decide +kernel))
            (fun _ _ _ _ _ => pg_name (i := 4) scBu.nd rfl (Or.inl rfl)) (fun _ _ _ _ _ => pts_nil) (fun _ _ _ _ _ => pe_ix (show IxR _ (rIxT K) from ix_tup) (pv 4) pe_int (fun _ _ => rfl))) pa_nil)) (by rfl))))) (pss_one (ps_ret pe_bl)) pss_nil)
      (pss_cons (ps_setLc (i := 3) (own := [("_law_name_here", 5), ("_law_requirement_here", 6)]) (g := gTup K 2 (gCons (gName 5) (gCons (gName 6) gNil))) (tt := tYes) (by rfl) scBu.nd rfl rfl (sw_true rfl rfl rfl (by decide +kernel)) (pi_list (pv 1)) (blkOk_by (N := nBu) (sc := defScope sBu) (by decide +kernel))
          (fun _ _ _ _ _ => pg_tup (by rfl) (pgs_cons (pg_name (i := 5) scBu.nd rfl (Or.inl rfl)) (pgs_cons (pg_name (i := 6) scBu.nd rfl (Or.inl rfl)) pgs_nil))) (fun _ _ _ _ _ => pts_nil) (fun _ _ _ _ _ => pe_meth (pv 0) X.cl M3 G3 hr0 b3 .nil pass0 (pa_cons (pv 5) pa_nil)))
      (pss_one (ps_ret (pe_and (pe_cmpR op_eq (pe_callB (cr_lenO G4 l4 i4 b4 hr) (by rfl) T.T.len PySem.boot_len (pa_cons (pv 0) pa_nil)) (pe_callB call_len_seq (by rfl) T.T.len PySem.boot_len (pa_cons (pv 1) pa_nil)) (nomark _))
        (pe_one (pe_cmpR (op_eqD hr.units) (pv 3) (pe_lc (own := [("_law_name_here", 5), ("_law_requirement_here", 6)]) (g := gTup K 2 (gCons (gName 5) (gCons (gName 6) gNil))) (tt := tYes) (by rfl) scBu.nd (pi_list (pv 1)) (blkOk_by (N := nBu) (sc := defScope sBu) (by decide +kernel))
          (fun _ _ _ _ _ => pg_tup (by rfl) (pgs_cons (pg_name (i := 5) scBu.nd rfl (Or.inl rfl)) (pgs_cons (pg_name (i := 6) scBu.nd rfl (Or.inl rfl)) pgs_nil))) (fun _ _ _ _ _ => pts_nil) (fun _ _ _ _ _ => pv 6)) (nomark _)))))))), ?_⟩
    have flen := fit.len
    have few := fit.few
    have knd : (rs.map (·.1)).Nodup := fit.keys.nodup_iff.mpr fit.nd
    have kndN : (rsN.map (·.1)).Nodup := N.fit.keys.nodup_iff.mpr fit.nd
    have lenN : rsN.length = rs.length := by rw [N.fit.len, flen]
    refine ⟨.ref l, rfl, l, ts, nmOf H, rfl, hl, fun t mt => ?_, fun t mt u mu e => ?_, fun us p pm pw np => ?_⟩
    · obtain ⟨i, hi⟩ := List.getElem?_of_mem mt
      obtain ⟨x, r, e, rd⟩ := ra.2 i t hi
      rw [nmOf_eq rd]
      exact ⟨r, rd⟩
    · obtain ⟨i, hi⟩ := List.getElem?_of_mem mt
      obtain ⟨j, hj⟩ := List.getElem?_of_mem mu
      obtain ⟨x, r, e1, rd1⟩ := ra.2 i t hi
      obtain ⟨y, s, e2, rd2⟩ := ra.2 j u hj
      rw [nmOf_eq rd1, nmOf_eq rd2] at e
      subst e
      have := key_one knd e1 e2
      subst this
      rw [hi] at hj
      cases hj
      rfl
    have raN := rows_sorted ra knd kndN N.srt sub lenN pm pw
    have s1 := same_new (o := .lst (us.map V.ref)) np
    have hp : (upd H p (.lst (us.map V.ref))) p = some (.lst (us.map V.ref)) := upd_same
    generalize upd H p (.lst (us.map V.ref)) = H1 at s1 hp ⊢
    refine ⟨p, _, rfl, .inl ⟨SqL.of hp, fun d nd => ?_⟩⟩
    have s2 := s1.trans (same_new (o := .tup (us.map V.ref)) nd)
    have hd : (upd H1 d (.tup (us.map V.ref))) d = some (.tup (us.map V.ref)) := upd_same
    generalize upd H1 d (.tup (us.map V.ref)) = H2 at s2 hd ⊢
    have N2 := N.same s2
    have raN2 := raN.same s2
    obtain ⟨dx, hn⟩ := N.ob
    have lay := lay_all (ds := rsN.map (rowD c)) (n := 5) fun d md => by
      obtain ⟨q, mq, rfl⟩ := List.mem_map.mp md
      exact rowD_lay N.fit mq
    have cl1 : (PyData.tuple (rsN.map (rowD c))).canLay0 = true := lay.1
    have sh1 : SeqAt.shaped (.tuple (rsN.map (rowD c))) = true := low_shaped cl1 (by show PyData.depthAll (rsN.map (rowD c)) + 1 ≤ 64; have := lay.2; omega)
    have nmN : ∀ y ∈ rsN.map (·.1), PyData.strOk y = true := fun y my => (fit.nm y (N.fit.keys.mem_iff.mp my)).ok
    have cl2 : (PyData.tuple ((rsN.map (·.1)).map PyData.str)).canLay0 = true := lay_strs nmN
    have sh2 : SeqAt.shaped (.tuple ((rsN.map (·.1)).map PyData.str)) = true := low_shaped cl2 (by show PyData.depthAll ((rsN.map (·.1)).map PyData.str) + 1 ≤ 64; rw [depth_strs]; decide)
    -- as_rows
    refine ⟨.ref net, rfl, net, dx, _, rfl, s2 _ _ hn, fld_no D (by decide +kernel), net, D, c, xs, rsN, rfl, N2, fun p2 ts2 H3 s3 hp2 rp => ?_⟩
    have s03 := s2.trans s3
    refine ⟨.ref d, rfl, .tuple (rsN.map (rowD c)), .tuple (rsN.map (rowD c)), .tup (SqT.of hp2) (rp.at.dp (N2.fit.same s3)), .tup (SqT.of (s3 _ _ hd)) ((raN2.same s3).dp (N2.fit.same s3)), sh1, sh1, _, rfl, ?_⟩
    rw [SeqAt.eqv_refl _ cl1]
    refine iteF ?_
    -- node_names
    refine ⟨.ref net, rfl, net, dx, _, rfl, s03 _ _ hn, fld_no D (by decide +kernel), net, D, c, xs, rsN, rfl, N.same s03, fun p3 H4 s4 np3 hp3 => ?_⟩
    have s04 := s03.trans s4
    have hd4 := s4 _ _ (s3 _ _ hd)
    have raN4 := raN.same s04
    refine ⟨.ref d, rfl, d, rfl, ⟨_, SqT.of hd4⟩, fun E1 nE => lc_tup (K := K) (a := d) (xs := us.map V.ref) (fun i H5 => Same H4 H5 ∧ H5 E1 = some (.lst (((rsN.take i).map (·.1)).map V.str))) ⟨same_new nE, upd_same⟩ (fun i H5 _ h => SqT.of (h.1 _ _ hd4)) ?_ ?_⟩
    · rintro i x H5 hx ⟨s5, hE⟩
      rw [List.getElem?_map] at hx
      obtain ⟨t, ht, rfl⟩ := Option.map_eq_some_iff.mp hx
      obtain ⟨x, r, hxr, rd⟩ := (raN4.same s5).2 i t ht
      have lt := (List.getElem?_eq_some_iff.mp hxr).1
      refine ⟨rfl, .ref t, rfl, t, _, 0, .str x, rfl, rfl, .inl rd, atI_nat (j := 0) rfl, _, hE, ?_, fun a o e => ?_, ?_⟩
      · rw [List.length_map, List.length_map, List.length_take]
        exact small1000 (by omega)
      · rw [upd_ne (ne_of_none e nE)]
        exact s5 a o e
      · rw [upd_same, List.take_add_one, hxr, List.map_append, List.map_append]
        rfl
    rintro H5 ⟨s5, hE⟩
    rw [List.length_map, raN.1, List.take_length] at hE
    refine ⟨E1, _, rfl, .inl ⟨SqL.of hE, fun t nt => ?_⟩⟩
    have s6 := s5.trans (same_new (o := .tup ((rsN.map (·.1)).map V.str)) nt)
    refine ⟨.tuple ((rsN.map (·.1)).map PyData.str), .tuple ((rsN.map (·.1)).map PyData.str), .tup (SqT.of (s6 _ _ hp3)) (dp_strs _), .tup (SqT.of upd_same) (dp_strs _), sh2, sh2, _, rfl, ?_⟩
    rw [SeqAt.eqv_refl _ cl2]
    refine iteF ?_
    have s06 := s04.trans s6
    generalize upd H5 t (.tup ((rsN.map (·.1)).map V.str)) = H6 at s06 ⊢
    -- the requirements
    have hl6 : SqL K H6 l (ts.map V.ref) := Same.seq s06 hl
    refine ⟨.ref l, rfl, l, rfl, ⟨_, hl6⟩, fun F1 nF => lc_list (K := K) (a := l) (xs := ts.map V.ref) (fun i H7 => Same H6 H7 ∧ ∃ fs : List Addr, H7 F1 = some (.lst (fs.map V.ref)) ∧ fs.length = i ∧ ∀ (j : Nat) (r : Addr), fs[j]? = some r → ∃ q, rs[j]? = some q ∧ ReqAt H7 r (c q.1).1 (c q.1).2) ⟨same_new nF, [], upd_same, rfl, fun j r e => by cases e⟩ (fun i H7 _ h => Same.seq h.1 hl6) ?_ ?_⟩
    · rintro i x H7 hx ⟨s7, fs, hF, fl, each⟩
      rw [List.getElem?_map] at hx
      obtain ⟨t, ht, rfl⟩ := Option.map_eq_some_iff.mp hx
      have s07 := s06.trans s7
      obtain ⟨x, r, hxr, rd⟩ := (ra.same s07).2 i t ht
      have lt := (List.getElem?_eq_some_iff.mp hxr).1
      have mx : x ∈ xs := fit.keys.mem_iff.mp (List.mem_map.mpr ⟨_, List.mem_of_getElem? hxr, rfl⟩)
      refine ⟨t, _, rfl, .inl rd, rfl, _, _, rfl, _, _, rfl, rfl, rfl, .ref net, rfl, net, dx, _, rfl, s07 _ _ hn, fld_no D (by decide +kernel), .str x, rfl, net, D, c, xs, rsN, x, rfl, N.same s07, mx, fun r2 H8 s8 R => ?_⟩
      have hF8 := s8 _ _ hF
      have tl := tups_store (ys := fs.map V.ref ++ [.ref r2]) hF8
      refine ⟨_, hF8, ?_, fun a o e => ?_, fs ++ [r2], ?_, ?_, fun j r e => ?_⟩
      · rw [List.length_map]
        exact small1000 (by omega)
      · rw [upd_ne (ne_of_none e nF)]
        exact s8 _ _ (s7 a o e)
      · rw [upd_same, List.map_append]
        rfl
      · rw [List.length_append, fl]
        rfl
      · by_cases lj : j < fs.length
        · rw [List.getElem?_append_left lj] at e
          obtain ⟨q, h1, h2⟩ := each j r e
          exact ⟨q, h1, (h2.tups (Same.tups s8)).tups tl⟩
        · rw [List.getElem?_append_right (by omega)] at e
          have : j - fs.length = 0 := by
            have := (List.getElem?_eq_some_iff.mp e).1
            rw [List.length_singleton] at this
            omega
          rw [this] at e
          cases e
          have : j = i := by omega
          subst this
          exact ⟨_, hxr, R.tups tl⟩
    rintro H7 ⟨s7, fs, hF, fl, each⟩
    rw [List.length_map, ra.1] at fl
    have s07 := s06.trans s7
    have hl7 : SqL K H7 l (ts.map V.ref) := Same.seq s7 hl6
    have lt : (ts.map V.ref).length = rs.length := by rw [List.length_map]; exact ra.1
    refine ⟨.ref net, rfl, net, dx, _, rfl, s07 _ _ hn, net, D, c, xs, rsN, rfl, N.same s07, rsN.length, rfl, by omega, .ref l, rfl, l, _, rfl, .inl hl7, rfl, _, rfl, ?_⟩
    rw [decide_eq_true (show V.int ((rsN.length : Nat) : Int) = V.int (((ts.map V.ref).length : Nat) : Int) from by rw [lt, lenN])]
    refine iteT ⟨.ref F1, rfl, ?_⟩
    have layR := lay_all (ds := rs.map fun q => rqD (c q.1).1 (c q.1).2) (n := 4) fun d md => by
      obtain ⟨q, mq, rfl⟩ := List.mem_map.mp md
      exact rqD_lay (fit.ok _ (fit.keys.mem_iff.mp (List.mem_map.mpr ⟨q, mq, rfl⟩)))
    have cl3 : (PyData.list (rs.map fun q => rqD (c q.1).1 (c q.1).2)).canLay0 = true := layR.1
    have sh3 : SeqAt.shaped (.list (rs.map fun q => rqD (c q.1).1 (c q.1).2)) = true := low_shaped cl3 (by show PyData.depthAll _ + 1 ≤ 64; have := layR.2; omega)
    refine ⟨.ref l, rfl, l, rfl, ⟨_, hl7⟩, fun G5 nG => lc_list (K := K) (a := l) (xs := ts.map V.ref) (fun i H8 => Same H7 H8 ∧ H8 G5 = some (.lst ((rs.take i).map fun q => V.ref q.2))) ⟨same_new nG, upd_same⟩ (fun i H8 _ h => Same.seq h.1 hl7) ?_ ?_⟩
    · rintro i x H8 hx ⟨s8, hG⟩
      rw [List.getElem?_map] at hx
      obtain ⟨t, ht, rfl⟩ := Option.map_eq_some_iff.mp hx
      obtain ⟨x, r, hxr, rd⟩ := (ra.same (s07.trans s8)).2 i t ht
      have lt := (List.getElem?_eq_some_iff.mp hxr).1
      refine ⟨t, _, rfl, .inl rd, rfl, _, _, rfl, _, _, rfl, rfl, rfl, .ref r, rfl, _, hG, ?_, fun a o e => ?_, ?_⟩
      · rw [List.length_map, List.length_take]
        exact small1000 (by omega)
      · rw [upd_ne (ne_of_none e nG)]
        exact s8 a o e
      · rw [upd_same, List.take_add_one, hxr, List.map_append]
        rfl
    · rintro H8 ⟨s8, hG⟩
      rw [List.length_map, ra.1, List.take_length] at hG
      have s08 := s07.trans s8
      have e1 : Dp K H8 (.ref F1) (.list (rs.map fun q => rqD (c q.1).1 (c q.1).2)) := .lst (SqL.of (s8 _ _ hF)) (dp_all (g := fun _ => .non) (by rw [List.length_map, fl]) fun i v q e1 e2 => by
        rw [List.getElem?_map] at e1
        obtain ⟨r, hr1, rfl⟩ := Option.map_eq_some_iff.mp e1
        obtain ⟨q', h1, h2⟩ := each i r hr1
        rw [e2] at h1
        cases h1
        exact (h2.tups (Same.tups s8)).dp)
      have e2 : Dp K H8 (.ref G5) (.list (rs.map fun q => rqD (c q.1).1 (c q.1).2)) := .lst (SqL.of hG) (dp_all (g := fun _ => .non) (by rw [List.length_map]) fun i v q e1 e2 => by
        rw [List.getElem?_map, e2] at e1
        cases e1
        exact (((fit.each _ (List.mem_of_getElem? e2)).tups (Same.tups s08))).dp)
      refine ⟨_, _, e1, e2, sh3, sh3, ?_⟩
      rw [SeqAt.eqv_refl _ cl3]
      exact q H8 s08
end
end Moot
/-! Two networks are equal just when their sorted rows are. -/
namespace Moot
open PySem PySem.Spec PyProof.Rows L2
def rowδ (δ : Addr → PyData) (q : Str × Addr) : PyData := .tuple [.str q.1, δ q.2]
theorem hitB_iff {δ : Addr → PyData} {B : Rws} : ∀ {A : Rws}, hitB δ B A = true ↔ ∀ q ∈ A, ∃ s, B.lookup q.1 = some s ∧ PyData.eqv (δ q.2) (δ s) = true
  | [] => ⟨(fun _ q m => by cases m), fun _ => rfl⟩
  | (x, r) :: A => by
    have ih := hitB_iff (δ := δ) (B := B) (A := A)
    unfold hitB
    cases e : B.lookup x with
    | none =>
      refine ⟨(fun h => by cases h), fun h => ?_⟩
      obtain ⟨s, h1, _⟩ := h _ List.mem_cons_self
      rw [e] at h1
      cases h1
    | some s =>
      show (PyData.eqv (δ r) (δ s) && hitB δ B A) = true ↔ _
      rw [Bool.and_eq_true, ih]
      refine ⟨fun h q m => ?_, fun h => ⟨?_, fun q m => h q (List.mem_cons_of_mem _ m)⟩⟩
      · rcases List.mem_cons.mp m with rfl | m
        · exact ⟨s, e, h.1⟩
        · exact h.2 q m
      · obtain ⟨s', h1, h2⟩ := h _ List.mem_cons_self
        rw [e] at h1
        cases h1
        exact h2
theorem rows_eqv {δ : Addr → PyData} : ∀ {A B : Rws}, PyData.eqvAll (A.map (rowδ δ)) (B.map (rowδ δ)) = true ↔ A.length = B.length ∧ ∀ (i : Nat) (p q : Str × Addr), A[i]? = some p → B[i]? = some q → p.1 = q.1 ∧ PyData.eqv (δ p.2) (δ q.2) = true
  | [], [] => ⟨fun _ => ⟨rfl, (fun i p q e => by cases e)⟩, fun _ => rfl⟩
  | [], _ :: _ => ⟨(fun h => by cases h), (fun h => by cases h.1)⟩
  | _ :: _, [] => ⟨(fun h => by cases h), (fun h => by cases h.1)⟩
  | (x, r) :: A, (y, s) :: B => by
    have ih := rows_eqv (δ := δ) (A := A) (B := B)
    show (((x == y) && (PyData.eqv (δ r) (δ s) && true)) && PyData.eqvAll (A.map (rowδ δ)) (B.map (rowδ δ))) = true ↔ _
    rw [Bool.and_eq_true, Bool.and_eq_true, Bool.and_true, ih, beq_iff_eq]
    refine ⟨fun h => ⟨by rw [List.length_cons, List.length_cons, h.2.1], fun i p q e1 e2 => ?_⟩, fun h => ⟨?_, Nat.succ.inj h.1, fun i p q e1 e2 => h.2 (i + 1) p q e1 e2⟩⟩
    · cases i with
      | zero =>
        cases e1
        cases e2
        exact h.1
      | succ i => exact h.2.2 i p q e1 e2
    · exact h.2 0 (x, r) (y, s) rfl rfl
theorem look_mem {B : Rws} (nd : (B.map (·.1)).Nodup) {x : Str} {s : Addr} (m : (x, s) ∈ B) : B.lookup x = some s := by
  induction B with
  | nil => cases m
  | cons q B ih =>
    obtain ⟨y, t⟩ := q
    obtain ⟨n1, n2⟩ := List.nodup_cons.mp nd
    rw [List.lookup_cons]
    rcases List.mem_cons.mp m with e | m
    · cases e
      rw [beq_self_eq_true]
    · have ne : x ≠ y := fun e => n1 (List.mem_map.mpr ⟨_, m, e⟩)
      rw [beq_false_of_ne ne]
      exact ih n2 m
theorem eqN_rows {δ : Addr → PyData} {A B : Rws} (na : (A.map (·.1)).Nodup) (nb : (B.map (·.1)).Nodup) (sa : Srt (A.map (·.1))) (sb : Srt (B.map (·.1))) : eqN δ A B = PyData.eqv (.list (A.map (rowδ δ))) (.list (B.map (rowδ δ))) := by
  show eqN δ A B = PyData.eqvAll (A.map (rowδ δ)) (B.map (rowδ δ))
  rw [Bool.eq_iff_iff, rows_eqv]
  unfold eqN
  rw [Bool.and_eq_true, beq_iff_eq, hitB_iff]
  refine and_congr_right fun len => ⟨fun h => ?_, fun h q m => ?_⟩
  · have sub : ∀ x ∈ A.map (·.1), x ∈ B.map (·.1) := fun x mx => by
      obtain ⟨q, mq, rfl⟩ := List.mem_map.mp mx
      obtain ⟨s, h1, _⟩ := h q mq
      obtain ⟨l1, l2, e, _⟩ := List.lookup_eq_some_iff.mp h1
      rw [e]
      exact List.mem_map.mpr ⟨(q.1, s), List.mem_append_right _ List.mem_cons_self, rfl⟩
    have eq : A.map (·.1) = B.map (·.1) := srt_one sa na sb nb fun x => ⟨sub x, fun m => Decidable.byContradiction fun nm => by
      have l := nd_len (x :: A.map (·.1)) (B.map (·.1)) (List.nodup_cons.mpr ⟨nm, na⟩) fun y my => by
        rcases List.mem_cons.mp my with rfl | my
        · exact m
        · exact sub y my
      rw [List.length_cons, List.length_map, List.length_map] at l
      omega⟩
    intro i p q e1 e2
    have e := congrArg (fun l : List Str => l[i]?) eq
    have e : (A.map (·.1))[i]? = (B.map (·.1))[i]? := e
    rw [List.getElem?_map, List.getElem?_map, e1, e2] at e
    have e : p.1 = q.1 := Option.some.inj e
    refine ⟨e, ?_⟩
    obtain ⟨s, h1, h2⟩ := h p (List.mem_of_getElem? e1)
    rw [e, look_mem nb (show (q.1, q.2) ∈ B from List.mem_of_getElem? e2)] at h1
    cases h1
    exact h2
  · obtain ⟨i, hi⟩ := List.getElem?_of_mem m
    have lt : i < B.length := by rw [← len]; exact (List.getElem?_eq_some_iff.mp hi).1
    obtain ⟨e, v⟩ := h i q B[i] hi (List.getElem?_eq_getElem lt)
    refine ⟨B[i].2, ?_, v⟩
    rw [e]
    exact look_mem nb (List.getElem_mem lt)
mutual
theorem Dp.go {K : PySem.W.Frag} {H H' : Hp} (s : Same H H') : ∀ (d : PyData) (v : V), Dp K H v d → Dp K H' v d
  | .none, _, h => by cases h; exact .non
  | .bool _, _, h => by cases h; exact .bl _
  | .int _, _, h => by cases h; exact .int _
  | .str _, _, h => by cases h; exact .str _
  | .list ds, _, h => by
    cases h with
    | lst h1 h2 => exact .lst (Same.seq s h1) (DpAll.go s ds _ h2)
  | .tuple ds, _, h => by
    cases h with
    | tup h1 h2 => exact .tup (SqT.go h1 s) (DpAll.go s ds _ h2)
  | .dict _, _, h => by cases h
theorem DpAll.go {K : PySem.W.Frag} {H H' : Hp} (s : Same H H') : ∀ (ds : List PyData) (xs : List V), DpAll K H xs ds → DpAll K H' xs ds
  | [], _, h => by cases h; exact .nil
  | d :: ds, _, h => by
    cases h with
    | cons a b => exact .cons (Dp.go s d _ a) (DpAll.go s ds _ b)
end
theorem DatR.go {K : PySem.W.Frag} {H H' : Hp} {δ : Addr → PyData} {rs : Rws} (h : DatR K H δ rs) (s : Same H H') : DatR K H' δ rs := fun q m => let ⟨a, b, c⟩ := h q m; ⟨Dp.go s _ _ a, b, c⟩
/-- any data that a reference stands for -/
noncomputable def datOf (K : PySem.W.Frag) (H : Hp) (r : Addr) : PyData := open Classical in if h : ∃ d, Dp K H (.ref r) d ∧ d.canLay0 = true ∧ d.depth ≤ 60 then h.choose else .none
theorem datOf_fit {K : PySem.W.Frag} {H : Hp} {c : Rq} {xs : List Str} {rs : Rws} (fit : Fit H c xs rs) : DatR K H (datOf K H) rs := fun q m => by
  have mx := fit.keys.mem_iff.mp (List.mem_map.mpr ⟨q, m, rfl⟩)
  have l := rqD_lay (fit.ok _ mx)
  have e : ∃ d, Dp K H (.ref q.2) d ∧ d.canLay0 = true ∧ d.depth ≤ 60 := ⟨_, (fit.each q m).dp, l.1, by have := l.2; omega⟩
  unfold datOf
  rw [dif_pos e]
  exact e.choose_spec
theorem RowsAt.dpδ {K : PySem.W.Frag} {H : Hp} {ts : List Addr} {rs : Rws} {δ : Addr → PyData} (h : RowsAt H ts rs) (d : DatR K H δ rs) : DpAll K H (ts.map V.ref) (rs.map (rowδ δ)) := by
  refine dp_all (g := fun _ => .non) (by rw [List.length_map, h.1]) fun i v q e1 e2 => ?_
  rw [List.getElem?_map] at e1
  obtain ⟨t, ht, rfl⟩ := Option.map_eq_some_iff.mp e1
  obtain ⟨x, r, e3, rd⟩ := h.2 i t ht
  rw [e2] at e3
  cases e3
  exact .tup (.inl rd) (.cons (.str x) (.cons (d _ (List.mem_of_getElem? e2)).1 .nil))
theorem rowsδ_lay {K : PySem.W.Frag} {H : Hp} {rs : Rws} {δ : Addr → PyData} (d : DatR K H δ rs) (nm : ∀ q ∈ rs, PyData.strOk q.1 = true) : PyData.canLayAll0 (rs.map (rowδ δ)) = true ∧ PyData.depthAll (rs.map (rowδ δ)) ≤ 61 :=
  lay_all fun e me => by
    obtain ⟨q, mq, rfl⟩ := List.mem_map.mp me
    obtain ⟨_, a2, a3⟩ := d q mq
    refine ⟨?_, ?_⟩
    · show (PyData.strOk q.1 && (PyData.canLay0 (δ q.2) && true)) = true
      rw [nm q mq, a2]
      rfl
    · show max 0 (max (PyData.depth (δ q.2)) 0) + 1 ≤ 61
      omega
end Moot
/-! Rows in another order, the data of requirements, a network made. -/
namespace Moot
open PySem PySem.Spec PyProof.Rows L2
/-- what a row's tuple holds -/
noncomputable def rowOf (H : Hp) (t : Addr) : Str × Addr := open Classical in if h : ∃ q : Str × Addr, Rd H t (.tup [.str q.1, .ref q.2]) then h.choose else (⟨#[]⟩, t)
theorem rowOf_eq {H : Hp} {t : Addr} {x : Str} {r : Addr} (h : Rd H t (.tup [.str x, .ref r])) : rowOf H t = (x, r) := by
  have e : ∃ q : Str × Addr, Rd H t (.tup [.str q.1, .ref q.2]) := ⟨(x, r), h⟩
  unfold rowOf
  rw [dif_pos e]
  obtain ⟨a, b⟩ := rd_one e.choose_spec h
  exact Prod.ext a b
theorem RowsAt.of {H : Hp} {ts : List Addr} {rs : Rws} (ra : RowsAt H ts rs) : ts.map (rowOf H) = rs := by
  refine List.ext_getElem? fun i => ?_
  rw [List.getElem?_map]
  cases ht : ts[i]? with
  | none =>
    have : rs[i]? = none := by
      rw [List.getElem?_eq_none_iff] at ht ⊢
      rw [← ra.1]
      exact ht
    rw [this]
    rfl
  | some t =>
    obtain ⟨x, r, e, rd⟩ := ra.2 i t ht
    rw [e]
    show some (rowOf H t) = some (x, r)
    rw [rowOf_eq rd]
theorem RowsAt.perm {H : Hp} {ts us : List Addr} {rs : Rws} (ra : RowsAt H ts rs) (pm : us.Perm ts) : RowsAt H us (us.map (rowOf H)) ∧ (us.map (rowOf H)).Perm rs := by
  refine ⟨⟨(List.length_map ..).symm, fun i t e => ?_⟩, by have := pm.map (rowOf H); rwa [ra.of] at this⟩
  obtain ⟨j, hj⟩ := List.getElem?_of_mem (pm.mem_iff.mp (List.mem_of_getElem? e))
  obtain ⟨x, r, _, rd⟩ := ra.2 j t hj
  exact ⟨x, r, by rw [List.getElem?_map, e]; show some (rowOf H t) = _; rw [rowOf_eq rd], rd⟩
theorem Fit.perm {H : Hp} {c : Rq} {xs : List Str} {rs rs' : Rws} (h : Fit H c xs rs) (pm : rs'.Perm rs) : Fit H c xs rs' := { h with keys := (pm.map (·.1)).trans h.keys, each := fun q m => h.each q (pm.mem_iff.mp m) }
theorem perm_refs {ys : List V} {ts : List Addr} (pm : ys.Perm (ts.map V.ref)) : ∃ us : List Addr, ys = us.map V.ref ∧ us.Perm ts := by
  have all : ∀ v ∈ ys, ∃ a, v = V.ref a := fun v m => by
    obtain ⟨a, _, e⟩ := List.mem_map.mp (pm.mem_iff.mp m)
    exact ⟨a, e.symm⟩
  let un : V → Addr := fun v => match v with
    | .ref a => a
    | _ => 0
  have e1 : ∀ zs : List V, (∀ v ∈ zs, ∃ a, v = V.ref a) → zs = (zs.map un).map V.ref := fun zs h => by
    rw [List.map_map]
    exact ((List.map_congr_left fun v m => by obtain ⟨a, rfl⟩ := h v m; rfl).trans (List.map_id zs)).symm
  have e2 : (ts.map V.ref).map un = ts := by
    rw [List.map_map]
    exact (List.map_congr_left fun a _ => rfl).trans (List.map_id ts)
  refine ⟨ys.map un, e1 ys all, ?_⟩
  have := pm.map un
  rwa [e2] at this
/-- these references bear requirements with these data -/
def ReqR (H : Hp) (δ : Addr → PyData) (rs : Rws) : Prop := ∀ q ∈ rs, ∃ (c : Int) (ps : List Part) (xs : List Str), ReqAt H q.2 c ps ∧ Valid xs c ps ∧ δ q.2 = rqD c ps
theorem ReqR.tups {H H' : Hp} {δ : Addr → PyData} {rs : Rws} (h : ReqR H δ rs) (t : Tups H H') : ReqR H' δ rs := fun q m => let ⟨c, ps, xs, a, b, d⟩ := h q m; ⟨c, ps, xs, a.tups t, b, d⟩
theorem ReqR.dat {K : PySem.W.Frag} {H : Hp} {δ : Addr → PyData} {rs : Rws} (h : ReqR H δ rs) : DatR K H δ rs := fun q m => by
  obtain ⟨c, ps, xs, a, b, d⟩ := h q m
  have l := rqD_lay b
  rw [d]
  exact ⟨a.dp, l.1, by have := l.2; omega⟩
noncomputable def reqOf (H : Hp) (r : Addr) : PyData := open Classical in if h : ∃ e : Int × List Part × List Str, ReqAt H r e.1 e.2.1 ∧ Valid e.2.2 e.1 e.2.1 then rqD h.choose.1 h.choose.2.1 else .none
theorem reqOf_fit {H : Hp} {c : Rq} {xs : List Str} {rs : Rws} (fit : Fit H c xs rs) : ReqR H (reqOf H) rs := fun q m => by
  have mx := fit.keys.mem_iff.mp (List.mem_map.mpr ⟨q, m, rfl⟩)
  have e : ∃ e : Int × List Part × List Str, ReqAt H q.2 e.1 e.2.1 ∧ Valid e.2.2 e.1 e.2.1 := ⟨(_, _, _), fit.each q m, fit.ok _ mx⟩
  refine ⟨_, _, _, e.choose_spec.1, e.choose_spec.2, ?_⟩
  unfold reqOf
  rw [dif_pos e]
theorem ReqR.sub {H : Hp} {δ : Addr → PyData} {rs rs' : Rws} (h : ReqR H δ rs) (s : ∀ q ∈ rs', q ∈ rs) : ReqR H δ rs' := fun q m => h q (s q m)
theorem eqN_same {K : PySem.W.Frag} {H : Hp} {δ : Addr → PyData} {A : Rws} (nd : (A.map (·.1)).Nodup) (d : DatR K H δ A) : eqN δ A A = true := by
  unfold eqN
  rw [beq_self_eq_true, Bool.true_and, hitB_iff]
  exact fun q m => ⟨q.2, look_mem nd (show (q.1, q.2) ∈ A from m), SeqAt.eqv_refl _ (d q m).2.1⟩
/-- two sorted lists of the same rows -/
theorem rows_one {rs A B : Rws} (nd : (rs.map (·.1)).Nodup) (na : (A.map (·.1)).Perm (B.map (·.1))) (nb : (B.map (·.1)).Nodup) (a : ∀ q ∈ A, q ∈ rs) (b : ∀ q ∈ B, q ∈ rs) (sa : Srt (A.map (·.1))) (sb : Srt (B.map (·.1))) : A = B := by
  have eq : A.map (·.1) = B.map (·.1) := srt_one sa (na.nodup_iff.mpr nb) sb nb fun x => na.mem_iff
  have len : A.length = B.length := by have := congrArg List.length eq; rwa [List.length_map, List.length_map] at this
  refine List.ext_getElem len fun i h1 h2 => ?_
  have e := congrArg (fun l : List Str => l[i]?) eq
  have e : (A.map (·.1))[i]? = (B.map (·.1))[i]? := e
  rw [List.getElem?_map, List.getElem?_map, List.getElem?_eq_getElem h1, List.getElem?_eq_getElem h2] at e
  have e : (A[i]).1 = (B[i]).1 := Option.some.inj e
  refine Prod.ext e ?_
  refine pair_one nd (x := (A[i]).1) (a _ (List.getElem_mem h1)) ?_
  rw [e]
  exact b _ (List.getElem_mem h2)
/-- Network(rows) -/
theorem make_net {K : PySem.W.Frag} {C l net dx : Addr} {H : Hp} {hs : List Addr} {rs : Rws} {c : Rq} {xs : List Str} {Q : VK} {E : XK} (nnet : H net = none) (ndx : H dx = none) (nx : dx ≠ net) (hl : SqL K H l (hs.map V.ref) ∨ SqT K H l (hs.map V.ref)) (ra : RowsM K H hs rs) (fit : Fit H c xs rs)
    (q : ∀ (D : Addr) (rs' : Rws) (H' : Hp), NetAt C H' net D c xs rs' → (∀ q ∈ rs', q ∈ rs) → Same H H' → Q .non H') : spNiM K C [.ref net, .ref l] (upd (upd H dx (.own net)) net (.ins C dx [])) Q E := by
  have s1 : Same H (upd (upd H dx (.own net)) net (.ins C dx [])) := (same_new ndx).trans (same_new (by rw [upd_ne nx.symm]; exact nnet))
  have hnet : (upd (upd H dx (.own net)) net (.ins C dx [])) net = some (.ins C dx []) := upd_same
  generalize upd (upd H dx (.own net)) net (.ins C dx []) = H1 at s1 hnet ⊢
  exact ⟨net, dx, l, hs, rs, c, xs, rfl, hnet, hl.imp (fun h => Same.seq s1 h) (fun h => SqT.go h s1), ra.same s1, fit.same s1, fun Dn rs1 H2 N2 sub1 bt1 => q Dn rs1 H2 N2 sub1 fun d o e => bt1 d o (s1 _ _ e) (ne_of_none e nnet)⟩
/-- list(x) -/
def rLstOf (K : PySem.W.Frag) : List V → Hp → VK → Prop := fun xs H Q => ∃ p ys, xs = [.ref p] ∧ (SqL K H p ys ∨ SqT K H p ys) ∧ ∀ l, H l = none → Q (.ref l) (upd H l (.lst ys))
/-- without rows -/
theorem fit_no (H : Hp) (c : Rq) : Fit H c [] [] := ⟨.nil, Nat.zero_le _, (fun x m => by cases m), (fun x m => by cases m), .nil, fun q m => by cases m⟩
theorem rows_no (K : PySem.W.Frag) (H : Hp) : RowsM K H [] [] := ⟨rfl, fun i t e => by cases e⟩
theorem NetAt.keep {C : Addr} {H H' : Hp} {net D : Addr} {c : Rq} {xs : List Str} {rs : Rws} {b g m : Addr} {n : Nat} (h : NetAt C H net D c xs rs) (k : Keep b g H H') (B : Box H b g m n) : NetAt C H' net D c xs rs := by
  obtain ⟨dx, hn⟩ := h.ob
  exact ⟨⟨dx, k.nl B hn fun _ z => (by cases z)⟩, k.nl B h.dc fun _ z => (by cases z), h.fit.tups (k.tups B), h.srt⟩
theorem NetAt.store {C : Addr} {H : Hp} {net E D : Addr} {c : Rq} {xs : List Str} {rs : Rws} {us ys : List V} (h : NetAt C H net E c xs rs) (hD : H D = some (.lst us)) : NetAt C (upd H D (.lst ys)) net E c xs rs := by
  obtain ⟨dx, e⟩ := h.ob
  refine ⟨⟨dx, ?_⟩, ?_, h.fit.tups (tups_store (ys := ys) hD), h.srt⟩
  · rw [upd_ne (fun z => by rw [z, hD] at e; cases e)]
    exact e
  · have e2 := h.dc
    rw [upd_ne (fun z => by rw [z, hD] at e2; cases e2)]
    exact e2
/-- the rows that were handed over: a row's own tuple or a new list -/
def Hand (H0 H : Hp) (D : Addr) (hs : List Addr) : Prop := ∀ h ∈ hs, (∃ x r, Rd H0 h (.tup [.str x, .ref r])) ∨ (H0 h = none ∧ h ≠ D ∧ ∃ us, H h = some (.lst us))
end Moot
/-! The law. -/
namespace Moot
open PySem PySem.Spec PyProof.Rows L2
theorem sort_a {H : Hp} {ts : List Addr} {rs : Rws} (ra : RowsAt H ts rs) : ∀ t ∈ ts, ∃ r, Rd H t (.tup [.str (nmOf H t), .ref r]) := fun t mt => by
  obtain ⟨i, hi⟩ := List.getElem?_of_mem mt
  obtain ⟨x, r, e, rd⟩ := ra.2 i t hi
  rw [nmOf_eq rd]
  exact ⟨r, rd⟩
theorem sort_b {H : Hp} {ts : List Addr} {rs : Rws} (ra : RowsAt H ts rs) (knd : (rs.map (·.1)).Nodup) : ∀ t ∈ ts, ∀ u ∈ ts, nmOf H t = nmOf H u → t = u := fun t mt u mu e => by
  obtain ⟨i, hi⟩ := List.getElem?_of_mem mt
  obtain ⟨j, hj⟩ := List.getElem?_of_mem mu
  obtain ⟨x, r, e1, rd1⟩ := ra.2 i t hi
  obtain ⟨y, s, e2, rd2⟩ := ra.2 j u hj
  rw [nmOf_eq rd1, nmOf_eq rd2] at e
  subst e
  have := key_one knd e1 e2
  subst this
  rw [hi] at hj
  cases hj
  rfl
section
variable {P : Program} {w : World} {K : PySem.W.Frag} {mg : Str → Option Value} {base : Heap}
abbrev sLaw : Stmt := top 43
abbrev nLaw : List Str := ["_law_script", "_law_box_here", "_law_rows_here", "_law_row", "_law_handed", "_law_network", "_law_others", "_law_other", "_law_alike", "_law_thing"]
theorem scLaw : FnScope nLaw ["_law_script"] (defScope sLaw) := ⟨rfl, rfl, rfl, by decide +kernel, rfl, by decide +kernel, by decide +kernel⟩
/-- values of this type are never a network, and no such type comes first -/
structure Not (K : PySem.W.Frag) (C : Addr) (t : String) : Prop where
  kit : PySem.W.kitOne K (.type t) (.ref C) = some false
  nf : PySem.W.notFirst K C (.type t) = true
def spLaw (K : PySem.W.Frag) : Sp := fun vs H Q _ => ∃ (a : Addr) (ns : List Int), vs = [.ref a] ∧ SqL K H a (ns.map V.int) ∧ ns.length ≤ 63 ∧ ∀ H', Q (.bl true) H'
theorem ok_law {f f1 f2 f3 f4 f5 f6 f7 f8 fA fM fE C d2 : Addr} {fd fd1 fd2 fd3 fd4 fd5 fd6 fd7 fd8 fdA fdM fdE : FuncData} {ds2 : List Value} {k : Nat} (F : Fun K "law" "law" sLaw f fd) (T : Bq mg) (X : Txt K mg C) (O : OwnN K C)
    (zT : Not K C "tuple") (zL : Not K C "list") (zS : Not K C "str") (zN : Not K C "NoneType") (zI : Not K C "int")
    (kC : PySem.W.notFirst K C (.ref C) = true)
    (F1 : Fun K "_law_box" "_law_box" sBox f1 fd1) (b1 : Binds K fd1 ["_law_script"] []) (g1 : mg "_law_box" = some (.ref f1)) (G1 : FnOk P w K mg base CX0 (k + 1) f1 fd1 ["_law_script"] (spBox K))
    (F2 : Fun K "_law_take" "_law_take" sTake f2 fd2) (b2 : Binds K fd2 ["_law_box_here", "_law_size"] []) (g2 : mg "_law_take" = some (.ref f2)) (G2 : FnOk P w K mg base CX0 (k + 1) f2 fd2 ["_law_box_here", "_law_size"] spTake)
    (F3 : Fun K "_law_rows" "_law_rows" sRows f3 fd3) (b3 : Binds K fd3 ["_law_box_here", "_law_most"] []) (g3 : mg "_law_rows" = some (.ref f3)) (G3 : FnOk P w K mg base CX0 (k + 1) f3 fd3 ["_law_box_here", "_law_most"] spRowsG)
    (F4 : Fun K "_law_as_built" "_law_as_built" sBu f4 fd4) (b4 : Binds K fd4 pBu []) (g4 : mg "_law_as_built" = some (.ref f4)) (G4 : FnOk P w K mg base CX0 (k + 1) f4 fd4 pBu (spBu K C))
    (M5 : Mk K C f5) (b5 : Binds K fd5 ["self", "rows"] []) (G5 : FnOk P w K mg base CX0 k f5 fd5 ["self", "rows"] (spNiM K C))
    (b50 : Binds K fd5 ["self", "rows"] ds2) (vd2 : Vals [.ref d2] ds2) (hd2 : ∀ H, SqT K H d2 [])
    (F6 : Fun K "_law_shuffled" "_law_shuffled" sShu f6 fd6) (b6 : Binds K fd6 ["_law_box_here", "_law_values"] []) (g6 : mg "_law_shuffled" = some (.ref f6)) (G6 : FnOk P w K mg base CX0 (k + 1) f6 fd6 ["_law_box_here", "_law_values"] (spShuV K))
    (F7 : Fun K "_law_other_rows" "_law_other_rows" sOr f7 fd7) (b7 : Binds K fd7 pOr []) (g7 : mg "_law_other_rows" = some (.ref f7)) (G7 : FnOk P w K mg base CX0 (k + 1) f7 fd7 pOr spOr)
    (F8 : Fun K "_law_says" "_law_says" sSays f8 fd8) (b8 : Binds K fd8 nSays []) (g8 : mg "_law_says" = some (.ref f8)) (G8 : FnOk P w K mg base CX0 (k + 1) f8 fd8 nSays spSays)
    (MA : Meth K C "as_rows" fA) (bA : Binds K fdA ["self"] []) (GA : FnOk P w K mg base CX0 (k + 1) fA fdA ["self"] (spAr C))
    (MN : Meth K C "node_names" fM) (bM : Binds K fdM ["self"] []) (GM : FnOk P w K mg base CX0 (k + 1) fM fdM ["self"] (spNn C))
    (lE : PySem.W.findIn K (.ref C) "__eq__" = some (some (.ref fE))) (iE : PySem.W.isFn K (.ref fE) = true) (lN : PySem.W.findIn K (.ref C) "__ne__" = some (some (.builtin "object.__ne__"))) (bE : Binds K fdE ["self", "other"] []) (GE : FnOk P w K mg base CX0 k fE fdE ["self", "other"] (spEqN K C)) :
    FnOk P w K mg base CX0 (k + 1 + 1) f fd ["_law_script"] (spLaw K) := by
  refine F.ok scLaw (fun vs H Q E h => ?_) (fun cdv A outer s H vs Q E hr h => ?_)
  · obtain ⟨a, ns, rfl, _⟩ := h
    rfl
  · obtain ⟨a, ns, rfl, hS, len, q⟩ := h
    have hr0 : Room k (A.deeper (envOfC "law" (defScope sLaw) s.heap.objs.size f cdv)) := hr.mono (by omega)
    refine ⟨_, pss_cons (ps_set (i := 1) scLaw.nd rfl (Or.inr rfl) (pe_call G1 hr (by rfl) g1 F1.kp b1 .nil pass0 (pa_cons (pv 0) pa_nil)))
      (pss_cons (ps_set (i := 2) scLaw.nd rfl (Or.inl rfl) (pe_call G3 hr (by rfl) g3 F3.kp b3 .nil pass0 (pa_cons (pv 1) (pa_cons pe_int pa_nil))))
      (pss_cons (ps_setLc (i := 4) (own := [("_law_row", 3)]) (g := gName 3) (tt := tYes) (by rfl) scLaw.nd rfl rfl (sw_true rfl rfl rfl (by decide +kernel)) (pi_list (pv 2)) (blkOk_by (N := nLaw) (sc := defScope sLaw) (by decide +kernel))
          (fun _ _ _ _ _ => pg_name (i := 3) scLaw.nd rfl (Or.inl rfl)) (fun _ _ _ _ _ => pts_nil)
          (fun _ _ _ _ _ => pe_ifExp (pt_cmpR op_eq (pe_call G2 hr (by rfl) g2 F2.kp b2 .nil pass0 (pa_cons (pv 1) (pa_cons pe_int pa_nil))) pe_int (nomark _)) (pe_callTy (show CallR _ (.type "list") (rLstOf K) from call_list_of) (by rfl) T.T.lst (by decide +kernel) (pa_cons (pv 3) pa_nil)) (pv 3)))
      (pss_cons (ps_set (i := 5) scLaw.nd rfl (Or.inl rfl) (pe_make M5 G5 hr (by rfl) X.mgC b5 .nil pass0 (pa_cons (pe_ix ix_list (pe_lst (pa_cons (pv 4) (pa_cons (pe_callTy call_tuple_of (by rfl) T.T.tup (by decide +kernel) (pa_cons (pv 4) pa_nil)) pa_nil))) (pe_call G2 hr (by rfl) g2 F2.kp b2 .nil pass0 (pa_cons (pv 1) (pa_cons pe_int pa_nil))) (fun _ _ => rfl)) pa_nil)))
      (pss_cons (ps_for PassesOwn.never rfl (pi_list (pv 4)) (pg_name (i := 3) scLaw.nd rfl (Or.inl rfl))
        (pss_one (ps_if (pt_val (pe_callB call_isi (by rfl) T.T.isi (by decide +kernel) (pa_cons (pv 3) (pa_cons (pe_bltn (v := .ty "list") (by rfl) T.T.lst (by decide +kernel) rfl) pa_nil))))
          (pss_one (ps_expr (pe_bm0 PySem.F.plainAttrs_list PySem.F.slot_list_reverse PySem.F.type_list_reverse mt_reverse (pv 3)))) pss_nil)))
      (pss_cons (ps_expr (pe_bm0 PySem.F.plainAttrs_list PySem.F.slot_list_clear PySem.F.type_list_clear mt_clear (pv 4)))
      (pss_cons (ps_if (PW.pt (pw_or (pt_not (pt_val (pe_call G4 hr (by rfl) g4 F4.kp b4 .nil pass0 (pa_cons (pv 5) (pa_cons (pv 2) pa_nil)))))
          (pw_or1 (pt_not (pt_val (pe_call G4 hr (by rfl) g4 F4.kp b4 .nil pass0 (pa_cons (pe_make M5 G5 hr (by rfl) X.mgC b5 .nil pass0 (pa_cons (pe_call G6 hr (by rfl) g6 F6.kp b6 .nil pass0 (pa_cons (pv 1) (pa_cons (pv 2) pa_nil))) pa_nil)) (pa_cons (pv 2) pa_nil)))))))) (pss_one (ps_ret pe_bl)) pss_nil)
      (pss_cons (ps_set (i := 6) scLaw.nd rfl (Or.inl rfl) (pe_call G7 hr (by rfl) g7 F7.kp b7 .nil pass0 (pa_cons (pv 1) (pa_cons (pv 2) pa_nil))))
      (pss_cons (ps_set (i := 7) scLaw.nd rfl (Or.inl rfl) (pe_make M5 G5 hr (by rfl) X.mgC b5 .nil pass0 (pa_cons (pv 6) pa_nil)))
      (pss_cons (ps_set (i := 8) scLaw.nd rfl (Or.inl rfl) (pe_cmpR (op_eqD hr.units) (pe_callB (cr_sortedR hr.units) (by rfl) T.T.srt (by decide +kernel) (pa_cons (pv 2) pa_nil)) (pe_callB (cr_sortedR hr.units) (by rfl) T.T.srt (by decide +kernel) (pa_cons (pv 6) pa_nil)) (nomark _)))
      (pss_cons (ps_if (PW.pt (pw_or (pt_cmpR (op_neB GE lE iE lN O.hm bE hr) (pv 5) (pe_make M5 G5 hr (by rfl) X.mgC b5 .nil pass0 (pa_cons (pe_call G6 hr (by rfl) g6 F6.kp b6 .nil pass0 (pa_cons (pv 1) (pa_cons (pv 2) pa_nil))) pa_nil)) (nomark _))
          (pw_or1 (pt_not (pt_val (pe_call G8 hr (by rfl) g8 F8.kp b8 .nil pass0 (pa_cons (pe_cmpR (op_eqB GE lE iE bE hr0) (pv 5) (pv 7) (nomark _)) (pa_cons (pv 8) pa_nil)))))))) (pss_one (ps_ret pe_bl)) pss_nil)
      (pss_cons (ps_if (PW.pt (pw_or (pt_not (pt_val (pe_call G8 hr (by rfl) g8 F8.kp b8 .nil pass0 (pa_cons (pe_cmpR (op_neB GE lE iE lN O.hm bE hr) (pv 5) (pv 7) (nomark _)) (pa_cons (pe_not (pv 8)) pa_nil)))))
          (pw_or1 (pt_not (pt_val (pe_call G4 hr (by rfl) g4 F4.kp b4 .nil pass0 (pa_cons (pv 7) (pa_cons (pv 6) pa_nil)))))))) (pss_one (ps_ret pe_bl)) pss_nil)
      (pss_cons (ps_for PassesOwn.never rfl (pi_list (pe_lst (pa_cons (pe_meth0 (pv 5) X.cl MA GA hr bA .nil pass0) (pa_cons (pv 2) (pa_cons (pe_meth0 (pv 5) X.cl MN GM hr bM .nil pass0) (pa_cons pe_str (pa_cons pe_non (pa_cons pe_int pa_nil)))))))) (pg_name (i := 9) scLaw.nd rfl (Or.inl rfl))
        (pss_one (ps_if (PW.pt (pw_or (pt_cmpR (op_eqB GE lE iE bE hr0) (pv 5) (pv 9) (nomark _)) (pw_or1 (pt_not (pt_cmpR (op_neB GE lE iE lN O.hm bE hr) (pv 5) (pv 9) (nomark _)))))) (pss_one (ps_ret pe_bl)) pss_nil)))
      (pss_one (ps_ret (pe_and (pe_call G4 hr (by rfl) g4 F4.kp b4 .nil pass0 (pa_cons (pe_make0 M5 G5 hr (by rfl) X.mgC b50 vd2 pass0) (pa_cons (pe_lst pa_nil) pa_nil)))
        (pe_and (pe_cmpR (op_eqB GE lE iE bE hr0) (pe_make0 M5 G5 hr (by rfl) X.mgC b50 vd2 pass0) (pe_make M5 G5 hr (by rfl) X.mgC b5 .nil pass0 (pa_cons (pe_lst pa_nil) pa_nil)) (nomark _))
          (pe_one (pe_call G4 hr (by rfl) g4 F4.kp b4 .nil pass0 (pa_cons (pv 5) (pa_cons (pv 2) pa_nil)))))))))))))))))))), ?_⟩
    refine ⟨.ref a, rfl, a, ns, rfl, hS, len, fun H1 b g m s1 B1 => ?_⟩
    refine ⟨.ref b, rfl, b, g, m, 0, 8, rfl, B1, by decide, by decide, by decide, fun l ts rs c xs H3 nl hl ra fit x1 x8 B3 K3 => ?_⟩
    have flen := fit.len
    have few := fit.few
    have knd : (rs.map (·.1)).Nodup := fit.keys.nodup_iff.mpr fit.nd
    have raA : RowsAt H3 ts rs := ra.at
    have tl : (ts.map V.ref).length = rs.length := by rw [List.length_map]; exact ra.1
    obtain ⟨lb, lg, lm⟩ := B1.ne nl
    -- what is handed over
    refine ⟨.ref l, rfl, l, rfl, ⟨_, SqL.of hl⟩, fun D nD => ?_⟩
    obtain ⟨Db, Dg, Dm⟩ := B3.ne nD
    refine lc_list (K := K) (a := l) (xs := ts.map V.ref) (fun i H4 => Box H4 b g m (3000 + i) ∧ Keep b g H3 H4 ∧ ∃ hs : List Addr, H4 D = some (.lst (hs.map V.ref)) ∧ hs.length = i ∧ ∀ (j : Nat) (h : Addr), hs[j]? = some h → ∃ x r, rs[j]? = some (x, r) ∧ (Rd H3 h (.tup [.str x, .ref r]) ∨ (H3 h = none ∧ h ≠ D ∧ H4 h = some (.lst [.str x, .ref r])))) ⟨(B3.store Db Dg Dm).more (by omega), Same.keep (same_new nD), [], upd_same, rfl, (fun j h e => by cases e)⟩ (fun i H4 _ h => SqL.of (h.2.1 _ _ hl lb lg)) ?_ ?_
    · rintro i y H4 hy ⟨B4, K4, hs, hD, hlen, each⟩
      rw [List.getElem?_map] at hy
      obtain ⟨t, ht, rfl⟩ := Option.map_eq_some_iff.mp hy
      obtain ⟨x, r, hxr, rd⟩ := raA.2 i t ht
      have lt := (List.getElem?_eq_some_iff.mp hxr).1
      refine ⟨rfl, .ref b, rfl, b, g, m, _, 2, rfl, B4, by omega, by decide, by decide, fun v H5 v0 v1 B5 K5 => ⟨rfl, _, rfl, ite2 (fun _ => ?_) (fun _ => ?_)⟩⟩
      · obtain ⟨x', r', hxr', rd5⟩ := (raA.tups ((K4.trans K5).tups B3)).2 i t ht
        rw [hxr] at hxr'
        cases hxr'
        refine ⟨.ref t, rfl, t, _, rfl, .inr (.inl rd5), fun p np => ?_⟩
        obtain ⟨pb, pg, pm⟩ := B5.ne np
        have hD5 := K5 _ _ hD Db Dg
        have pD : p ≠ D := (ne_of_none hD5 np).symm
        refine ⟨_, same_new np _ _ hD5, ?_, ((B5.store pb pg pm).store Db Dg Dm).more (by omega), fun d o e n1 n2 => ?_, hs ++ [p], ?_, by rw [List.length_append, hlen]; rfl, fun j h e => ?_⟩
        · rw [List.length_map]
          exact small1000 (by omega)
        · rw [upd_ne (ne_of_none e nD), upd_ne (ne_of_none ((K4.trans K5) d o e n1 n2) np)]
          exact (K4.trans K5) d o e n1 n2
        · rw [upd_same, List.map_append]
          rfl
        · by_cases lj : j < hs.length
          · rw [List.getElem?_append_left lj] at e
            obtain ⟨y, s, e1, e2⟩ := each j h e
            refine ⟨y, s, e1, e2.imp id fun ⟨a1, a2, a3⟩ => ⟨a1, a2, ?_⟩⟩
            obtain ⟨hb, hg, _⟩ := B3.ne a1
            have h5 := K5 _ _ a3 hb hg
            rw [upd_ne a2, upd_ne (ne_of_none h5 np)]
            exact h5
          · rw [List.getElem?_append_right (by omega)] at e
            have : j - hs.length = 0 := by
              have := (List.getElem?_eq_some_iff.mp e).1
              rw [List.length_singleton] at this
              omega
            rw [this] at e
            cases e
            have : j = i := by omega
            subst this
            refine ⟨x, r, hxr, .inr ⟨(K4.trans K5).free pb pg np, pD, ?_⟩⟩
            rw [upd_ne pD]
            exact upd_same
      · have hD5 := K5 _ _ hD Db Dg
        refine ⟨.ref t, rfl, _, hD5, ?_, (B5.store Db Dg Dm).more (by omega), fun d o e n1 n2 => ?_, hs ++ [t], ?_, by rw [List.length_append, hlen]; rfl, fun j h e => ?_⟩
        · rw [List.length_map]
          exact small1000 (by omega)
        · rw [upd_ne (ne_of_none e nD)]
          exact (K4.trans K5) d o e n1 n2
        · rw [upd_same, List.map_append]
          rfl
        · by_cases lj : j < hs.length
          · rw [List.getElem?_append_left lj] at e
            obtain ⟨y, s, e1, e2⟩ := each j h e
            refine ⟨y, s, e1, e2.imp id fun ⟨a1, a2, a3⟩ => ⟨a1, a2, ?_⟩⟩
            obtain ⟨hb, hg, _⟩ := B3.ne a1
            rw [upd_ne a2]
            exact K5 _ _ a3 hb hg
          · rw [List.getElem?_append_right (by omega)] at e
            have : j - hs.length = 0 := by
              have := (List.getElem?_eq_some_iff.mp e).1
              rw [List.length_singleton] at this
              omega
            rw [this] at e
            cases e
            have : j = i := by omega
            subst this
            exact ⟨x, r, hxr, .inl rd⟩
    rintro H4 ⟨B4, K4, hs, hD, hlen, each⟩
    rw [tl] at hlen B4
    have hand4 : Hand H3 H4 D hs := fun h mh => by
      obtain ⟨j, hj⟩ := List.getElem?_of_mem mh
      obtain ⟨x, r, _, e⟩ := each j h hj
      exact e.imp (fun e => ⟨x, r, e⟩) fun ⟨a1, a2, a3⟩ => ⟨a1, a2, _, a3⟩
    have raM : RowsM K H4 hs rs := ⟨hlen, fun j h e => by
      obtain ⟨x, r, e1, e2⟩ := each j h e
      refine ⟨x, r, e1, e2.imp (fun e => .inl ?_) fun ⟨_, _, a3⟩ => SqL.of a3⟩
      exact e.imp (fun e => (K4.tups B3).tup _ _ e) fun ⟨o, e⟩ => ⟨o, (K4.tups B3).frz _ _ _ e⟩⟩
    have fit4 := fit.tups (K4.tups B3)
    -- the network
    refine ⟨.ref D, rfl, .ref D, rfl, D, _, rfl, .inl ⟨SqL.of hD, fun tp ntp => ?_⟩⟩
    have sA := same_new (o := .tup (hs.map V.ref)) ntp
    have htp : (upd H4 tp (.tup (hs.map V.ref))) tp = some (.tup (hs.map V.ref)) := upd_same
    generalize upd H4 tp (.tup (hs.map V.ref)) = H5 at sA htp ⊢
    refine ⟨by show 2 ≤ sizeLine; decide, fun L nL => ?_⟩
    have B5 := B4.same sA
    obtain ⟨Lb, Lg, _⟩ := B5.ne nL
    obtain ⟨tb, tg, _⟩ := B4.ne ntp
    have sB := same_new (o := .lst [.ref D, .ref tp]) nL
    have hL : (upd H5 L (.lst [.ref D, .ref tp])) L = some (.lst [.ref D, .ref tp]) := upd_same
    generalize upd H5 L (.lst [.ref D, .ref tp]) = H6 at sB hL ⊢
    have s46 := sA.trans sB
    refine ⟨.ref b, rfl, b, g, m, _, 2, rfl, B4.same s46, by omega, by decide, by decide, fun v H7 v0 v1 B7 K7 => ?_⟩
    have K47 : Keep b g H4 H7 := (Same.keep s46).trans K7
    have hD7 := K47 _ _ hD Db Dg
    have htp7 := K7 _ _ (sB _ _ htp) tb tg
    have raM7 : RowsM K H7 hs rs := ⟨hlen, fun j h e => by
      obtain ⟨x, r, e1, e2⟩ := each j h e
      refine ⟨x, r, e1, e2.imp (fun e => .inl ?_) fun ⟨a1, _, a3⟩ => SqL.of (K47 _ _ a3 (B3.ne a1).1 (B3.ne a1).2.1)⟩
      exact e.imp (fun e => ((K4.trans K47).tups B3).tup _ _ e) fun ⟨o, e⟩ => ⟨o, ((K4.trans K47).tups B3).frz _ _ _ e⟩⟩
    obtain ⟨z, az, sq⟩ : ∃ z : Addr, atI [V.ref D, V.ref tp] v = some (.ref z) ∧ (SqL K H7 z (hs.map V.ref) ∨ SqT K H7 z (hs.map V.ref)) := by
      have c : v = 0 ∨ v = 1 := by omega
      rcases c with rfl | rfl
      · exact ⟨D, rfl, .inl (SqL.of hD7)⟩
      · exact ⟨tp, rfl, .inr (SqT.of htp7)⟩
    refine ⟨L, _, v, .ref z, rfl, rfl, SqL.of (K7 _ _ hL Lb Lg), az, ?_⟩
    refine fun net dA a1 a2 a3 => make_net a1 a2 a3 sq raM7 (fit.tups ((K4.trans K47).tups B3)) (fun Dn rsN H8 N8 sub8 s8 => ⟨rfl, ?_⟩)
    have K48 : Keep b g H4 H8 := K47.trans (Same.keep s8)
    have hand8 : Hand H3 H8 D hs := fun h mh => (hand4 h mh).imp id fun ⟨a1, a2, us, a3⟩ => ⟨a1, a2, us, K48 _ _ a3 (B3.ne a1).1 (B3.ne a1).2.1⟩
    -- the rows that were lists reversed
    refine ⟨.ref D, rfl, D, rfl, ⟨_, SqL.of (s8 _ _ hD7)⟩, for_list (K := K) (a := D) (xs := hs.map V.ref) (fun i σ H9 => ∃ y3 : Option V, σ = [some (.ref a), some (.ref b), some (.ref l), y3, some (.ref D), some (.ref net), none, none, none, none] ∧ Keep b g H3 H9 ∧ Box H9 b g m 3020 ∧ H9 D = some (.lst (hs.map V.ref)) ∧ Hand H3 H9 D hs ∧ NetAt C H9 net Dn c xs rsN) ⟨_, rfl, K4.trans K48, (B7.same s8).more (by omega), s8 _ _ hD7, hand8, N8⟩ ?_ ?_ ?_⟩
    · rintro i σ H9 _ ⟨_, _, _, _, hD9, _⟩
      exact SqL.of hD9
    · rintro i y σ H9 hy ⟨y3, rfl, K9, B9, hD9, hand9, N9⟩
      rw [List.getElem?_map] at hy
      obtain ⟨h, hh, rfl⟩ := Option.map_eq_some_iff.mp hy
      rcases hand9 h (List.mem_of_getElem? hh) with ⟨x, r, rd⟩ | ⟨h3, hnD, us, hus⟩
      · have ty : TyX K H9 (.ref h) (.type "tuple") := by
          rcases rd with e | ⟨o, e⟩
          · exact .base (.tup ((K9.tups B3).tup _ _ e))
          · exact .fTuple ((K9.tups B3).frz _ _ _ e)
        exact ⟨.ref h, rfl, _, _, .type "tuple", .type "list", false, rfl, .ty _, ty, kit_ty (r := false) (by decide +kernel), _, rfl, iteF ⟨_, rfl, K9, B9, hD9, hand9, N9⟩⟩
      · obtain ⟨hb, hg, hm⟩ := B3.ne h3
        refine ⟨.ref h, rfl, _, _, .type "list", .type "list", true, rfl, .ty _, .base (.lst hus), kit_ty (r := true) (by decide +kernel), _, rfl, iteT ⟨.ref h, rfl, .inl ⟨rfl, _, SqL.of hus⟩, h, us, rfl, rfl, hus, _, rfl, fun d o e n1 n2 => ?_, B9.store hb hg hm, ?_, fun h' mh' => (hand9 h' mh').imp id fun ⟨e1, e2, us', e3⟩ => ⟨e1, e2, ?_⟩, N9.store hus⟩⟩
        · rw [upd_ne (ne_of_none e h3)]
          exact K9 d o e n1 n2
        · rw [upd_ne hnD.symm]
          exact hD9
        · by_cases e : h' = h
          · exact ⟨_, by rw [e]; exact upd_same⟩
          · exact ⟨us', by rw [upd_ne e]; exact e3⟩
    rintro σ H9 ⟨y3, rfl, K9, B9, hD9, hand9, N9⟩
    clear hand9 hand8 hand4 raM raM7 sq each
    refine ⟨.ref D, rfl, .inl ⟨rfl, _, SqL.of hD9⟩, D, _, rfl, rfl, hD9, ?_⟩
    have K10 : Keep b g H3 (upd H9 D (.lst [])) := fun d o e n1 n2 => by
      rw [upd_ne (ne_of_none e nD)]
      exact K9 d o e n1 n2
    have B10 : Box (upd H9 D (.lst [])) b g m 3020 := B9.store Db Dg Dm
    have N10 : NetAt C (upd H9 D (.lst [])) net Dn c xs rsN := N9.store hD9
    generalize upd H9 D (.lst []) = H10 at K10 B10 N10 ⊢
    -- as built
    refine ⟨.ref net, rfl, .ref l, rfl, net, Dn, l, ts, rs, rsN, c, xs, rfl, N10, sub8, SqL.of (K10 _ _ hl lb lg), raA.tups (K10.tups B3), fit.tups (K10.tups B3), fun H11 s11 => ⟨_, rfl, iteF ?_⟩⟩
    have K11 := K10.trans (Same.keep s11)
    refine ⟨.ref b, rfl, .ref l, rfl, b, g, m, l, _, ts.map V.ref, rfl, B10.same s11, by omega, .inl (SqL.of (K11 _ _ hl lb lg)), by omega, fun p ys H12 np hp pm B12 K12 => ?_⟩
    obtain ⟨us, rfl, pmu⟩ := perm_refs pm
    have K312 := K11.trans K12
    obtain ⟨raU, pmR⟩ := (raA.tups (K312.tups B3)).perm pmu
    refine fun net2 dA a1 a2 a3 => make_net a1 a2 a3 (.inl (SqL.of hp)) raU.m ((fit.tups (K312.tups B3)).perm pmR) (fun Dn2 rsM H13 N13 sub13 s13 => ⟨rfl, ?_⟩)
    have K13 := K312.trans (Same.keep s13)
    refine ⟨.ref l, rfl, net2, Dn2, l, ts, rs, rsM, c, xs, rfl, N13, fun q m => pmR.mem_iff.mp (sub13 q m), SqL.of (K13 _ _ hl lb lg), raA.tups (K13.tups B3), fit.tups (K13.tups B3), fun H14 s14 => ⟨_, rfl, iteF ?_⟩⟩
    have K14 := K13.trans (Same.keep s14)
    have s1214 := s13.trans s14
    have B14 := (B12.same s1214).more (show _ ≤ 3100 by omega)
    have N14 := ((N10.same s11).keep K12 (B10.same s11)).same s1214
    clear K11 K312 pmR raU N13 sub13 s13 K13 s14 s1214 B12 K12 N10 B10 K10 s11 hp np pm pmu
    -- other rows
    refine ⟨.ref b, rfl, .ref l, rfl, b, g, m, l, _, ts, rs, c, xs, rfl, B14, by omega, K14 _ _ hl lb lg, lb, lg, ra.tups (K14.tups B3), fit.tups (K14.tups B3), x1, fun l' ts' rs' c' xs' H15 hl' lb' lg' ra' fit' B15 K15 => ?_⟩
    refine ⟨.ref l', rfl, ?_⟩
    refine fun net3 dA a1 a2 a3 => make_net a1 a2 a3 (.inl (SqL.of hl')) ra'.m fit' (fun Dn3 rsO H16 N16 sub16 s16 => ⟨rfl, ?_⟩)
    have K16 := (K14.trans K15).trans (Same.keep s16)
    have B16 := B15.same s16
    have NA16 := (N14.keep K15 B14).same s16
    have hl16 := K16 _ _ hl lb lg
    have ra16 := raA.tups (K16.tups B3)
    have ro16 := ra'.same s16
    have ho16 := s16 _ _ hl'
    have flen' := fit'.len
    have few' := fit'.few
    have kndO : (rs'.map (·.1)).Nodup := fit'.keys.nodup_iff.mpr fit'.nd
    have kndN : (rsN.map (·.1)).Nodup := NA16.fit.keys.nodup_iff.mpr fit.nd
    have kndP : (rsO.map (·.1)).Nodup := N16.fit.keys.nodup_iff.mpr fit'.nd
    have lenN : rsN.length = rs.length := by rw [NA16.fit.len, flen]
    have lenO : rsO.length = rs'.length := by rw [N16.fit.len, flen']
    obtain ⟨δ, hδ⟩ : ∃ δ, δ = reqOf H16 := ⟨_, rfl⟩
    have qN : ReqR H16 δ rsN := hδ ▸ reqOf_fit NA16.fit
    have qO : ReqR H16 δ rsO := hδ ▸ reqOf_fit N16.fit
    -- the rows sorted
    refine ⟨.ref l, rfl, l, ts, nmOf H16, rfl, SqL.of hl16, sort_a ra16, sort_b ra16 knd, fun us1 p1 pm1 pw1 np1 => ?_⟩
    have raS := rows_sorted ra16 knd kndN NA16.srt sub8 lenN pm1 pw1
    have s17 := same_new (o := .lst (us1.map V.ref)) np1
    have hp1 : (upd H16 p1 (.lst (us1.map V.ref))) p1 = some (.lst (us1.map V.ref)) := upd_same
    generalize upd H16 p1 (.lst (us1.map V.ref)) = H17 at s17 hp1 ⊢
    have ro17 := ro16.same s17
    refine ⟨.ref l', rfl, l', ts', nmOf H17, rfl, SqL.of (s17 _ _ ho16), sort_a ro17, sort_b ro17 kndO, fun us2 p2 pm2 pw2 np2 => ?_⟩
    have raT := rows_sorted ro17 kndO kndP N16.srt sub16 lenO pm2 pw2
    have s18 := same_new (o := .lst (us2.map V.ref)) np2
    have hp2 : (upd H17 p2 (.lst (us2.map V.ref))) p2 = some (.lst (us2.map V.ref)) := upd_same
    generalize upd H17 p2 (.lst (us2.map V.ref)) = H18 at s18 hp2 ⊢
    have s1618 := s17.trans s18
    have dN : DatR K H18 δ rsN := (qN.tups (Same.tups s1618)).dat
    have dO : DatR K H18 δ rsO := (qO.tups (Same.tups s1618)).dat
    have layN := rowsδ_lay dN fun q mq => (fit.nm _ (NA16.fit.keys.mem_iff.mp (List.mem_map.mpr ⟨q, mq, rfl⟩))).ok
    have layO := rowsδ_lay dO fun q mq => (fit'.nm _ (N16.fit.keys.mem_iff.mp (List.mem_map.mpr ⟨q, mq, rfl⟩))).ok
    have shN : SeqAt.shaped (.list (rsN.map (rowδ δ))) = true := low_shaped layN.1 (by show PyData.depthAll _ + 1 ≤ 64; have := layN.2; omega)
    have shO : SeqAt.shaped (.list (rsO.map (rowδ δ))) = true := low_shaped layO.1 (by show PyData.depthAll _ + 1 ≤ 64; have := layO.2; omega)
    refine ⟨_, _, .lst (SqL.of (s18 _ _ hp1)) ((raS.same s1618).dpδ dN), .lst (SqL.of hp2) ((raT.same s18).dpδ dO), shN, shO, ?_⟩
    rw [← eqN_rows kndN kndP NA16.srt N16.srt]
    obtain ⟨al, hal⟩ : ∃ al, al = eqN δ rsN rsO := ⟨_, rfl⟩
    rw [← hal]
    have K18 := K16.trans (Same.keep s1618)
    have B18 := B16.same s1618
    have NA18 := NA16.same s1618
    have NO18 := N16.same s1618
    have ro18 := ro16.same s1618
    have fo18 := (fit'.same s16).same s1618
    have ho18 := s1618 _ _ ho16
    clear raS raT hp1 hp2 s17 s18 shN shO layN layO NA16 N16 K16 ro16 ro17 ho16 hl16 ra16 B16 N14 K14 B14 K15
    have qN18 := qN.tups (Same.tups s1618)
    have qO18 := qO.tups (Same.tups s1618)
    -- one from the same rows in another order
    refine ⟨.ref net, rfl, .ref b, rfl, .ref l, rfl, b, g, m, l, _, ts.map V.ref, rfl, B18, by omega, .inl (SqL.of (K18 _ _ hl lb lg)), by omega, fun p ys H19 np hp pm B19 K19 => ?_⟩
    obtain ⟨us, rfl, pmu⟩ := perm_refs pm
    have K319 := K18.trans K19
    obtain ⟨raU, pmR⟩ := (raA.tups (K319.tups B3)).perm pmu
    refine fun net4 dA a1 a2 a3 => make_net a1 a2 a3 (.inl (SqL.of hp)) raU.m ((fit.tups (K319.tups B3)).perm pmR) (fun Dn4 rsP H20 N20 sub20 s20 => ⟨rfl, ?_⟩)
    have NA20 := (NA18.keep K19 B18).same s20
    have NO20 := (NO18.keep K19 B18).same s20
    have t1820 : Tups H18 H20 := ((K19.trans (Same.keep s20)).tups B18)
    have qN20 := qN18.tups t1820
    have qO20 := qO18.tups t1820
    have eP : rsN = rsP := rows_one knd (NA20.fit.keys.trans N20.fit.keys.symm) (N20.fit.keys.nodup_iff.mpr fit.nd) sub8 (fun q m => pmR.mem_iff.mp (sub20 q m)) NA20.srt N20.srt
    rw [← eP] at N20
    obtain ⟨dx, hn20⟩ := NA20.ob
    obtain ⟨dx4, h420⟩ := N20.ob
    have TyN : ∀ {H : Hp} {n D : Addr} {c : Rq} {xs : List Str} {rs : Rws}, NetAt C H n D c xs rs → TyX K H (.ref n) (.ref C) := fun N => by
      obtain ⟨dx, h⟩ := N.ob
      exact .base (.ins h X.cl O.ha O.hn O.htk O.hm)
    refine ⟨net, dx, _, .ref C, rfl, hn20, TyN N20, kC, net, Dn, c, xs, rsN, .ref net4, rfl, NA20, .inl ⟨net4, Dn4, c, xs, rsN, δ, rfl, N20, qN20.dat, qN20.dat, fun H21 s21 => ?_⟩⟩
    rw [eqN_same (K := K) kndN qN20.dat]
    refine ⟨true, rfl, _, rfl, iteF ?_⟩
    have NA21 := NA20.same s21
    have NO21 := NO20.same s21
    have qN21 := qN20.tups (Same.tups s21)
    have qO21 := qO20.tups (Same.tups s21)
    have K21 := (K319.trans (Same.keep s20)).trans (Same.keep s21)
    have K1821 := (K19.trans (Same.keep s20)).trans (Same.keep s21)
    have s1921 := s20.trans s21
    have ho21 := K1821 _ _ ho18 lb' lg'
    have ro21 := ro18.tups (K1821.tups B18)
    have fo21 := fo18.tups (K1821.tups B18)
    clear N20 sub20 eP pmR raU h420
    have hl21 := K21 _ _ hl lb lg
    have ra21 := raA.tups (K21.tups B3)
    have fit21 := fit.tups (K21.tups B3)
    have hn21 := s21 _ _ hn20
    -- equal just when alike
    refine ⟨.ref net, rfl, .ref net3, rfl, net, dx, _, .ref C, rfl, hn21, TyN NO21, kC, net, Dn, c, xs, rsN, .ref net3, rfl, NA21, .inl ⟨net3, Dn3, c', xs', rsO, δ, rfl, NO21, qN21.dat, qO21.dat, fun H22 s22 => ?_⟩⟩
    rw [← hal]
    refine ⟨al, rfl, ?_⟩
    rw [Bool.false_bne]
    refine ⟨.bl al, rfl, al, rfl, _, rfl, iteF ?_⟩
    -- and not equal otherwise
    refine ⟨.ref net, rfl, .ref net3, rfl, net, dx, _, .ref C, rfl, s22 _ _ hn21, TyN (NO21.same s22), kC, net, Dn, c, xs, rsN, .ref net3, rfl, NA21.same s22, .inl ⟨net3, Dn3, c', xs', rsO, δ, rfl, NO21.same s22, (qN21.tups (Same.tups s22)).dat, (qO21.tups (Same.tups s22)).dat, fun H23 s23 => ?_⟩⟩
    rw [← hal]
    refine ⟨al, rfl, ?_⟩
    rw [Bool.true_bne]
    have s2123 := s22.trans s23
    refine ⟨.bl al, rfl, al, rfl, (!al), rfl, _, rfl, iteF ?_⟩
    refine ⟨.ref net3, rfl, .ref l', rfl, net3, Dn3, l', ts', rs', rsO, c', xs', rfl, NO21.same s2123, sub16, SqL.of (s2123 _ _ ho21), ro21.same s2123, fo21.same s2123, fun H24 s24 => ⟨_, rfl, iteF ?_⟩⟩
    have s2124 := s2123.trans s24
    have NA24 := NA21.same s2124
    have hn24 := s2124 _ _ hn21
    have hl24 := s2124 _ _ hl21
    have ra24 := ra21.same s2124
    have fit24 := fit21.same s2124
    clear NO21 NO20 NO18 qN18 qO18 qN20 qO20 qN21 qO21 qN qO dN dO ro21 fo21 ho21 ro18 fo18 ho18 NA18 NA20 NA21 B19 B18 K19 K21 K1821 s1921 s2124 s2123 s22 s23 s24 hn21 hl21 ra21 fit21 hn20 s20 s21 t1820 K319 K18
    -- nothing else is equal
    refine ⟨.ref net, rfl, net, dx, _, rfl, hn24, fld_no Dn (by decide +kernel), net, Dn, c, xs, rsN, rfl, NA24, fun p5 ts5 H25 s25 hp5 rp5 => ⟨.ref l, rfl, .ref net, rfl, net, dx, _, rfl, s25 _ _ hn24, fld_no Dn (by decide +kernel), net, Dn, c, xs, rsN, rfl, NA24.same s25, fun p6 H26 s26 np6 hp6 => ?_⟩⟩
    have s2426 := s25.trans s26
    have hp526 := s26 _ _ hp5
    refine ⟨by show 6 ≤ sizeLine; decide, fun L2 nL2 => ?_⟩
    have s27 := s2426.trans (same_new (o := .lst [.ref p5, .ref l, .ref p6, .str "network", .non, .int 1]) nL2)
    have hL2 : (upd H26 L2 (.lst [.ref p5, .ref l, .ref p6, .str "network", .non, .int 1])) L2 = some (.lst [.ref p5, .ref l, .ref p6, .str "network", .non, .int 1]) := upd_same
    have hp527 := same_new (o := .lst [.ref p5, .ref l, .ref p6, .str "network", .non, .int 1]) nL2 _ _ hp526
    have hp627 := same_new (o := .lst [.ref p5, .ref l, .ref p6, .str "network", .non, .int 1]) nL2 _ _ hp6
    generalize upd H26 L2 (.lst [.ref p5, .ref l, .ref p6, .str "network", .non, .int 1]) = H27 at s27 hL2 hp527 hp627 ⊢
    have hl27 := s27 _ _ hl24
    have tys : ∀ y ∈ [V.ref p5, .ref l, .ref p6, .str "network", .non, .int 1], ∃ t : String, Not K C t ∧ ∀ H', Same H27 H' → TyX K H' y (.type t) := fun y my => by
      rcases List.mem_cons.mp my with rfl | my
      · exact ⟨_, zT, fun H' s => .base (.tup (s _ _ hp527))⟩
      rcases List.mem_cons.mp my with rfl | my
      · exact ⟨_, zL, fun H' s => .base (.lst (s _ _ hl27))⟩
      rcases List.mem_cons.mp my with rfl | my
      · exact ⟨_, zT, fun H' s => .base (.tup (s _ _ hp627))⟩
      rcases List.mem_cons.mp my with rfl | my
      · exact ⟨_, zS, fun H' s => .base (.str _)⟩
      rcases List.mem_cons.mp my with rfl | my
      · exact ⟨_, zN, fun H' s => .base .non⟩
      rcases List.mem_cons.mp my with rfl | my
      · exact ⟨_, zI, fun H' s => .base (.int _)⟩
      · cases my
    have NA27 := NA24.same s27
    have hn27 := s27 _ _ hn24
    have ra27 := ra24.same s27
    have fit27 := fit24.same s27
    clear s27 s2426 s25 s26 NA24 hn24 hl24 ra24 fit24
    refine ⟨L2, rfl, ⟨_, SqL.of hL2⟩, for_list (K := K) (a := L2) (xs := [.ref p5, .ref l, .ref p6, .str "network", .non, .int 1]) (fun i σ H28 => ∃ y9 : Option V, σ = [some (.ref a), some (.ref b), some (.ref l), y3, some (.ref D), some (.ref net), some (.ref l'), some (.ref net3), some (.bl al), y9] ∧ Same H27 H28) ⟨_, rfl, fun _ _ z => z⟩ ?_ ?_ ?_⟩
    · rintro i σ H28 _ ⟨_, _, s28⟩
      exact SqL.of (s28 _ _ hL2)
    · rintro i y σ H28 hy ⟨y9, rfl, s28⟩
      obtain ⟨t, nt, ty⟩ := tys y (List.mem_of_getElem? hy)
      refine ⟨.ref net, rfl, y, rfl, net, dx, _, .type t, rfl, s28 _ _ hn27, ty _ s28, nt.nf, net, Dn, c, xs, rsN, y, rfl, NA27.same s28, .inr ⟨.type t, ty _ s28, nt.kit, fun H29 s29 => ⟨false, rfl, _, rfl, iteF ?_⟩⟩⟩
      have s2829 := s28.trans s29
      exact ⟨.ref net, rfl, y, rfl, net, dx, _, .type t, rfl, s2829 _ _ hn27, ty _ s2829, nt.nf, net, Dn, c, xs, rsN, y, rfl, NA27.same s2829, .inr ⟨.type t, ty _ s2829, nt.kit, fun H30 s30 => ⟨false, rfl, _, rfl, iteF ⟨_, rfl, s2829.trans s30⟩⟩⟩⟩
    rintro σ H28 ⟨y9, rfl, s28⟩
    -- without rows
    refine fun net5 dA a1 a2 a3 => make_net a1 a2 a3 (c := c) (xs := []) (rs := []) (hs := []) (.inr (hd2 _)) (rows_no _ _) (fit_no _ _) (fun Dn5 rs5 H29 N29 sub29 s29 => ⟨rfl, ⟨Nat.zero_le _, fun q1 nq1 => ?_⟩⟩)
    have s30 := same_new (o := .lst []) nq1
    have hq1 : upd H29 q1 (.lst []) q1 = some (.lst (([] : List Addr).map V.ref)) := upd_same
    generalize upd H29 q1 (.lst []) = H30 at s30 hq1 ⊢
    refine ⟨net5, Dn5, q1, [], [], rs5, c, [], rfl, N29.same s30, sub29, SqL.of hq1, ⟨rfl, fun i t e => by cases e⟩, fit_no _ _, fun H31 s31 => ⟨_, rfl, iteT ?_⟩⟩
    have s2831 := ((s28.trans s29).trans s30).trans s31
    refine fun net6 dA a1 a2 a3 => make_net a1 a2 a3 (c := c) (xs := []) (rs := []) (hs := []) (.inr (hd2 _)) (rows_no _ _) (fit_no _ _) (fun Dn6 rs6 H32 N32 sub32 s32 => ⟨rfl, ⟨Nat.zero_le _, fun q2 nq2 => ?_⟩⟩)
    have s33 := same_new (o := .lst []) nq2
    have hq2 : upd H32 q2 (.lst []) q2 = some (.lst (([] : List Addr).map V.ref)) := upd_same
    generalize upd H32 q2 (.lst []) = H33 at s33 hq2 ⊢
    refine fun net7 dA a1 a2 a3 => make_net a1 a2 a3 (c := c) (xs := []) (rs := []) (hs := []) (.inl (SqL.of hq2)) (rows_no _ _) (fit_no _ _) (fun Dn7 rs7 H34 N34 sub34 s34 => ⟨rfl, ?_⟩)
    have s3234 := s33.trans s34
    have N32' := N32.same s3234
    have e6 : rs6 = [] := List.eq_nil_iff_forall_not_mem.mpr fun q m => by cases sub32 q m
    have e7 : rs7 = [] := List.eq_nil_iff_forall_not_mem.mpr fun q m => by cases sub34 q m
    subst e6 e7
    obtain ⟨dx6, hn6⟩ := N32'.ob
    refine ⟨net6, dx6, _, .ref C, rfl, hn6, TyN N34, kC, net6, Dn6, c, [], [], .ref net7, rfl, N32', .inl ⟨net7, Dn7, c, [], [], fun _ => .none, rfl, N34, (fun q m => by cases m), (fun q m => by cases m), fun H35 s35 => ⟨true, rfl, _, rfl, iteT ?_⟩⟩⟩
    have s2735 := ((s2831.trans s32).trans s3234).trans s35
    exact ⟨.ref net, rfl, .ref l, rfl, net, Dn, l, ts, rs, rsN, c, xs, rfl, NA27.same s2735, sub8, SqL.of (s2735 _ _ hl27), ra27.same s2735, fit27.same s2735, fun H36 s36 => q _⟩
end
end Moot
namespace Moot
open PySem PySem.Spec PyProof.Rows L2
theorem kit_self {K : PySem.W.Frag} (C : Addr) : PySem.W.kitOne K (.ref C) (.ref C) = some true := by
  unfold PySem.W.kitOne
  exact if_pos (beq_self_eq_true _)
theorem not_of {K : PySem.W.Frag} {t : String} {c : Addr} (h2 : PySem.W.isClsIn K c = true) (h3 : PySem.W.typeIn K (.ref c) = some (.type "type")) (h4 : PySem.W.subIn K (.type t) (.ref c) = some false) : Not K c t := by
  refine ⟨?_, ?_⟩
  · have h2 : (PySem.W.clsIn K c).isSome = true := h2
    unfold PySem.W.kitOne
    rw [if_neg (fun e => by cases (beq_iff_eq.mp e))]
    simp [PySem.W.kitCls, h2, h3, h4]
  · unfold PySem.W.notFirst
    rw [h4]
    simp
/-! what the top has written -/
theorem all_mk {l : PySem.W.OpenLaw} {w : World} {K : PySem.W.Frag} {h : Heap} {mg : Str → Option Value} {fa C dT eA  f_ns f_isn f_who f_ct f_hd f_sr f_ir f_nwr f_nin f_rb f_cu f_nn f_cn f_ro f_ar f_eqn f_len f_box f_mix f_take f_nam f_som f_cnt f_lis f_req f_rows f_says f_shu f_bu f_or6 f_law f_ini : Addr} (X : K.In h) (G : h.Ns mainGlobals mg) (hfa : mg "law" = some (.ref fa))
    {od_ns an_ns od_isn an_isn od_who an_who od_ct an_ct od_hd an_hd od_sr an_sr od_ir an_ir od_nwr an_nwr od_nin an_nin od_rb an_rb od_cu an_cu od_nn an_nn od_cn an_cn od_ro an_ro od_ar an_ar od_eqn an_eqn od_len an_len od_box an_box od_mix an_mix od_take an_take od_nam an_nam od_som an_som od_cnt an_cnt od_lis an_lis od_req an_req od_rows an_rows od_says an_says od_shu an_shu od_bu an_bu od_or6 an_or6 od_law an_law od_ini an_ini : Option Addr} {sl_ns sl_isn sl_who sl_ct sl_hd sl_sr sl_ir sl_nwr sl_nin sl_rb sl_cu sl_nn sl_cn sl_ro sl_ar sl_eqn sl_len sl_box sl_mix sl_take sl_nam sl_som sl_cnt sl_lis sl_req sl_rows sl_says sl_shu sl_bu sl_or6 sl_law sl_ini : Array (Option Value)} {oc_ns kV_ns dc_ns pm_ns cd_ns ct_ns oc_isn kV_isn dc_isn pm_isn cd_isn ct_isn oc_who kV_who dc_who pm_who cd_who ct_who oc_ct kV_ct dc_ct pm_ct cd_ct ct_ct oc_hd kV_hd dc_hd pm_hd cd_hd ct_hd oc_sr kV_sr dc_sr pm_sr cd_sr ct_sr oc_ir kV_ir dc_ir pm_ir cd_ir ct_ir oc_nwr kV_nwr dc_nwr pm_nwr cd_nwr ct_nwr oc_nin kV_nin dc_nin pm_nin cd_nin ct_nin oc_rb kV_rb dc_rb pm_rb cd_rb ct_rb oc_cu kV_cu dc_cu pm_cu cd_cu ct_cu oc_nn kV_nn dc_nn pm_nn cd_nn ct_nn oc_cn kV_cn dc_cn pm_cn cd_cn ct_cn oc_ro kV_ro dc_ro pm_ro cd_ro ct_ro oc_ar kV_ar dc_ar pm_ar cd_ar ct_ar oc_eqn kV_eqn dc_eqn pm_eqn cd_eqn ct_eqn oc_len kV_len dc_len pm_len cd_len ct_len oc_box kV_box dc_box pm_box cd_box ct_box oc_mix kV_mix dc_mix pm_mix cd_mix ct_mix oc_take kV_take dc_take pm_take cd_take ct_take oc_nam kV_nam dc_nam pm_nam cd_nam ct_nam oc_som kV_som dc_som pm_som cd_som ct_som oc_cnt kV_cnt dc_cnt pm_cnt cd_cnt ct_cnt oc_lis kV_lis dc_lis pm_lis cd_lis ct_lis oc_req kV_req dc_req pm_req cd_req ct_req oc_rows kV_rows dc_rows pm_rows cd_rows ct_rows oc_says kV_says dc_says pm_says cd_says ct_says oc_shu kV_shu dc_shu pm_shu cd_shu ct_shu oc_bu kV_bu dc_bu pm_bu cd_bu ct_bu oc_or6 kV_or6 dc_or6 pm_or6 cd_or6 ct_or6 oc_law kV_law dc_law pm_law cd_law ct_law oc_ini kV_ini dc_ini pm_ini cd_ini ct_ini : Value}
    {nA : Nat} {odA : Option Addr} {slA : Array (Option Value)}
    {tA tB tC tD : Tok} {ocT : Value} {odT  : Option Addr} {nT  : Nat} {slT  : Array (Option Value)}
    (aC : PySem.W.nsIn K mainGlobals "Network" = some (some (.ref C)))
    (y_eA : K.lookup eA = some ⟨.type "tuple", odA, .seq #[] nA, slA⟩)
    (o_1 : PySem.W.findIn K (.ref C) "__class__" = some (some (.builtin "object.__class__")))
    (o_2 : PySem.W.specialIn K (.builtin "object.__class__") "__get__" = some (some (.builtin "getset_descriptor.__get__")))
    (o_3 : PySem.W.takesIn K (.builtin "object.__class__") = some true)
    (o_4 : PySem.W.mroIn K C (.type "object") = some true)
    (o_5 : PySem.W.findIn K (.ref C) "__ne__" = some (some (.builtin "object.__ne__")))
    (c_1 : PySem.W.isClsIn K C = true)
    (c_2 : PySem.W.typeIn K (.ref C) = some (.type "type"))
    (s_T : PySem.W.subIn K (.type "tuple") (.ref C) = some false)
    (s_L : PySem.W.subIn K (.type "list") (.ref C) = some false)
    (s_S : PySem.W.subIn K (.type "str") (.ref C) = some false)
    (s_N : PySem.W.subIn K (.type "NoneType") (.ref C) = some false)
    (s_I : PySem.W.subIn K (.type "int") (.ref C) = some false)
    (a_ns : PySem.W.nsIn K mainGlobals "node_set" = some (some (.ref f_ns)))
    (l_ns : K.lookup f_ns = some ⟨oc_ns, od_ns, .func (PySem.W.fnOf "node_set" "node_set" (defArgs sNs) (defBody sNs) (defScope sNs) .none kV_ns dc_ns pm_ns an_ns cd_ns ct_ns), sl_ns⟩)
    (c_ns : PySem.W.codeIn K cd_ns "node_set" = true)
    (k_ns : PySem.W.keepIn K (.ref f_ns) = true)
    (a_isn : PySem.W.nsIn K mainGlobals "is_name" = some (some (.ref f_isn)))
    (l_isn : K.lookup f_isn = some ⟨oc_isn, od_isn, .func (PySem.W.fnOf "is_name" "is_name" (defArgs sIn) (defBody sIn) (defScope sIn) .none kV_isn dc_isn pm_isn an_isn cd_isn ct_isn), sl_isn⟩)
    (c_isn : PySem.W.codeIn K cd_isn "is_name" = true)
    (k_isn : PySem.W.keepIn K (.ref f_isn) = true)
    (a_who : PySem.W.nsIn K mainGlobals "is_whole_number" = some (some (.ref f_who)))
    (l_who : K.lookup f_who = some ⟨oc_who, od_who, .func (PySem.W.fnOf "is_whole_number" "is_whole_number" (defArgs sWh) (defBody sWh) (defScope sWh) .none kV_who dc_who pm_who an_who cd_who ct_who), sl_who⟩)
    (c_who : PySem.W.codeIn K cd_who "is_whole_number" = true)
    (k_who : PySem.W.keepIn K (.ref f_who) = true)
    (a_ct : PySem.W.nsIn K mainGlobals "is_counted_tuple" = some (some (.ref f_ct)))
    (l_ct : K.lookup f_ct = some ⟨oc_ct, od_ct, .func (PySem.W.fnOf "is_counted_tuple" "is_counted_tuple" (defArgs sCt) (defBody sCt) (defScope sCt) .none kV_ct dc_ct pm_ct an_ct cd_ct ct_ct), sl_ct⟩)
    (c_ct : PySem.W.codeIn K cd_ct "is_counted_tuple" = true)
    (k_ct : PySem.W.keepIn K (.ref f_ct) = true)
    (a_hd : PySem.W.nsIn K mainGlobals "has_duplicates" = some (some (.ref f_hd)))
    (l_hd : K.lookup f_hd = some ⟨oc_hd, od_hd, .func (PySem.W.fnOf "has_duplicates" "has_duplicates" (defArgs sHd) (defBody sHd) (defScope sHd) .none kV_hd dc_hd pm_hd an_hd cd_hd ct_hd), sl_hd⟩)
    (c_hd : PySem.W.codeIn K cd_hd "has_duplicates" = true)
    (k_hd : PySem.W.keepIn K (.ref f_hd) = true)
    (a_sr : PySem.W.nsIn K mainGlobals "is_simple_requirement" = some (some (.ref f_sr)))
    (l_sr : K.lookup f_sr = some ⟨oc_sr, od_sr, .func (PySem.W.fnOf "is_simple_requirement" "is_simple_requirement" (defArgs sSr) (defBody sSr) (defScope sSr) .none kV_sr dc_sr pm_sr an_sr cd_sr ct_sr), sl_sr⟩)
    (c_sr : PySem.W.codeIn K cd_sr "is_simple_requirement" = true)
    (k_sr : PySem.W.keepIn K (.ref f_sr) = true)
    (a_ir : PySem.W.nsIn K mainGlobals "is_requirement" = some (some (.ref f_ir)))
    (l_ir : K.lookup f_ir = some ⟨oc_ir, od_ir, .func (PySem.W.fnOf "is_requirement" "is_requirement" (defArgs sIr) (defBody sIr) (defScope sIr) .none kV_ir dc_ir pm_ir an_ir cd_ir ct_ir), sl_ir⟩)
    (c_ir : PySem.W.codeIn K cd_ir "is_requirement" = true)
    (k_ir : PySem.W.keepIn K (.ref f_ir) = true)
    (a_nwr : PySem.W.nsIn K mainGlobals "names_with_repetition" = some (some (.ref f_nwr)))
    (l_nwr : K.lookup f_nwr = some ⟨oc_nwr, od_nwr, .func (PySem.W.fnOf "names_with_repetition" "names_with_repetition" (defArgs sNwr) (defBody sNwr) (defScope sNwr) .none kV_nwr dc_nwr pm_nwr an_nwr cd_nwr ct_nwr), sl_nwr⟩)
    (c_nwr : PySem.W.codeIn K cd_nwr "names_with_repetition" = true)
    (k_nwr : PySem.W.keepIn K (.ref f_nwr) = true)
    (a_nin : PySem.W.nsIn K mainGlobals "names_in" = some (some (.ref f_nin)))
    (l_nin : K.lookup f_nin = some ⟨oc_nin, od_nin, .func (PySem.W.fnOf "names_in" "names_in" (defArgs sNin) (defBody sNin) (defScope sNin) .none kV_nin dc_nin pm_nin an_nin cd_nin ct_nin), sl_nin⟩)
    (c_nin : PySem.W.codeIn K cd_nin "names_in" = true)
    (k_nin : PySem.W.keepIn K (.ref f_nin) = true)
    (a_rb : PySem.W.nsIn K mainGlobals "requirements_by_name" = some (some (.ref f_rb)))
    (l_rb : K.lookup f_rb = some ⟨oc_rb, od_rb, .func (PySem.W.fnOf "requirements_by_name" "requirements_by_name" (defArgs sRb) (defBody sRb) (defScope sRb) .none kV_rb dc_rb pm_rb an_rb cd_rb ct_rb), sl_rb⟩)
    (c_rb : PySem.W.codeIn K cd_rb "requirements_by_name" = true)
    (k_rb : PySem.W.keepIn K (.ref f_rb) = true)
    (a_cu : PySem.W.nsIn K mainGlobals "check_names_used" = some (some (.ref f_cu)))
    (l_cu : K.lookup f_cu = some ⟨oc_cu, od_cu, .func (PySem.W.fnOf "check_names_used" "check_names_used" (defArgs sCu) (defBody sCu) (defScope sCu) .none kV_cu dc_cu pm_cu an_cu cd_cu ct_cu), sl_cu⟩)
    (c_cu : PySem.W.codeIn K cd_cu "check_names_used" = true)
    (k_cu : PySem.W.keepIn K (.ref f_cu) = true)
    (a_nn : PySem.W.findIn K (.ref C) "node_names" = some (some (.ref f_nn)))
    (i_nn : PySem.W.isFn K (.ref f_nn) = true)
    (l_nn : K.lookup f_nn = some ⟨oc_nn, od_nn, .func (PySem.W.fnOf "node_names" "Network.node_names" (defArgs sNn) (defBody sNn) (defScope sNn) .none kV_nn dc_nn pm_nn an_nn cd_nn ct_nn), sl_nn⟩)
    (c_nn : PySem.W.codeIn K cd_nn "Network.node_names" = true)
    (k_nn : PySem.W.keepIn K (.ref f_nn) = true)
    (a_cn : PySem.W.findIn K (.ref C) "check_nodes" = some (some (.ref f_cn)))
    (i_cn : PySem.W.isFn K (.ref f_cn) = true)
    (l_cn : K.lookup f_cn = some ⟨oc_cn, od_cn, .func (PySem.W.fnOf "check_nodes" "Network.check_nodes" (defArgs sCn) (defBody sCn) (defScope sCn) .none kV_cn dc_cn pm_cn an_cn cd_cn ct_cn), sl_cn⟩)
    (c_cn : PySem.W.codeIn K cd_cn "Network.check_nodes" = true)
    (k_cn : PySem.W.keepIn K (.ref f_cn) = true)
    (a_ro : PySem.W.findIn K (.ref C) "requirement_of" = some (some (.ref f_ro)))
    (i_ro : PySem.W.isFn K (.ref f_ro) = true)
    (l_ro : K.lookup f_ro = some ⟨oc_ro, od_ro, .func (PySem.W.fnOf "requirement_of" "Network.requirement_of" (defArgs sRo) (defBody sRo) (defScope sRo) .none kV_ro dc_ro pm_ro an_ro cd_ro ct_ro), sl_ro⟩)
    (c_ro : PySem.W.codeIn K cd_ro "Network.requirement_of" = true)
    (k_ro : PySem.W.keepIn K (.ref f_ro) = true)
    (a_ar : PySem.W.findIn K (.ref C) "as_rows" = some (some (.ref f_ar)))
    (i_ar : PySem.W.isFn K (.ref f_ar) = true)
    (l_ar : K.lookup f_ar = some ⟨oc_ar, od_ar, .func (PySem.W.fnOf "as_rows" "Network.as_rows" (defArgs sAr) (defBody sAr) (defScope sAr) .none kV_ar dc_ar pm_ar an_ar cd_ar ct_ar), sl_ar⟩)
    (c_ar : PySem.W.codeIn K cd_ar "Network.as_rows" = true)
    (k_ar : PySem.W.keepIn K (.ref f_ar) = true)
    (a_eqn : PySem.W.findIn K (.ref C) "__eq__" = some (some (.ref f_eqn)))
    (i_eqn : PySem.W.isFn K (.ref f_eqn) = true)
    (l_eqn : K.lookup f_eqn = some ⟨oc_eqn, od_eqn, .func (PySem.W.fnOf "__eq__" "Network.__eq__" (defArgs sEqN) (defBody sEqN) (defScope sEqN) .none kV_eqn dc_eqn pm_eqn an_eqn cd_eqn ct_eqn), sl_eqn⟩)
    (c_eqn : PySem.W.codeIn K cd_eqn "Network.__eq__" = true)
    (k_eqn : PySem.W.keepIn K (.ref f_eqn) = true)
    (a_len : PySem.W.findIn K (.ref C) "__len__" = some (some (.ref f_len)))
    (i_len : PySem.W.isFn K (.ref f_len) = true)
    (l_len : K.lookup f_len = some ⟨oc_len, od_len, .func (PySem.W.fnOf "__len__" "Network.__len__" (defArgs sLen) (defBody sLen) (defScope sLen) .none kV_len dc_len pm_len an_len cd_len ct_len), sl_len⟩)
    (c_len : PySem.W.codeIn K cd_len "Network.__len__" = true)
    (k_len : PySem.W.keepIn K (.ref f_len) = true)
    (a_box : PySem.W.nsIn K mainGlobals "_law_box" = some (some (.ref f_box)))
    (l_box : K.lookup f_box = some ⟨oc_box, od_box, .func (PySem.W.fnOf "_law_box" "_law_box" (defArgs sBox) (defBody sBox) (defScope sBox) .none kV_box dc_box pm_box an_box cd_box ct_box), sl_box⟩)
    (c_box : PySem.W.codeIn K cd_box "_law_box" = true)
    (k_box : PySem.W.keepIn K (.ref f_box) = true)
    (a_mix : PySem.W.nsIn K mainGlobals "_law_mixed" = some (some (.ref f_mix)))
    (l_mix : K.lookup f_mix = some ⟨oc_mix, od_mix, .func (PySem.W.fnOf "_law_mixed" "_law_mixed" (defArgs sMixed) (defBody sMixed) (defScope sMixed) .none kV_mix dc_mix pm_mix an_mix cd_mix ct_mix), sl_mix⟩)
    (c_mix : PySem.W.codeIn K cd_mix "_law_mixed" = true)
    (k_mix : PySem.W.keepIn K (.ref f_mix) = true)
    (a_take : PySem.W.nsIn K mainGlobals "_law_take" = some (some (.ref f_take)))
    (l_take : K.lookup f_take = some ⟨oc_take, od_take, .func (PySem.W.fnOf "_law_take" "_law_take" (defArgs sTake) (defBody sTake) (defScope sTake) .none kV_take dc_take pm_take an_take cd_take ct_take), sl_take⟩)
    (c_take : PySem.W.codeIn K cd_take "_law_take" = true)
    (k_take : PySem.W.keepIn K (.ref f_take) = true)
    (a_nam : PySem.W.nsIn K mainGlobals "_law_names" = some (some (.ref f_nam)))
    (l_nam : K.lookup f_nam = some ⟨oc_nam, od_nam, .func (PySem.W.fnOf "_law_names" "_law_names" (defArgs sNames) (defBody sNames) (defScope sNames) .none kV_nam dc_nam pm_nam an_nam cd_nam ct_nam), sl_nam⟩)
    (c_nam : PySem.W.codeIn K cd_nam "_law_names" = true)
    (k_nam : PySem.W.keepIn K (.ref f_nam) = true)
    (a_som : PySem.W.nsIn K mainGlobals "_law_some" = some (some (.ref f_som)))
    (l_som : K.lookup f_som = some ⟨oc_som, od_som, .func (PySem.W.fnOf "_law_some" "_law_some" (defArgs sSome) (defBody sSome) (defScope sSome) .none kV_som dc_som pm_som an_som cd_som ct_som), sl_som⟩)
    (c_som : PySem.W.codeIn K cd_som "_law_some" = true)
    (k_som : PySem.W.keepIn K (.ref f_som) = true)
    (a_cnt : PySem.W.nsIn K mainGlobals "_law_count" = some (some (.ref f_cnt)))
    (l_cnt : K.lookup f_cnt = some ⟨oc_cnt, od_cnt, .func (PySem.W.fnOf "_law_count" "_law_count" (defArgs sCount) (defBody sCount) (defScope sCount) .none kV_cnt dc_cnt pm_cnt an_cnt cd_cnt ct_cnt), sl_cnt⟩)
    (c_cnt : PySem.W.codeIn K cd_cnt "_law_count" = true)
    (k_cnt : PySem.W.keepIn K (.ref f_cnt) = true)
    (a_lis : PySem.W.nsIn K mainGlobals "_law_listed" = some (some (.ref f_lis)))
    (l_lis : K.lookup f_lis = some ⟨oc_lis, od_lis, .func (PySem.W.fnOf "_law_listed" "_law_listed" (defArgs sLis) (defBody sLis) (defScope sLis) .none kV_lis dc_lis pm_lis an_lis cd_lis ct_lis), sl_lis⟩)
    (c_lis : PySem.W.codeIn K cd_lis "_law_listed" = true)
    (k_lis : PySem.W.keepIn K (.ref f_lis) = true)
    (a_req : PySem.W.nsIn K mainGlobals "_law_requirement" = some (some (.ref f_req)))
    (l_req : K.lookup f_req = some ⟨oc_req, od_req, .func (PySem.W.fnOf "_law_requirement" "_law_requirement" (defArgs sReq) (defBody sReq) (defScope sReq) .none kV_req dc_req pm_req an_req cd_req ct_req), sl_req⟩)
    (c_req : PySem.W.codeIn K cd_req "_law_requirement" = true)
    (k_req : PySem.W.keepIn K (.ref f_req) = true)
    (a_rows : PySem.W.nsIn K mainGlobals "_law_rows" = some (some (.ref f_rows)))
    (l_rows : K.lookup f_rows = some ⟨oc_rows, od_rows, .func (PySem.W.fnOf "_law_rows" "_law_rows" (defArgs sRows) (defBody sRows) (defScope sRows) .none kV_rows dc_rows pm_rows an_rows cd_rows ct_rows), sl_rows⟩)
    (c_rows : PySem.W.codeIn K cd_rows "_law_rows" = true)
    (k_rows : PySem.W.keepIn K (.ref f_rows) = true)
    (a_says : PySem.W.nsIn K mainGlobals "_law_says" = some (some (.ref f_says)))
    (l_says : K.lookup f_says = some ⟨oc_says, od_says, .func (PySem.W.fnOf "_law_says" "_law_says" (defArgs sSays) (defBody sSays) (defScope sSays) .none kV_says dc_says pm_says an_says cd_says ct_says), sl_says⟩)
    (c_says : PySem.W.codeIn K cd_says "_law_says" = true)
    (k_says : PySem.W.keepIn K (.ref f_says) = true)
    (a_shu : PySem.W.nsIn K mainGlobals "_law_shuffled" = some (some (.ref f_shu)))
    (l_shu : K.lookup f_shu = some ⟨oc_shu, od_shu, .func (PySem.W.fnOf "_law_shuffled" "_law_shuffled" (defArgs sShu) (defBody sShu) (defScope sShu) .none kV_shu dc_shu pm_shu an_shu cd_shu ct_shu), sl_shu⟩)
    (c_shu : PySem.W.codeIn K cd_shu "_law_shuffled" = true)
    (k_shu : PySem.W.keepIn K (.ref f_shu) = true)
    (a_bu : PySem.W.nsIn K mainGlobals "_law_as_built" = some (some (.ref f_bu)))
    (l_bu : K.lookup f_bu = some ⟨oc_bu, od_bu, .func (PySem.W.fnOf "_law_as_built" "_law_as_built" (defArgs sBu) (defBody sBu) (defScope sBu) .none kV_bu dc_bu pm_bu an_bu cd_bu ct_bu), sl_bu⟩)
    (c_bu : PySem.W.codeIn K cd_bu "_law_as_built" = true)
    (k_bu : PySem.W.keepIn K (.ref f_bu) = true)
    (a_or6 : PySem.W.nsIn K mainGlobals "_law_other_rows" = some (some (.ref f_or6)))
    (l_or6 : K.lookup f_or6 = some ⟨oc_or6, od_or6, .func (PySem.W.fnOf "_law_other_rows" "_law_other_rows" (defArgs sOr) (defBody sOr) (defScope sOr) .none kV_or6 dc_or6 pm_or6 an_or6 cd_or6 ct_or6), sl_or6⟩)
    (c_or6 : PySem.W.codeIn K cd_or6 "_law_other_rows" = true)
    (k_or6 : PySem.W.keepIn K (.ref f_or6) = true)
    (a_law : PySem.W.nsIn K mainGlobals "law" = some (some (.ref f_law)))
    (l_law : K.lookup f_law = some ⟨oc_law, od_law, .func (PySem.W.fnOf "law" "law" (defArgs sLaw) (defBody sLaw) (defScope sLaw) .none kV_law dc_law pm_law an_law cd_law ct_law), sl_law⟩)
    (c_law : PySem.W.codeIn K cd_law "law" = true)
    (k_law : PySem.W.keepIn K (.ref f_law) = true)
    (a_ini : PySem.W.findIn K (.ref C) "__init__" = some (some (.ref f_ini)))
    (i_ini : PySem.W.isFn K (.ref f_ini) = true)
    (l_ini : K.lookup f_ini = some ⟨oc_ini, od_ini, .func (PySem.W.fnOf "__init__" "Network.__init__" (defArgs sNi) (defBody sNi) (defScope sNi) (.ref dT) kV_ini dc_ini pm_ini an_ini cd_ini ct_ini), sl_ini⟩)
    (c_ini : PySem.W.codeIn K cd_ini "Network.__init__" = true)
    (k_ini : PySem.W.keepIn K (.ref f_ini) = true)
    (y_dT : K.lookup dT = some ⟨ocT, odT, .seq #[.ref eA] nT, slT⟩)
    (y_let : PySem.W.nsIn K mainGlobals "LETTERS" = some (some (.str abc tA)))
    (y_lon : PySem.W.nsIn K mainGlobals "LONGEST_NAME" = some (some (.int 8 tB)))
    (y_mn : PySem.W.nsIn K mainGlobals "MOST_NAMES" = some (some (.int 12 tC)))
    (y_md : PySem.W.nsIn K mainGlobals "MOST_DIFFERENT_NAMES" = some (some (.int 8 tD)))
    (w_pg : PySem.W.plainGet K C Str.empty = true)
    (w_hd : PySem.W.hasDictIn K C = true)
    (w_po : PySem.W.plainOver K C = true)
    (w_sa : PySem.W.findIn K (.ref C) "__setattr__" = some (some (.builtin "object.__setattr__")))
    (w_mk : PySem.W.makesIn K C = true)
    (w_kc : PySem.W.keepIn K (.ref C) = true)
    (w_nR : PySem.W.findIn K (.ref C) "requirements" = some none)
    (z_isi : PySem.W.nsIn K mainGlobals "isinstance" = some none)
    (z_str : PySem.W.nsIn K mainGlobals "str" = some none)
    (z_len : PySem.W.nsIn K mainGlobals "len" = some none)
    (z_tup : PySem.W.nsIn K mainGlobals "tuple" = some none)
    (z_lst : PySem.W.nsIn K mainGlobals "list" = some none)
    (z_srt : PySem.W.nsIn K mainGlobals "sorted" = some none)
    (z_set : PySem.W.nsIn K mainGlobals "set" = some none)
    (z_rng : PySem.W.nsIn K mainGlobals "range" = some none)
    (z_int : PySem.W.nsIn K mainGlobals "int" = some none)
    (z_bool : PySem.W.nsIn K mainGlobals "bool" = some none)
    (z_sum : PySem.W.nsIn K mainGlobals "sum" = some none)
    (z_min : PySem.W.nsIn K mainGlobals "min" = some none)
    (z_max : PySem.W.nsIn K mainGlobals "max" = some none)
    (z_all : PySem.W.nsIn K mainGlobals "all" = some none)
    (z_any : PySem.W.nsIn K mainGlobals "any" = some none)
    (z_dict : PySem.W.nsIn K mainGlobals "dict" = some none) :
    ∃ fd : FuncData, (∀ (s : Shared) (v : Value), BindsTo s fd ⟨[v], []⟩ [("_law_script", v)]) ∧ ∀ base : Heap, K.In base → base.Ns mainGlobals mg → FnOk l.prog w K mg base CX0 8 fa fd ["_law_script"] (spLaw K) := by
  have e := hfa.symm.trans (PySem.W.mg_of X G a_law)
  cases e
  have T0 : Blt mg := ⟨PySem.W.mg_none_of X G z_isi, PySem.W.mg_none_of X G z_str, PySem.W.mg_none_of X G z_len, PySem.W.mg_none_of X G z_tup, PySem.W.mg_none_of X G z_lst, PySem.W.mg_none_of X G z_srt, PySem.W.mg_none_of X G z_set, PySem.W.mg_none_of X G z_rng, PySem.W.mg_none_of X G z_int, PySem.W.mg_none_of X G z_bool, PySem.W.mg_none_of X G z_sum, PySem.W.mg_none_of X G z_min, PySem.W.mg_none_of X G z_max⟩
  have T : Bq mg := ⟨T0, PySem.W.mg_none_of X G z_all, ⟨_, PySem.W.mg_of X G y_let, _, rfl⟩, ⟨_, PySem.W.mg_of X G y_lon, _, rfl⟩, ⟨_, PySem.W.mg_of X G y_mn, _, rfl⟩, ⟨_, PySem.W.mg_of X G y_md, _, rfl⟩⟩
  have TN : Bn mg := ⟨PySem.W.mg_none_of X G z_any, PySem.W.mg_none_of X G z_dict⟩
  have TX : Txt K mg C := ⟨⟨w_pg, w_hd, w_po, w_sa⟩, w_nR, PySem.W.mg_of X G aC⟩
  have F_ns := fun_mk (st := sNs) l_ns c_ns k_ns
  have g_ns : mg "node_set" = some (.ref _) := PySem.W.mg_of X G a_ns
  have b_ns := F_ns.binds (ps := ["names"]) fun _ _ _ _ _ _ us hl => match us, hl with | [_], _ => rfl
  have F_isn := fun_mk (st := sIn) l_isn c_isn k_isn
  have g_isn : mg "is_name" = some (.ref _) := PySem.W.mg_of X G a_isn
  have b_isn := F_isn.binds (ps := ["value"]) fun _ _ _ _ _ _ us hl => match us, hl with | [_], _ => rfl
  have F_who := fun_mk (st := sWh) l_who c_who k_who
  have g_who : mg "is_whole_number" = some (.ref _) := PySem.W.mg_of X G a_who
  have b_who := F_who.binds (ps := ["value"]) fun _ _ _ _ _ _ us hl => match us, hl with | [_], _ => rfl
  have F_ct := fun_mk (st := sCt) l_ct c_ct k_ct
  have g_ct : mg "is_counted_tuple" = some (.ref _) := PySem.W.mg_of X G a_ct
  have b_ct := F_ct.binds (ps := ["value"]) fun _ _ _ _ _ _ us hl => match us, hl with | [_], _ => rfl
  have F_hd := fun_mk (st := sHd) l_hd c_hd k_hd
  have g_hd : mg "has_duplicates" = some (.ref _) := PySem.W.mg_of X G a_hd
  have b_hd := F_hd.binds (ps := ["parts"]) fun _ _ _ _ _ _ us hl => match us, hl with | [_], _ => rfl
  have F_sr := fun_mk (st := sSr) l_sr c_sr k_sr
  have g_sr : mg "is_simple_requirement" = some (.ref _) := PySem.W.mg_of X G a_sr
  have b_sr := F_sr.binds (ps := ["value"]) fun _ _ _ _ _ _ us hl => match us, hl with | [_], _ => rfl
  have F_ir := fun_mk (st := sIr) l_ir c_ir k_ir
  have g_ir : mg "is_requirement" = some (.ref _) := PySem.W.mg_of X G a_ir
  have b_ir := F_ir.binds (ps := ["value"]) fun _ _ _ _ _ _ us hl => match us, hl with | [_], _ => rfl
  have F_nwr := fun_mk (st := sNwr) l_nwr c_nwr k_nwr
  have g_nwr : mg "names_with_repetition" = some (.ref _) := PySem.W.mg_of X G a_nwr
  have b_nwr := F_nwr.binds (ps := ["requirement"]) fun _ _ _ _ _ _ us hl => match us, hl with | [_], _ => rfl
  have F_nin := fun_mk (st := sNin) l_nin c_nin k_nin
  have g_nin : mg "names_in" = some (.ref _) := PySem.W.mg_of X G a_nin
  have b_nin := F_nin.binds (ps := ["requirement"]) fun _ _ _ _ _ _ us hl => match us, hl with | [_], _ => rfl
  have F_rb := fun_mk (st := sRb) l_rb c_rb k_rb
  have g_rb : mg "requirements_by_name" = some (.ref _) := PySem.W.mg_of X G a_rb
  have b_rb := F_rb.binds (ps := ["rows"]) fun _ _ _ _ _ _ us hl => match us, hl with | [_], _ => rfl
  have F_cu := fun_mk (st := sCu) l_cu c_cu k_cu
  have g_cu : mg "check_names_used" = some (.ref _) := PySem.W.mg_of X G a_cu
  have b_cu := F_cu.binds (ps := ["requirements"]) fun _ _ _ _ _ _ us hl => match us, hl with | [_], _ => rfl
  have F_nn := fun_mk (st := sNn) l_nn c_nn k_nn
  have M_nn : Meth K C "node_names" f_nn := ⟨a_nn, i_nn, k_nn⟩
  have b_nn := F_nn.binds (ps := ["self"]) fun _ _ _ _ _ _ us hl => match us, hl with | [_], _ => rfl
  have F_cn := fun_mk (st := sCn) l_cn c_cn k_cn
  have M_cn : Meth K C "check_nodes" f_cn := ⟨a_cn, i_cn, k_cn⟩
  have b_cn := F_cn.binds (ps := ["self", "names"]) fun _ _ _ _ _ _ us hl => match us, hl with | [_, _], _ => rfl
  have F_ro := fun_mk (st := sRo) l_ro c_ro k_ro
  have M_ro : Meth K C "requirement_of" f_ro := ⟨a_ro, i_ro, k_ro⟩
  have b_ro := F_ro.binds (ps := ["self", "name"]) fun _ _ _ _ _ _ us hl => match us, hl with | [_, _], _ => rfl
  have F_ar := fun_mk (st := sAr) l_ar c_ar k_ar
  have M_ar : Meth K C "as_rows" f_ar := ⟨a_ar, i_ar, k_ar⟩
  have b_ar := F_ar.binds (ps := ["self"]) fun _ _ _ _ _ _ us hl => match us, hl with | [_], _ => rfl
  have F_eqn := fun_mk (st := sEqN) l_eqn c_eqn k_eqn
  have M_eqn : Meth K C "__eq__" f_eqn := ⟨a_eqn, i_eqn, k_eqn⟩
  have b_eqn := F_eqn.binds (ps := ["self", "other"]) fun _ _ _ _ _ _ us hl => match us, hl with | [_, _], _ => rfl
  have F_len := fun_mk (st := sLen) l_len c_len k_len
  have M_len : Meth K C "__len__" f_len := ⟨a_len, i_len, k_len⟩
  have b_len := F_len.binds (ps := ["self"]) fun _ _ _ _ _ _ us hl => match us, hl with | [_], _ => rfl
  have F_box := fun_mk (st := sBox) l_box c_box k_box
  have g_box : mg "_law_box" = some (.ref _) := PySem.W.mg_of X G a_box
  have b_box := F_box.binds (ps := ["_law_script"]) fun _ _ _ _ _ _ us hl => match us, hl with | [_], _ => rfl
  have F_mix := fun_mk (st := sMixed) l_mix c_mix k_mix
  have g_mix : mg "_law_mixed" = some (.ref _) := PySem.W.mg_of X G a_mix
  have b_mix := F_mix.binds (ps := ["_law_cell", "_law_k"]) fun _ _ _ _ _ _ us hl => match us, hl with | [_, _], _ => rfl
  have F_take := fun_mk (st := sTake) l_take c_take k_take
  have g_take : mg "_law_take" = some (.ref _) := PySem.W.mg_of X G a_take
  have b_take := F_take.binds (ps := ["_law_box_here", "_law_size"]) fun _ _ _ _ _ _ us hl => match us, hl with | [_, _], _ => rfl
  have F_nam := fun_mk (st := sNames) l_nam c_nam k_nam
  have g_nam : mg "_law_names" = some (.ref _) := PySem.W.mg_of X G a_nam
  have b_nam := F_nam.binds (ps := ["_law_box_here", "_law_many"]) fun _ _ _ _ _ _ us hl => match us, hl with | [_, _], _ => rfl
  have F_som := fun_mk (st := sSome) l_som c_som k_som
  have g_som : mg "_law_some" = some (.ref _) := PySem.W.mg_of X G a_som
  have b_som := F_som.binds (ps := ["_law_box_here", "_law_values"]) fun _ _ _ _ _ _ us hl => match us, hl with | [_, _], _ => rfl
  have F_cnt := fun_mk (st := sCount) l_cnt c_cnt k_cnt
  have g_cnt : mg "_law_count" = some (.ref _) := PySem.W.mg_of X G a_cnt
  have b_cnt := F_cnt.binds (ps := ["_law_box_here", "_law_many"]) fun _ _ _ _ _ _ us hl => match us, hl with | [_, _], _ => rfl
  have F_lis := fun_mk (st := sLis) l_lis c_lis k_lis
  have g_lis : mg "_law_listed" = some (.ref _) := PySem.W.mg_of X G a_lis
  have b_lis := F_lis.binds (ps := ["_law_parts"]) fun _ _ _ _ _ _ us hl => match us, hl with | [_], _ => rfl
  have F_req := fun_mk (st := sReq) l_req c_req k_req
  have g_req : mg "_law_requirement" = some (.ref _) := PySem.W.mg_of X G a_req
  have b_req := F_req.binds (ps := ["_law_box_here", "_law_names_here"]) fun _ _ _ _ _ _ us hl => match us, hl with | [_, _], _ => rfl
  have F_rows := fun_mk (st := sRows) l_rows c_rows k_rows
  have g_rows : mg "_law_rows" = some (.ref _) := PySem.W.mg_of X G a_rows
  have b_rows := F_rows.binds (ps := ["_law_box_here", "_law_most"]) fun _ _ _ _ _ _ us hl => match us, hl with | [_, _], _ => rfl
  have F_says := fun_mk (st := sSays) l_says c_says k_says
  have g_says : mg "_law_says" = some (.ref _) := PySem.W.mg_of X G a_says
  have b_says := F_says.binds (ps := ["_law_found", "_law_due"]) fun _ _ _ _ _ _ us hl => match us, hl with | [_, _], _ => rfl
  have F_shu := fun_mk (st := sShu) l_shu c_shu k_shu
  have g_shu : mg "_law_shuffled" = some (.ref _) := PySem.W.mg_of X G a_shu
  have b_shu := F_shu.binds (ps := ["_law_box_here", "_law_values"]) fun _ _ _ _ _ _ us hl => match us, hl with | [_, _], _ => rfl
  have F_bu := fun_mk (st := sBu) l_bu c_bu k_bu
  have g_bu : mg "_law_as_built" = some (.ref _) := PySem.W.mg_of X G a_bu
  have b_bu := F_bu.binds (ps := ["_law_network", "_law_rows_here"]) fun _ _ _ _ _ _ us hl => match us, hl with | [_, _], _ => rfl
  have F_or6 := fun_mk (st := sOr) l_or6 c_or6 k_or6
  have g_or6 : mg "_law_other_rows" = some (.ref _) := PySem.W.mg_of X G a_or6
  have b_or6 := F_or6.binds (ps := ["_law_box_here", "_law_rows_here"]) fun _ _ _ _ _ _ us hl => match us, hl with | [_, _], _ => rfl
  have F_law := fun_mk (st := sLaw) l_law c_law k_law
  have g_law : mg "law" = some (.ref _) := PySem.W.mg_of X G a_law
  have b_law := F_law.binds (ps := ["_law_script"]) fun _ _ _ _ _ _ us hl => match us, hl with | [_], _ => rfl
  have F_ini : FunD K "__init__" "Network.__init__" (defArgs sNi) (defBody sNi) (defScope sNi) [.ref eA] [] f_ini (PySem.W.fnOf "__init__" "Network.__init__" (defArgs sNi) (defBody sNi) (defScope sNi) (.ref dT) kV_ini dc_ini pm_ini an_ini cd_ini ct_ini) :=
    ⟨⟨_, _, _, _, _, _, _, _, _, _, rfl, l_ini, c_ini, .inr ⟨by simp, dT, _, [.ref eA], nT, rfl, y_dT, rfl, .cons rfl .nil⟩, .inl rfl⟩, k_ini⟩
  obtain ⟨ds, vds, b_ini⟩ := F_ini.binds1 (ps := ["self", "rows"]) 2 1 (by simp) rfl (fun T kV doc pm an cdv ct us its h1 h2 => match us, its, h1, h2 with | [_, _], [_], _, _ => ⟨_, rfl, rfl⟩)
  have eds : ds = [] := by
    cases vds
    rfl
  subst eds
  have ON : OwnN K C := ⟨o_1, o_2, o_3, o_4, kit_self C⟩
  have nT : Not K C "tuple" := not_of c_1 c_2 s_T
  have nL : Not K C "list" := not_of c_1 c_2 s_L
  have nS : Not K C "str" := not_of c_1 c_2 s_S
  have nN : Not K C "NoneType" := not_of c_1 c_2 s_N
  have nI : Not K C "int" := not_of c_1 c_2 s_I
  obtain ⟨ds0, v_ini0, b_ini0⟩ := F_ini.binds1 (ps := ["self", "rows"]) 1 0 (by simp) rfl (fun T kV doc pm an cdv ct us its h1 h2 => match us, its, h1, h2 with | [_], [_], _, _ => ⟨_, rfl, rfl⟩)
  have hE0 : ∀ H : Hp, SqT K H eA [] := fun H => .inr ⟨_, #[], nA, y_eA, rfl, rfl, Nat.zero_le _, .nil⟩
  refine ⟨PySem.W.fnOf "law" "law" (defArgs sLaw) (defBody sLaw) (defScope sLaw) .none kV_law dc_law pm_law an_law cd_law ct_law, fun s v => .of_eq rfl, fun base _ _ => ?_⟩
  have G_take : FnOk l.prog w K mg base CX0 2 _ _ _ spTake := ok_take (k := 0) F_take F_mix b_mix g_mix T0.len T0.max
  have G_nam : FnOk l.prog w K mg base CX0 3 _ _ _ spNames := ok_names F_nam F_take b_take g_take G_take T0.rng
  have G_som : FnOk l.prog w K mg base CX0 3 _ _ _ spSome := ok_some F_som F_take b_take g_take G_take T0.rng T0.len T0.lst
  have G_cnt : FnOk l.prog w K mg base CX0 3 _ _ _ spCount := ok_count F_cnt F_take b_take g_take G_take T0.min
  have G_lis : FnOk l.prog w K mg base CX0 3 _ _ _ spLis := ok_lis (k := 2) F_lis T0
  have G_req : FnOk l.prog w K mg base CX0 4 _ _ _ spReq := ok_req (k := 3) F_req F_take b_take g_take (G_take.mono (by decide)) F_som b_som g_som G_som F_cnt b_cnt g_cnt G_cnt F_lis b_lis g_lis G_lis (by decide) T0
  have G_box : FnOk l.prog w K mg base CX0 1 _ _ _ (spBox K) := ok_box (k := 0) F_box
  have G_nwr : FnOk l.prog w K mg base CX0 2 _ _ _ (spNwr fun _ => True) := ok_nwr_all F_nwr b_nwr g_nwr T0
  have G_ns : FnOk l.prog w K mg base CX0 2 _ _ _ (spNs K) := ok_ns (k := 1) F_ns T0.tup T0.srt T0.set
  have G_nin : FnOk l.prog w K mg base CX0 3 _ _ _ spNin := ok_nin F_nin F_ns b_ns g_ns F_nwr b_nwr g_nwr G_ns G_nwr
  have G_says : FnOk l.prog w K mg base CX0 1 _ _ _ spSays := ok_says (k := 0) F_says T0
  have G_isn : FnOk l.prog w K mg base CX0 1 _ _ _ (spIn K) := ok_isname (k := 0) F_isn T
  have G_ct : FnOk l.prog w K mg base CX0 2 _ _ _ spCt := ok_counted (k := 0) F_ct T F_who b_who g_who
  have G_hd : FnOk l.prog w K mg base CX0 1 _ _ _ (spHd K) := ok_dup (k := 0) F_hd T
  have G_sr : FnOk l.prog w K mg base CX0 3 _ _ _ spSr := ok_simple (k := 2) F_sr T F_ct b_ct g_ct G_ct F_isn b_isn g_isn (G_isn.mono (by decide)) F_hd b_hd g_hd (G_hd.mono (by decide))
  have G_ir : FnOk l.prog w K mg base CX0 4 _ _ _ spIr := ok_isreq (k := 3) F_ir T F_ct b_ct g_ct (G_ct.mono (by decide)) F_isn b_isn g_isn (G_isn.mono (by decide)) F_sr b_sr g_sr G_sr F_hd b_hd g_hd (G_hd.mono (by decide)) F_nwr b_nwr g_nwr (G_nwr.mono (by decide))
  have G_shuV : FnOk l.prog w K mg base CX0 3 _ _ _ (spShuV K) := ok_shuffledV F_shu F_take b_take g_take G_take T
  have G_cu : FnOk l.prog w K mg base CX0 5 _ _ _ spCu := ok_used (k := 4) F_cu T F_nin b_nin g_nin (G_nin.mono (by decide))
  have G_nn : FnOk l.prog w K mg base CX0 1 _ _ _ (spNn C) := ok_nodenames (k := 0) F_nn T TX
  have G_cn : FnOk l.prog w K mg base CX0 1 _ _ _ (spCn K C) := ok_checknodes (k := 0) F_cn T TX
  have G_ro : FnOk l.prog w K mg base CX0 2 _ _ _ (spRo C) := ok_reqof (k := 1) F_ro T TX M_cn b_cn (G_cn.mono (by decide))
  have G_rowsG : FnOk l.prog w K mg base CX0 5 _ _ _ spRowsG := ok_rowsG (k := 4) F_rows F_take b_take g_take (G_take.mono (by decide)) F_nam b_nam g_nam (G_nam.mono (by decide)) F_req b_req g_req (G_req.mono (by decide)) T0
  have G_ar : FnOk l.prog w K mg base CX0 1 _ _ _ (spAr C) := ok_asrows (k := 0) F_ar T TX
  have G_rbM : FnOk l.prog w K mg base CX0 5 _ _ _ (spRbM K) := ok_bynameM (k := 4) F_rb T F_isn b_isn g_isn (G_isn.mono (by decide)) F_ir b_ir g_ir (G_ir.mono (by decide))
  have G_iniM : FnOk l.prog w K mg base CX0 6 _ _ _ (spNiM K C) := ok_netinitM (k := 5) F_ini T TX F_rb b_rb g_rb (G_rbM.mono (by decide)) F_cu b_cu g_cu (G_cu.mono (by decide))
  have G_eqn : FnOk l.prog w K mg base CX0 1 _ _ _ (spEqN K C) := ok_eqN (k := 0) F_eqn T TX ON
  have G_len : FnOk l.prog w K mg base CX0 1 _ _ _ (spLen C) := ok_lenN (k := 0) F_len T TX
  have G_bu : FnOk l.prog w K mg base CX0 4 _ _ _ (spBu K C) := ok_bu (k := 2) F_bu T TX M_ar b_ar (G_ar.mono (by decide)) M_nn b_nn (G_nn.mono (by decide)) M_ro b_ro (G_ro.mono (by decide)) a_len i_len b_len (G_len.mono (by decide))
  have G_or6 : FnOk l.prog w K mg base CX0 5 _ _ _ spOr := ok_or (k := 4) F_or6 T F_take b_take g_take (G_take.mono (by decide)) F_req b_req g_req (G_req.mono (by decide))
  exact ok_law (k := 6) F_law T TX ON nT nL nS nN nI (by unfold PySem.W.notFirst; rw [beq_self_eq_true]; rfl) F_box b_box g_box (G_box.mono (by decide)) F_take b_take g_take (G_take.mono (by decide)) F_rows b_rows g_rows (G_rowsG.mono (by decide)) F_bu b_bu g_bu (G_bu.mono (by decide)) ⟨w_mk, a_ini, i_ini, w_kc⟩ b_ini (G_iniM.mono (by decide)) b_ini0 v_ini0 hE0 F_shu b_shu g_shu (G_shuV.mono (by decide)) F_or6 b_or6 g_or6 (G_or6.mono (by decide)) F_says b_says g_says (G_says.mono (by decide)) M_ar b_ar (G_ar.mono (by decide)) M_nn b_nn (G_nn.mono (by decide)) a_eqn i_eqn o_5 b_eqn (G_eqn.mono (by decide))
end Moot
open PySem PySem.W PyProof.Rows
set_option maxRecDepth 100000 in
set_option maxHeartbeats 0 in
theorem PySem.Challenge.cw_oathmoot_k06_networks_made_holds : PySem.Challenge.rw_oathmoot_k06_networks_made.Holds := by
  w_on; o_law; k_head; (case hw => w_witness2)
  k_fill
  refine L2.walk_of (l := PySem.Challenge.rw_oathmoot_k06_networks_made) (n := 63) (k := 8) (x := "_law_script") (CX := fun _ => L2.CX0) (sp := fun w => Moot.spLaw _) rfl (by decide) rfl ⟨rfl, by decide, by decide⟩ (fun w h Y => PySem.W.kIn_of Y) ?F (fun _ _ a ns hl _ hS => ⟨a, ns, rfl, hS, hl, fun _ => rfl⟩) (fun _ _ _ _ _ h => h)
  case F =>
    intro w mg fa h KX G hmg
    refine' Moot.all_mk KX G hmg ?aC ?y_eA ?o_1 ?o_2 ?o_3 ?o_4 ?o_5 ?c_1 ?c_2 ?s_T ?s_L ?s_S ?s_N ?s_I ?a_ns ?l_ns ?c_ns ?k_ns ?a_isn ?l_isn ?c_isn ?k_isn ?a_who ?l_who ?c_who ?k_who ?a_ct ?l_ct ?c_ct ?k_ct ?a_hd ?l_hd ?c_hd ?k_hd ?a_sr ?l_sr ?c_sr ?k_sr ?a_ir ?l_ir ?c_ir ?k_ir ?a_nwr ?l_nwr ?c_nwr ?k_nwr ?a_nin ?l_nin ?c_nin ?k_nin ?a_rb ?l_rb ?c_rb ?k_rb ?a_cu ?l_cu ?c_cu ?k_cu ?a_nn ?i_nn ?l_nn ?c_nn ?k_nn ?a_cn ?i_cn ?l_cn ?c_cn ?k_cn ?a_ro ?i_ro ?l_ro ?c_ro ?k_ro ?a_ar ?i_ar ?l_ar ?c_ar ?k_ar ?a_eqn ?i_eqn ?l_eqn ?c_eqn ?k_eqn ?a_len ?i_len ?l_len ?c_len ?k_len ?a_box ?l_box ?c_box ?k_box ?a_mix ?l_mix ?c_mix ?k_mix ?a_take ?l_take ?c_take ?k_take ?a_nam ?l_nam ?c_nam ?k_nam ?a_som ?l_som ?c_som ?k_som ?a_cnt ?l_cnt ?c_cnt ?k_cnt ?a_lis ?l_lis ?c_lis ?k_lis ?a_req ?l_req ?c_req ?k_req ?a_rows ?l_rows ?c_rows ?k_rows ?a_says ?l_says ?c_says ?k_says ?a_shu ?l_shu ?c_shu ?k_shu ?a_bu ?l_bu ?c_bu ?k_bu ?a_or6 ?l_or6 ?c_or6 ?k_or6 ?a_law ?l_law ?c_law ?k_law ?a_ini ?i_ini ?l_ini ?c_ini ?k_ini ?y_dT ?y_let ?y_lon ?y_mn ?y_md ?w_pg ?w_hd ?w_po ?w_sa ?w_mk ?w_kc ?w_nR ?z_isi ?z_str ?z_len ?z_tup ?z_lst ?z_srt ?z_set ?z_rng ?z_int ?z_bool ?z_sum ?z_min ?z_max ?z_all ?z_any ?z_dict
    (case aC => k_is)
    (case o_1 => k_is); (case o_2 => k_is); (case o_3 => k_is); (case o_4 => k_is); (case o_5 => k_is); (case c_1 => k_is)
    (case c_2 => k_is); (case s_T => k_is); (case s_L => k_is); (case s_S => k_is); (case s_N => k_is); (case s_I => k_is)
    (case a_ns => k_is); (case l_ns => k_is); (case c_ns => k_is); (case k_ns => k_is); (case a_isn => k_is); (case l_isn => k_is); (case c_isn => k_is)
    (case k_isn => k_is); (case a_who => k_is); (case l_who => k_is); (case c_who => k_is); (case k_who => k_is); (case a_ct => k_is); (case l_ct => k_is); (case c_ct => k_is)
    (case k_ct => k_is); (case a_hd => k_is); (case l_hd => k_is); (case c_hd => k_is); (case k_hd => k_is); (case a_sr => k_is); (case l_sr => k_is); (case c_sr => k_is)
    (case k_sr => k_is); (case a_ir => k_is); (case l_ir => k_is); (case c_ir => k_is); (case k_ir => k_is); (case a_nwr => k_is); (case l_nwr => k_is); (case c_nwr => k_is)
    (case k_nwr => k_is); (case a_nin => k_is); (case l_nin => k_is); (case c_nin => k_is); (case k_nin => k_is); (case a_rb => k_is); (case l_rb => k_is); (case c_rb => k_is)
    (case k_rb => k_is); (case a_cu => k_is); (case l_cu => k_is); (case c_cu => k_is); (case k_cu => k_is); (case a_nn => k_is); (case i_nn => k_is); (case l_nn => k_is)
    (case c_nn => k_is); (case k_nn => k_is); (case a_cn => k_is); (case i_cn => k_is); (case l_cn => k_is); (case c_cn => k_is); (case k_cn => k_is); (case a_ro => k_is)
    (case i_ro => k_is); (case l_ro => k_is); (case c_ro => k_is); (case k_ro => k_is); (case a_ar => k_is); (case i_ar => k_is); (case l_ar => k_is); (case c_ar => k_is)
    (case k_ar => k_is); (case a_eqn => k_is); (case i_eqn => k_is); (case l_eqn => k_is); (case c_eqn => k_is); (case k_eqn => k_is); (case a_len => k_is); (case i_len => k_is)
    (case l_len => k_is); (case c_len => k_is); (case k_len => k_is); (case a_box => k_is); (case l_box => k_is); (case c_box => k_is); (case k_box => k_is); (case a_mix => k_is)
    (case l_mix => k_is); (case c_mix => k_is); (case k_mix => k_is); (case a_take => k_is); (case l_take => k_is); (case c_take => k_is); (case k_take => k_is); (case a_nam => k_is)
    (case l_nam => k_is); (case c_nam => k_is); (case k_nam => k_is); (case a_som => k_is); (case l_som => k_is); (case c_som => k_is); (case k_som => k_is); (case a_cnt => k_is)
    (case l_cnt => k_is); (case c_cnt => k_is); (case k_cnt => k_is); (case a_lis => k_is); (case l_lis => k_is); (case c_lis => k_is); (case k_lis => k_is); (case a_req => k_is)
    (case l_req => k_is); (case c_req => k_is); (case k_req => k_is); (case a_rows => k_is); (case l_rows => k_is); (case c_rows => k_is); (case k_rows => k_is); (case a_says => k_is)
    (case l_says => k_is); (case c_says => k_is); (case k_says => k_is); (case a_shu => k_is); (case l_shu => k_is); (case c_shu => k_is); (case k_shu => k_is); (case a_bu => k_is)
    (case l_bu => k_is); (case c_bu => k_is); (case k_bu => k_is); (case a_or6 => k_is); (case l_or6 => k_is); (case c_or6 => k_is); (case k_or6 => k_is); (case a_law => k_is)
    (case l_law => k_is); (case c_law => k_is); (case k_law => k_is); (case a_ini => k_is); (case i_ini => k_is); (case l_ini => k_is); (case c_ini => k_is); (case k_ini => k_is)
    (case y_dT => k_is); (case y_let => k_is); (case y_lon => k_is); (case y_mn => k_is); (case y_md => k_is); (case w_pg => k_is); (case w_hd => k_is); (case w_po => k_is)
    (case w_sa => k_is); (case w_mk => k_is); (case w_kc => k_is); (case w_nR => k_is); (case z_isi => k_is); (case z_str => k_is); (case z_len => k_is); (case z_tup => k_is)
    (case z_lst => k_is); (case z_srt => k_is); (case z_set => k_is); (case z_rng => k_is); (case z_int => k_is); (case z_bool => k_is); (case z_sum => k_is); (case z_min => k_is)
    (case z_max => k_is); (case z_all => k_is); (case z_any => k_is); (case z_dict => k_is)
    (case y_eA => k_is)
