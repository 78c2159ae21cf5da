import PyProof.Rows.All
import Wide.All
import OpenK.AllK
import Wide.FinOn
import HandS.ForMost
import HandS.Strs
import HandS.Zip
import HandS.IsInst
import HandS.WordsExc
import HandS.Style
import HandS.Lambda
import KE.KExcIs
import HandS.ExcIs
import PySem.Challenge.RW_labelclocks_k01_trails_lead_to_words
import HandS.DeepEq
import HandS.Walk
import HandS.ExcOwn
import HandS.TupAny
import HandS.CallLocal
import HandS.EndTab
import KE.KNestM
set_option Elab.async false
set_option linter.all false
set_option pp.maxSteps 900
set_option maxRecDepth 100000
set_option maxHeartbeats 2000000
/-! the set of a list of texts, however many (below 1000) -/
namespace K1
open PySem PySem.Spec PyProof.Rows
def grow (a : List Str) (x : Str) : List Str := if a.any (· == x) = true then a else a ++ [x]
def met (xs : List Str) : List Str := xs.foldl grow []
theorem met_step {xs : List Str} {i : Nat} {x : Str} (h : xs[i]? = some x) : met (xs.take (i + 1)) = grow (met (xs.take i)) x := by
  have e : xs.take (i + 1) = xs.take i ++ [x] := by rw [List.take_succ, h] <;> rfl
  unfold met
  rw [e, List.foldl_append]
  rfl
theorem grow_len (a : List Str) (x : Str) : (grow a x).length ≤ a.length + 1 := by
  unfold grow
  split
  · omega
  · rw [List.length_append]
    exact Nat.le_refl _
theorem fold_len : ∀ (xs a : List Str), (xs.foldl grow a).length ≤ a.length + xs.length
  | [], a => Nat.le_refl _
  | x :: xs, a => by
    have h1 := fold_len xs (grow a x)
    have h2 := grow_len a x
    show (xs.foldl grow (grow a x)).length ≤ a.length + (xs.length + 1)
    omega
theorem met_len (xs : List Str) : (met xs).length ≤ xs.length := by
  have h := fold_len xs []
  show (xs.foldl grow []).length ≤ xs.length
  simpa using h
theorem grow_any (a : List Str) (x k : Str) : (grow a x).any (· == k) = (a.any (· == k) || decide (k = x)) := by
  unfold grow
  split
  · rename_i h
    by_cases e : k = x
    · rw [e, h]
      rfl
    · rw [decide_eq_false e, Bool.or_false]
  · rw [List.any_append]
    by_cases e : k = x
    · rw [e, decide_eq_true rfl]
      simp
    · rw [decide_eq_false e]
      have : ([x].any (· == k)) = false := by simpa [beq_iff_eq] using fun h : x = k => e h.symm
      rw [this]
def txtSet (P : Program) (w : World) (h : Heap) (a : Addr) (l : List Str) : Prop := h.SetOf (PySem.strKind P w) a (fun k => l.any (· == k)) l.length
section
variable {P : Program} {w : World} {A : Around}
theorem txtSet_same {h h' : Heap} {a : Addr} {l : List Str} (z : txtSet P w h a l) (k : ∀ o, h.get? a = some o → h'.get? a = some o) : txtSet P w h' a l := by
  obtain ⟨o, es, ep, t, ho, r⟩ := z
  exact ⟨o, es, ep, t, k o ho, r⟩
theorem txtSet_fresh {h : Heap} {a : Addr} {led : Bool} (e : h.get? a = some { cls := .type "set", dict := none, data := .set #[] 0 (.fresh 0 0 led) }) : txtSet P w h a [] :=
  SetOf_congr ((setObjOf_fresh (knd := PySem.strKind P w) led).setOf e (by decide)) (fun _ => rfl) rfl
/-- the texts still to come, one by one -/
theorem update_txt {R : Result → Shared → Prop} {I : Addr} {fp wr : List Addr} {G : Array GenState → Array GenState → Prop} {n : Nat} {Pv : Nat → Value → Prop} {St : Nat → Shared → Prop}
    (W : WalksS P w A.in1 I fp wr G n Pv St) {a : Addr} (ha : a ∉ fp) {xs : List Str} (hn : xs.length = n) (few : xs.length < 1000) (hv : ∀ i v, Pv i v → ∃ x t, xs[i]? = some x ∧ v = .str x t) :
    ∀ (m i : Nat) (s : Shared), n - i = m → i ≤ n → St i s → txtSet P w s.heap a (met (xs.take i)) →
      (∀ s', Moved (a :: wr) G s s' → txtSet P w s'.heap a (met xs) → R (.ok (.ret .none)) s') → codeAny (model P w) A (.builtin "set.update.loop" ⟨[.ref a, .ref I], []⟩) R s := by
  have aw : a ∉ wr := fun z => ha (W.sub _ z)
  have up : ∀ b ∈ wr, b ∈ a :: wr := fun b z => List.mem_cons_of_mem _ z
  intro m
  induction m with
  | zero =>
    intro i s e hi st z hR
    obtain rfl : i = n := by omega
    refine codeAny_builtin F.entry_set_update_loop ?_
    rw [Around.under_plainId F.plain_set_update_loop _]
    refine wpAny_bind (W.done s _ _ st fun s' mv => ?_)
    refine wpAny_pure (hR s' (mv.mono up) ?_)
    have z' := txtSet_same z fun o q => mv.heap a o aw q
    rw [← hn, List.take_length] at z'
    exact z'
  | succ m ih =>
    intro i s e hi st z hR
    refine codeAny_builtin F.entry_set_update_loop ?_
    rw [Around.under_plainId F.plain_set_update_loop _]
    refine wpAny_bind (W.item i s _ _ (by omega) st fun v s' hp st' mv => ?_)
    obtain ⟨x, t, hx, rfl⟩ := hv i v hp
    have z' := txtSet_same z fun o q => mv.heap a o aw q
    have hl := met_len (xs.take i)
    rw [List.length_take] at hl
    refine wpAny_bind (wpAny_holding ?_)
    unfold setAdd
    refine wpAny_holding (wpAny_bind ((PySem.strKind P w).pyHash (k := x) (strKind_is _ _ _ _) ?_))
    refine wpAny_setAddHashed_of (knd := PySem.strKind P w) (s := { s' with toks := s'.toks + 1 }) (strKind_is _ _ _ _) rfl z' (by unfold scanBound; omega) fun h' sb z2 => ?_
    have z3 : txtSet P w h' a (met (xs.take (i + 1))) := by
      rw [met_step hx]
      refine SetOf_congr z2 (fun k => (grow_any _ _ _).symm) ?_
      unfold grow
      split <;> simp
    refine wpAny_pure ⟨plainId_quiet F.plain_set_update_loop _, ih (i + 1) _ (by omega) (by omega) (W.frame _ s' _ _ st' (Nat.le_succ _) fun b hb o q => ?_) z3 fun s2 mv2 z4 => ?_⟩
    · exact (sb.2 b fun q2 => ha (q2 ▸ hb)).trans q
    · refine hR s2 (Moved.trans W.gtrans ((mv.mono up).then_heap (Nat.le_succ _) fun b o hb q => ?_) mv2) z4
      exact (sb.2 b fun q2 => hb (q2 ▸ List.mem_cons_self)).trans q
end
end K1

set_option Elab.async false
set_option linter.all false
set_option pp.maxSteps 900
set_option maxRecDepth 100000
set_option maxHeartbeats 4000000
namespace K1
open PySem PySem.Spec PyProof.Rows
/-- a set as it is made, empty -/
abbrev emptyS (led : Bool) : Obj := { cls := .type "set", dict := none, data := .set #[] 0 (.fresh 0 0 led) }
section
variable {P : Program} {w : World} {A : Around} {E : Value → Shared → Prop} {s : Shared}
theorem strs_get : ∀ {us : List Value} {xs : List Str}, StrsAre us xs → ∀ (i : Nat) (v : Value), us[i]? = some v → ∃ x t, xs[i]? = some x ∧ v = .str x t
  | _, _, .nil, i, v, h => by cases h
  | _, _, .cons x t r, 0, v, h => ⟨x, t, rfl, (Option.some.inj h).symm⟩
  | _, _, .cons x t r, i + 1, v, h => strs_get r i v h
/-- set.__init__ of the new set at the heap's end -/
theorem init_txt {l : Addr} {items : Array Value} {xs : List Str} {led : Bool} (hh : A.handled = none) (hl : s.heap.IsList l items) (hi : StrsAre items.toList xs) (few : xs.length < 1000) :
    codeAny (model P w) A (.call (.builtin "set.__init__") ⟨[.ref s.heap.objs.size, .ref l], []⟩)
      (wants (fun r s2 => r = .none ∧ ∃ h' tk, s2 = { s with heap := h', toks := tk } ∧ txtSet P w h' s.heap.objs.size (met xs) ∧ ∀ b o, s.heap.get? b = some o → h'.get? b = some o) E) { s with heap := s.heap.push (emptyS led) } := by
  have at_ : (s.heap.push (emptyS led)).get? s.heap.objs.size = some (emptyS led) := Heap.get?_push_size _ rfl
  have ty : Shared.TypeIs { s with heap := s.heap.push (emptyS led) } (.ref s.heap.objs.size) "set" := ⟨_, at_, rfl⟩
  refine codeAny_call_builtin PySem.F.called_set.init.plain PySem.F.entry_set_init (check_set_init_1 ty ?_)
  obtain ⟨⟨ocls, odict, odata, oslots⟩, hol, hcl, nl, hdl⟩ := hl
  cases (show ocls = .type "list" from hcl)
  cases (show odata = .seq items nl from hdl)
  have ll : l < s.heap.objs.size := Heap.lt_size hol
  have size1 : (s.heap.push (emptyS led)).objs.size = s.heap.objs.size + 1 := Heap.size_push ..
  have hol' : (s.heap.push (emptyS led)).get? l = some { cls := .type "list", dict := odict, data := .seq items nl, slots := oslots } := Heap.get?_push_of_some _ hol
  have isl : (s.heap.push (emptyS led)).IsList l items := ⟨_, hol', rfl, nl, rfl⟩
  have s1 := PySem.F.sub_list_set
  have s2 := PySem.F.sub_list_frozenset
  have s3 : (Value.type "list" == Value.type "dict") = false := by decide
  unfold Builtin.«set.__init__» noKeywords Builtin.Frozenset.updateFrom
  generalize hPI : pyIter = PI
  wp_walk
  subst hPI
  refine wpAny_pyIter_list isl (wpAny_bind (wpAny_runValue ?_))
  have h3 : A.in1.in1.handled = none := by simp [hh]
  have nI : l ≠ (s.heap.push (emptyS led)).objs.size := by rw [size1]; exact Nat.ne_of_lt (Nat.lt_succ_of_lt ll)
  have nS : s.heap.objs.size ∉ [(s.heap.push (emptyS led)).objs.size, l] := by
    simp only [List.mem_cons, List.not_mem_nil, or_false, not_or]
    exact ⟨by rw [size1]; exact Nat.ne_of_lt (Nat.lt_succ_self _), Nat.ne_of_gt ll⟩
  have hn : xs.length = items.size := by rw [← StrsAre.len_eq hi, Array.length_toList]
  refine update_txt ((Walks.list h3 _ l nI items).toS) nS hn few (fun i v e => strs_get hi i v (by rw [Array.getElem?_toList]; exact e)) (items.size - 0) 0 _ rfl (Nat.zero_le _)
    ?_ ?_ ?_
  · exact ⟨⟨_, Heap.get?_push_size _ rfl, rfl, rfl⟩, isl.push _⟩
  · exact txtSet_fresh (Heap.get?_push_of_some _ at_)
  · intro s' mv z
    obtain ⟨h', g', d', tk', os'⟩ := s'
    cases (show g' = s.gens from mv.gens)
    cases (show d' = s.drawn from mv.drawn)
    cases (show os' = s.os from mv.os)
    show wpAny _ _ _ _ _ _
    refine wpAny_pure ?_
    show wpAny _ _ (ret Value.none) _ _ _
    refine wpAny_pure ⟨rfl, h', tk', rfl, z, fun b o q => ?_⟩
    have lb := Heap.lt_size q
    refine mv.heap b o ?_ (Heap.get?_push_of_some _ (Heap.get?_push_of_some _ q))
    simp only [List.mem_cons, List.not_mem_nil, or_false, not_or]
    exact ⟨Nat.ne_of_lt lb, by rw [size1]; exact Nat.ne_of_lt (Nat.lt_succ_of_lt lb)⟩
/-- set(xs), xs a list of texts -/
theorem set_txts {l : Addr} {items : Array Value} {xs : List Str} {Q : Value → Shared → Prop} (hh : A.handled = none) (hl : s.heap.IsList l items) (hi : StrsAre items.toList xs) (few : xs.length < 1000)
    (h : ∀ (h' : Heap) (tk : Nat), txtSet P w h' s.heap.objs.size (met xs) → (∀ b o, s.heap.get? b = some o → h'.get? b = some o) → Q (.ref s.heap.objs.size) { s with heap := h', toks := tk }) :
    wpAny (model P w) A (call (.type "set") [.ref l]) Q E s := by
  obtain ⟨c, tl, mro⟩ := PySem.F.called_set.mro
  have m1 := PySem.F.called_set.made
  have m2 := PySem.F.called_set.sub
  refine wpAny_call (codeAny_of_tree ?_)
  show wpAny _ _ (callAny (.type "set") _) _ _ _
  refine wpAny_pure ⟨Code.quiet_builtin _ (by decide +kernel), codeAny_builtin PySem.F.entry_type_call ?_⟩
  rw [Around.under_plain (weight_type_call_type "set" [.ref l] []) rfl]
  have m3 := PySem.F.called_set.notType
  have m4 := PySem.F.called_set.canCreate
  have m5 := PySem.F.typeCall_set_1 (.ref l)
  repeat any_goals first | assumption | wp_step
  refine codeAny_mono (code_set_new_1 (.ref l) (E := E) (Q₁ := fun v s1 => ∃ led, v = .ref s.heap.objs.size ∧ s1 = { s with heap := s.heap.push (emptyS led) }) fun led => ⟨led, rfl, rfl⟩) fun r s1 hr => ?_
  match r, hr with
  | .error e, hr => exact hr
  | .ok .next, hr => exact hr.elim
  | .ok .brk, hr => exact hr.elim
  | .ok .cont, hr => exact hr.elim
  | .ok (.ret v), hr =>
    obtain ⟨led, rfl, rfl⟩ := hr
    have ty : Shared.TypeIs { s with heap := s.heap.push (emptyS led) } (.ref s.heap.objs.size) "set" := ⟨_, Heap.get?_push_size _ rfl, rfl⟩
    have m6 := PySem.F.called_set.init.lookup
    have m7 := PySem.F.called_set.init.bind (.ref s.heap.objs.size)
    repeat any_goals first | assumption | wp_step
    refine codeAny_mono (init_txt (E := E) (led := led) (by simp [hh]) hl hi few) fun r s2 hr => ?_
    match r, hr with
    | .error e, hr => exact hr
    | .ok .next, hr => exact hr.elim
    | .ok .brk, hr => exact hr.elim
    | .ok .cont, hr => exact hr.elim
    | .ok (.ret v), hr =>
      obtain ⟨rfl, h', tk, rfl, z, k⟩ := hr
      repeat any_goals first | assumption | wp_step
      exact h _ _ z k
end
end K1

set_option Elab.async false
set_option linter.all false
set_option pp.maxSteps 900
set_option maxRecDepth 100000
set_option maxHeartbeats 2000000
namespace K1
open PySem PySem.Spec PyProof.Rows L2
def tLenTxts (K : PySem.W.Frag) (ta : TE) : TE := fun σ H Q => ta σ H fun x H1 => ∃ (l : Addr) (xs : List Str), x = .ref l ∧ SqL K H1 l (xs.map V.str) ∧ xs.length < 1000 ∧ Q (.int ((met xs).length : Nat)) H1
theorem pe_lenTxts {X : Cx} {a : Expr} {ta : TE} {p p2 q pos : Pos} (hc : X.calm = true) (hg : Gl X "len") (hm : X.mg "len" = none) (hg2 : Gl X "set") (hm2 : X.mg "set" = none) (ha : PE X a ta)
    (na : starEach [a] X.env = (false, eval a X.env) :: starEach [] X.env := by rfl) : PE X (.Call (.Name "len" p) [.Call (.Name "set" p2) [a] [] q] [] pos) (tLenTxts X.K ta) := by
  constructor
  intro pins s σ H Q I h
  refine Call_ (ld_blt I hg hm boot_len (callWith_builtin1 (args_cons ?_ rfl) rfl rfl))
  refine Call_ (ld_blt I hg2 hm2 boot_set (callWith_type1 (args_cons (thn (ha.run pins s σ H _ I h) fun v s1 hv => args_nil ?_) na) na rfl))
  obtain ⟨x, H1, I1, r1, l, xs, rfl, hq, few, q1⟩ := hv
  obtain rfl : v = Value.ref l := r1
  obtain ⟨its, r, pl, hz⟩ := I1.list hq
  refine set_txts (I1.ok.hd hc) pl.isList (by simpa using strsAre_of r) few fun h' tk z k => args_nil ?_
  obtain ⟨o, es, ep, t, ho, hex, hd, _, _, _, hf, hn⟩ := z
  have I2 : Inv X pins σ H1 { s1 with heap := h', toks := tk } := I1.kept k
  have ml := met_len xs
  exact call_len_set ho hex hd hf (by rw [hn] <;> omega) ⟨.int ((met xs).length : Nat), H1, I2.tok _, ⟨_, by rw [hn]⟩, q1⟩
theorem grow_in {a : List Str} {x : Str} (h : x ∈ a) : grow a x = a := by
  have e : a.any (· == x) = true := List.any_eq_true.mpr ⟨x, h, beq_self_eq_true x⟩
  exact if_pos e
theorem grow_out {a : List Str} {x : Str} (h : x ∉ a) : grow a x = a ++ [x] := by
  have e : ¬ a.any (· == x) = true := fun z => by
    obtain ⟨y, hy, e⟩ := List.any_eq_true.mp z
    have e : y = x := eq_of_beq e
    exact h (e ▸ hy)
  exact if_neg e
theorem fold_nodup : ∀ (xs a : List Str), (∀ x ∈ xs, x ∉ a) → xs.Nodup → xs.foldl grow a = a ++ xs
  | [], a, _, _ => by simp
  | x :: xs, a, h, nd => by
    obtain ⟨h1, h2⟩ := List.nodup_cons.mp nd
    show xs.foldl grow (grow a x) = _
    rw [grow_out (h x List.mem_cons_self), fold_nodup xs (a ++ [x]) (fun y hy z => ?_) h2]
    · simp
    · rcases List.mem_append.mp z with z | z
      · exact h y (List.mem_cons_of_mem _ hy) z
      · exact h1 (List.mem_singleton.mp z ▸ hy)
theorem fold_dup : ∀ (xs a : List Str), (∃ x ∈ xs, x ∈ a) → (xs.foldl grow a).length < a.length + xs.length
  | x :: xs, a, h => by
    show (xs.foldl grow (grow a x)).length < a.length + (xs.length + 1)
    by_cases hx : x ∈ a
    · rw [grow_in hx]
      have := fold_len xs a
      omega
    · rw [grow_out hx]
      obtain ⟨y, hy, hya⟩ := h
      rcases List.mem_cons.mp hy with e | e
      · exact absurd (e ▸ hya) hx
      · have := fold_dup xs (a ++ [x]) ⟨y, e, List.mem_append_left _ hya⟩
        rw [List.length_append] at this
        simp only [List.length_cons, List.length_nil] at this
        omega
theorem fold_dup2 : ∀ (xs a : List Str), (∀ x ∈ xs, x ∉ a) → ¬ xs.Nodup → (xs.foldl grow a).length < a.length + xs.length
  | [], a, _, nd => absurd List.nodup_nil nd
  | x :: xs, a, h, nd => by
    show (xs.foldl grow (grow a x)).length < a.length + (xs.length + 1)
    rw [grow_out (h x List.mem_cons_self)]
    by_cases h1 : x ∈ xs
    · have := fold_dup xs (a ++ [x]) ⟨x, h1, List.mem_append_right _ (List.mem_singleton.mpr rfl)⟩
      rw [List.length_append] at this
      simp only [List.length_cons, List.length_nil] at this
      omega
    · have := fold_dup2 xs (a ++ [x]) (fun y hy z => by
        rcases List.mem_append.mp z with z | z
        · exact h y (List.mem_cons_of_mem _ hy) z
        · exact h1 (List.mem_singleton.mp z ▸ hy)) fun z => nd (List.nodup_cons.mpr ⟨h1, z⟩)
      rw [List.length_append] at this
      simp only [List.length_cons, List.length_nil] at this
      omega
theorem met_dup (xs : List Str) : decide ((met xs).length < xs.length) = !decide xs.Nodup := by
  by_cases h : xs.Nodup
  · have e : met xs = xs := fold_nodup xs [] (fun _ _ z => by cases z) h
    rw [e, decide_eq_true h, decide_eq_false (Nat.lt_irrefl _)]
    rfl
  · have e := fold_dup2 xs [] (fun _ _ z => by cases z) h
    rw [decide_eq_false h, decide_eq_true (by simpa [met] using e)]
    rfl
end K1

set_option Elab.async false
set_option linter.all false
set_option pp.maxSteps 700
set_option maxRecDepth 100000
set_option maxHeartbeats 2000000
namespace K1
open PySem PySem.Spec PyProof.Rows L2
open TL (tl)
def top (i : Nat) : Stmt := PySem.Challenge.pw_labelclocks_k01_trails_lead_to_words.main.body.getD i (.Pass ⟨0, 0, 0, 0⟩)
theorem ifT {c : Bool} {A B : Prop} (hc : c = true) (h : A) : if c = true then A else B := by
  rw [if_pos hc]
  exact h
theorem ifF {c : Bool} {A B : Prop} (hc : c = false) (h : B) : if c = true then A else B := by
  rw [hc, if_neg Bool.false_ne_true]
  exact h
theorem while_m {c : TT} {tb : TS} {D : Ends} {σ : L2.St} {H : Hp} (Pv : Nat → L2.St → Hp → Prop) (m : Nat) (h0 : Pv m σ H)
    (hs : ∀ n σ H, Pv n σ H → c σ H fun b H1 => if b = true then ∃ N : L2.St → Hp → Prop, (∀ σ' H', N σ' H' → ∃ m', m' < n ∧ Pv m' σ' H') ∧ tb { D with nx := N, ct := N, bk := D.nx } σ H1 else D.nx σ H1) : tWhile c tb D σ H :=
  ⟨Pv, ⟨m, h0⟩, hs⟩
theorem same_new {H : Hp} {p : Addr} {o : HO} (h : H p = none) : Same H (upd H p o) := fun b u e => by
  rw [upd_ne (ne_of_none e h)]
  exact e
theorem paired_app {α β : Type} {F : α → β → Prop} : ∀ {a : List α} {b : List β} {a' : List α} {b' : List β}, Paired F a b → Paired F a' b' → Paired F (a ++ a') (b ++ b')
  | _, _, _, _, .nil, q => q
  | _, _, _, _, .cons r t, q => .cons r (paired_app t q)
theorem paired_len {α β : Type} {F : α → β → Prop} {a : List α} {b : List β} (p : Paired F a b) : a.length = b.length := Paired.length p
section
variable {X : Cx} {o e : Expr} {to te : TE} {apos cpos : Pos}
theorem qApp (ho : PE X o to) (he : PE X e te) (hbase : attributeBase o "append" X.env (eval o X.env) = eval o X.env := by rfl)
    (hfew : ((backTo cpos (starEach (e :: []) X.env)).all (fun x => !x.1) && (backToKw cpos (keywordEach [] X.env)).all (fun x => x.1.isSome)
      && decide ((e :: ([] : List Expr)).length + ([] : List Keyword).length + (if ([] : List Keyword).isEmpty then 0 else 1) < 30)) = true := by rfl)
    (hline : (apos.endLine == cpos.line) = true := by rfl) (hs : starEach (e :: []) X.env = (false, eval e X.env) :: starEach [] X.env := by rfl) (hplain : (backTo cpos (starEach [] X.env)).any (·.1) = false := by rfl) :
    PE X (.Call (.Attribute o "append" apos) [e] [] cpos) (tBM X.K "list" rAppend to (tCons te tNil)) :=
  pe_bm PySem.F.plainAttrs_list PySem.F.slot_list_append PySem.F.type_list_append mt_append ho (pa_cons he pa_nil hs) hbase hfew hline hs hplain
end
theorem while_q {c : TT} {tb : TS} {D : Ends} {σ : L2.St} {H : Hp} (Pv : Nat → L2.St → Hp → Prop) (m : Nat) (Post : L2.St → Hp → Prop) (h0 : Pv m σ H)
    (hs : ∀ X : L2.St → Hp → Prop, (∀ σ H, Post σ H → X σ H) → ∀ n σ H, Pv n σ H → c σ H fun b H1 => if b = true then ∃ N : L2.St → Hp → Prop, (∀ σ' H', N σ' H' → ∃ m', m' < n ∧ Pv m' σ' H') ∧ tb { D with nx := N, ct := N, bk := D.nx } σ H1 else X σ H1)
    (hp : ∀ σ H, Post σ H → D.nx σ H) : tWhile c tb D σ H :=
  ⟨Pv, ⟨m, h0⟩, hs D.nx hp⟩
abbrev sBeg : Stmt := top 34
abbrev sMix : Stmt := top 35
abbrev sDrw : Stmt := top 36
abbrev sPck : Stmt := top 37
/-! ### the state of the draws -/
theorem k12 : ¬ (Sum.inr ("great" : Str) : Key) = Sum.inr ("cells" : Str) := by decide +kernel
theorem k13 : ¬ (Sum.inr ("great" : Str) : Key) = Sum.inr ("rest" : Str) := by decide +kernel
theorem k14 : ¬ (Sum.inr ("great" : Str) : Key) = Sum.inr ("turn" : Str) := by decide +kernel
theorem k23 : ¬ (Sum.inr ("cells" : Str) : Key) = Sum.inr ("rest" : Str) := by decide +kernel
theorem k24 : ¬ (Sum.inr ("cells" : Str) : Key) = Sum.inr ("turn" : Str) := by decide +kernel
theorem k34 : ¬ (Sum.inr ("rest" : Str) : Key) = Sum.inr ("turn" : Str) := by decide +kernel
def StKV (g c : Addr) (r t : Int) : List (Key × V) := [(Sum.inr ("great" : Str), V.ref g), (Sum.inr ("cells" : Str), V.ref c), (Sum.inr ("rest" : Str), V.int r), (Sum.inr ("turn" : Str), V.int t)]
section
variable {g c d : Addr} {r t : Int} {H : Hp}
theorem v_great : valV (StKV g c r t) (Sum.inr ("great" : Str)) = some (.ref g) := valV_pos rfl
theorem v_cells : valV (StKV g c r t) (Sum.inr ("cells" : Str)) = some (.ref c) := (valV_neg k12).trans (valV_pos rfl)
theorem v_rest : valV (StKV g c r t) (Sum.inr ("rest" : Str)) = some (.int r) := (valV_neg k13).trans ((valV_neg k23).trans (valV_pos rfl))
theorem v_turn : valV (StKV g c r t) (Sum.inr ("turn" : Str)) = some (.int t) := (valV_neg k14).trans ((valV_neg k24).trans ((valV_neg k34).trans (valV_pos rfl)))
theorem p_rest (x : Int) : putK (StKV g c r t) (Sum.inr ("rest" : Str)) (.int x) = StKV g c x t := by
  unfold putK
  rw [valV_any, v_rest, if_pos (show (some (V.int r)).isSome = true from rfl)]
  unfold StKV
  simp only [List.map_cons, List.map_nil, if_neg k13, if_neg k23, if_pos, if_neg (Ne.symm k34 : ¬ (Sum.inr ("turn" : Str) : Key) = Sum.inr ("rest" : Str))]
theorem p_turn (x : Int) : putK (StKV g c r t) (Sum.inr ("turn" : Str)) (.int x) = StKV g c r x := by
  unfold putK
  rw [valV_any, v_turn, if_pos (show (some (V.int t)).isSome = true from rfl)]
  unfold StKV
  simp only [List.map_cons, List.map_nil, if_neg k14, if_neg k24, if_neg k34, if_pos]
theorem g_great (h : H d = some (.dK (StKV g c r t))) : DGet H d (.str ("great" : Str)) (some (.ref g)) := by
  have e := DGet.k (k := Sum.inr ("great" : Str)) h
  rw [v_great] at e
  exact e
theorem g_cells (h : H d = some (.dK (StKV g c r t))) : DGet H d (.str ("cells" : Str)) (some (.ref c)) := by
  have e := DGet.k (k := Sum.inr ("cells" : Str)) h
  rw [v_cells] at e
  exact e
theorem g_rest (h : H d = some (.dK (StKV g c r t))) : DGet H d (.str ("rest" : Str)) (some (.int r)) := by
  have e := DGet.k (k := Sum.inr ("rest" : Str)) h
  rw [v_rest] at e
  exact e
theorem g_turn (h : H d = some (.dK (StKV g c r t))) : DGet H d (.str ("turn" : Str)) (some (.int t)) := by
  have e := DGet.k (k := Sum.inr ("turn" : Str)) h
  rw [v_turn] at e
  exact e
theorem s_rest (h : H d = some (.dK (StKV g c r t))) (x : Int) : DPut H d (.str ("rest" : Str)) (.int x) (upd H d (.dK (StKV g c x t))) := by
  have e := DPut.k (k := Sum.inr ("rest" : Str)) (v := .int x) h (by rw [sizeLine_eq]; show 4 < _; omega)
  rw [p_rest] at e
  exact e
theorem s_turn (h : H d = some (.dK (StKV g c r t))) (x : Int) : DPut H d (.str ("turn" : Str)) (.int x) (upd H d (.dK (StKV g c r x))) := by
  have e := DPut.k (k := Sum.inr ("turn" : Str)) (v := .int x) h (by rw [sizeLine_eq]; show 4 < _; omega)
  rw [p_turn] at e
  exact e
end
/-- the state at d: great at g, cells at c; at most n turns were made -/
structure StX (H : Hp) (d g c : Addr) (n : Nat) (r t : Int) (gs cs : List Int) : Prop where
  dk : H d = some (.dK (StKV g c r t))
  gl : H g = some (.lst (gs.map V.int))
  cl : H c = some (.lst (cs.map V.int))
  gc : g ≠ c
  r0 : 0 ≤ r
  g0 : ∀ x ∈ gs, 0 ≤ x
  t0 : 0 ≤ t
  tn : t ≤ n
  gn : gs.length ≤ 63
  cn : cs.length ≤ 63
def StA (H : Hp) (d g c : Addr) (n : Nat) : Prop := ∃ r t gs cs, StX H d g c n r t gs cs
theorem StX.dg {H : Hp} {d g c : Addr} {n : Nat} {r t : Int} {gs cs : List Int} (S : StX H d g c n r t gs cs) : d ≠ g := ne_of S.dk S.gl (by intro z; cases z)
theorem StX.dc {H : Hp} {d g c : Addr} {n : Nat} {r t : Int} {gs cs : List Int} (S : StX H d g c n r t gs cs) : d ≠ c := ne_of S.dk S.cl (by intro z; cases z)
theorem StX.keep {H H' : Hp} {d g c : Addr} {n : Nat} {r t : Int} {gs cs : List Int} (S : StX H d g c n r t gs cs) (k : Same H H') : StX H' d g c n r t gs cs :=
  ⟨k _ _ S.dk, k _ _ S.gl, k _ _ S.cl, S.gc, S.r0, S.g0, S.t0, S.tn, S.gn, S.cn⟩
theorem StA.keep {H H' : Hp} {d g c : Addr} {n : Nat} (S : StA H d g c n) (k : Same H H') : StA H' d g c n := by
  obtain ⟨r, t, gs, cs, S⟩ := S
  exact ⟨r, t, gs, cs, S.keep k⟩
theorem StA.mono {H : Hp} {d g c : Addr} {n m : Nat} (S : StA H d g c n) (h : n ≤ m) : StA H d g c m := by
  obtain ⟨r, t, gs, cs, S⟩ := S
  exact ⟨r, t, gs, cs, S.dk, S.gl, S.cl, S.gc, S.r0, S.g0, S.t0, by have := S.tn; omega, S.gn, S.cn⟩
/-- all but the state's dict and great stay -/
def Kp (d g : Addr) (H H' : Hp) : Prop := ∀ b o, H b = some o → b ≠ d → b ≠ g → H' b = some o
theorem Kp.of {d g : Addr} {H H' : Hp} (s : Same H H') : Kp d g H H' := fun b o e _ _ => s b o e
theorem Kp.refl {d g : Addr} (H : Hp) : Kp d g H H := fun _ _ e _ _ => e
theorem Kp.trans {d g : Addr} {H H1 H2 : Hp} (a : Kp d g H H1) (b : Kp d g H1 H2) : Kp d g H H2 := fun c o e h1 h2 => b c o (a c o e h1 h2) h1 h2
theorem Kp.put {d g : Addr} {H : Hp} {o : HO} : Kp d g H (upd H d o) := fun b u e h1 _ => by
  rw [upd_ne h1]
  exact e
theorem Kp.putg {d g : Addr} {H : Hp} {o : HO} : Kp d g H (upd H g o) := fun b u e _ h2 => by
  rw [upd_ne h2]
  exact e
theorem StX.rest {H : Hp} {d g c : Addr} {n : Nat} {r t : Int} {gs cs : List Int} (S : StX H d g c n r t gs cs) {x : Int} (hx : 0 ≤ x) : StX (upd H d (.dK (StKV g c x t))) d g c n x t gs cs :=
  ⟨upd_same, by rw [upd_ne S.dg.symm]; exact S.gl, by rw [upd_ne S.dc.symm]; exact S.cl, S.gc, hx, S.g0, S.t0, S.tn, S.gn, S.cn⟩
theorem StX.turn {H : Hp} {d g c : Addr} {n : Nat} {r t : Int} {gs cs : List Int} (S : StX H d g c n r t gs cs) : StX (upd H d (.dK (StKV g c r (t + 1)))) d g c (n + 1) r (t + 1) gs cs :=
  ⟨upd_same, by rw [upd_ne S.dg.symm]; exact S.gl, by rw [upd_ne S.dc.symm]; exact S.cl, S.gc, S.r0, S.g0, by have := S.t0; omega, by have := S.tn; omega, S.gn, S.cn⟩
theorem dpInts {K : PySem.W.Frag} {H : Hp} : ∀ gs : List Int, DpAll K H (gs.map V.int) (gs.map PyData.int)
  | [] => .nil
  | x :: r => .cons (.int x) (dpInts r)
theorem layInts : ∀ gs : List Int, PyData.canLayAll0 (gs.map PyData.int) = true
  | [] => rfl
  | x :: r => by
    show (true && PyData.canLayAll0 (r.map PyData.int)) = true
    rw [layInts r]
    rfl
theorem depInts : ∀ gs : List Int, PyData.depthAll (gs.map PyData.int) = 0
  | [] => rfl
  | x :: r => by
    show max 0 (PyData.depthAll (r.map PyData.int)) = 0
    rw [depInts r]
    rfl
theorem shInts (gs : List Int) : SeqAt.shaped (.list (gs.map PyData.int)) = true := by
  unfold SeqAt.shaped
  show (PyData.canLayAll0 (gs.map PyData.int) && decide (PyData.depthAll (gs.map PyData.int) + 1 ≤ 64)) = true
  rw [layInts, depInts]
  rfl
def spMix : Sp := fun vs H Q _ => ∃ (d g c : Addr) (n : Nat), vs = [.ref d] ∧ StA H d g c n ∧ n ≤ 1000000000 ∧ ∀ (v : Int) (H' : Hp), 0 ≤ v → StA H' d g c (n + 1) → Kp d g H H' → Q (.int v) H'
def spDrw : Sp := fun vs H Q _ => ∃ (d g c : Addr) (n : Nat) (room : Int), vs = [.ref d, .int room] ∧ StA H d g c n ∧ n ≤ 1000000000 ∧ 0 < room ∧ room < 1073741824 ∧
  ∀ (v : Int) (H' : Hp), 0 ≤ v → v < room → StA H' d g c (n + 1) → Kp d g H H' → Q (.int v) H'
def spPck : Sp := fun vs H Q _ => ∃ (d g c a : Addr) (n : Nat) (xs : List V), vs = [.ref d, .ref a] ∧ StA H d g c n ∧ n ≤ 1000000000 ∧ H a = some (.lst xs) ∧ a ≠ g ∧ xs ≠ [] ∧ xs.length ≤ 1000000 ∧
  ∀ (v : V) (H' : Hp), v ∈ xs → StA H' d g c (n + 1) → Kp d g H H' → Q v H'
structure MgS (K : PySem.W.Frag) (mg : Str → Option Value) (fM fD : Addr) : Prop where
  int : mg "int" = none
  len : mg "len" = none
  mx : mg "_law_mixed" = some (.ref fM)
  kmx : PySem.W.keepIn K (.ref fM) = true
  dr : mg "_law_draw" = some (.ref fD)
  kdr : PySem.W.keepIn K (.ref fD) = true
section
variable {P : Program} {w : World} {K : PySem.W.Frag} {mg : Str → Option Value} {base : Heap}
theorem scMix : FnScope ["state", "turn", "found", "prime", "blend", "cell"] ["state"] (defScope sMix) := ⟨rfl, rfl, rfl, by decide +kernel, rfl, by decide +kernel, by decide +kernel⟩
theorem ok_mix {f fM fD : Addr} {fd : FuncData} (F : Fun K "_law_mixed" "_law_mixed" sMix f fd) (T : MgS K mg fM fD) : FnOk P w K mg base CX0 1 f fd ["state"] spMix := by
  refine F.ok scMix (fun vs H Q E h => ?_) (fun cdv A outer s H vs Q E hr h => ?_)
  · obtain ⟨d, g, c, n, rfl, _⟩ := h
    rfl
  · obtain ⟨d, g, c, n, rfl, ⟨r, t, gs, cs, S⟩, hn, k⟩ := h
    have hu := hu_of hr
    refine ⟨_, pss_cons (ps_par (i := 1) (j := 2) (by rfl) scMix.nd rfl rfl (by decide) rfl rfl (pa_cons (pe_op op_add (pe_dget hu (pv 0) pe_str (fun _ _ => rfl)) pe_int) (pa_cons pe_int pa_nil)) (by rfl))
      (pss_cons (ps_dput hu (pv 0) pe_str (pv 1) rfl)
      (pss_cons (ps_for PassesOwn.never rfl (pi_list (pe_lst (pa_cons pe_int (pa_cons pe_int (pa_cons pe_int (pa_cons pe_int pa_nil)))))) (pg_name (i := 3) scMix.nd rfl (Or.inl rfl))
        (pss_cons (ps_set (i := 4) scMix.nd rfl (Or.inl rfl) (pe_op op_add (pe_op op_mul pe_int (pv 1)) (pe_op op_fdivN (pv 3) pe_int)))
        (pss_cons (ps_for PassesOwn.never rfl (pi_list (pe_dget hu (pv 0) pe_str (fun _ _ => rfl))) (pg_name (i := 5) scMix.nd rfl (Or.inl rfl))
          (pss_one (ps_set (i := 4) scMix.nd rfl (Or.inl rfl) (pe_op op_mod (pe_callTy call_int1 (by rfl) T.int (by decide +kernel) (pa_cons (pe_op op_add (pe_op op_add (pe_op op_mul (pv 4) pe_int) (pv 5)) (pv 1)) pa_nil)) (pv 3)))))
        (pss_one (ps_set (i := 2) scMix.nd rfl (Or.inl rfl) (pe_op op_add (pe_op op_mul (pv 2) pe_int) (pe_op op_mod (pe_callTy call_int1 (by rfl) T.int (by decide +kernel) (pa_cons (pe_op op_pow (pv 4) pe_int) pa_nil)) (pv 3))))))))
      (pss_one (ps_ret (pv 2))))), ?_⟩
    refine ⟨_, rfl, d, _, rfl, g_turn S.dk, _, _, rfl, rfl, ⟨_, _, rfl, ?_⟩⟩
    refine ⟨_, rfl, _, rfl, d, _, rfl, s_turn S.dk _, ?_⟩
    have S1 := S.turn
    have t0 := S.t0
    have tn := S.tn
    refine ⟨(by show 4 ≤ sizeLine; decide), fun l hl => ?_⟩
    have S2 := S1.keep (same_new (o := .lst [V.int 2147483629, V.int 2147483647, V.int 2147483563, V.int 2147483587]) hl)
    have kp : Kp d g H (upd (upd H d (.dK (StKV g c r (t + 1)))) l (.lst [V.int 2147483629, V.int 2147483647, V.int 2147483563, V.int 2147483587])) := Kp.put.trans (Kp.of (same_new hl))
    generalize hH1 : upd (upd H d (.dK (StKV g c r (t + 1)))) l (.lst [V.int 2147483629, V.int 2147483647, V.int 2147483563, V.int 2147483587]) = H1 at S2 kp
    have hl1 : H1 l = some (.lst [V.int 2147483629, V.int 2147483647, V.int 2147483563, V.int 2147483587]) := by rw [← hH1, upd_same]
    refine ⟨l, rfl, ⟨_, SqL.of (by first | exact upd_same | exact hl1)⟩, for_list (K := K) (a := l) (xs := [V.int 2147483629, V.int 2147483647, V.int 2147483563, V.int 2147483587])
      (fun i σ H' => ∃ (fd : Int) (pv bv cv : Option V), σ = [some (.ref d), some (.int (t + 1)), some (.int fd), pv, bv, cv] ∧ 0 ≤ fd ∧ H' = H1) ⟨0, none, none, none, rfl, Int.le_refl _, by first | rfl | exact hH1⟩ (fun i σ H' _ ⟨_, _, _, _, _, _, e⟩ => by rw [e]; exact SqL.of hl1) ?_ ?_⟩
    · rintro i x σ H' hi ⟨fd, pv, bv, cv, rfl, hfd, rfl⟩
      have hm := List.mem_of_getElem? hi
      obtain ⟨pr, rfl, hp0, hp1⟩ : ∃ pr : Int, x = .int pr ∧ 0 < pr ∧ pr < 2147483648 := by
        simp only [List.mem_cons, List.not_mem_nil, or_false] at hm
        rcases hm with rfl | rfl | rfl | rfl
        · exact ⟨_, rfl, by decide, by decide⟩
        · exact ⟨_, rfl, by decide, by decide⟩
        · exact ⟨_, rfl, by decide, by decide⟩
        · exact ⟨_, rfl, by decide, by decide⟩
      have hq : pr.fdiv 41 = pr / 41 := Int.fdiv_eq_ediv_of_nonneg _ (by decide)
      refine ⟨_, rfl, _, _, rfl, rfl, .inl ⟨by decide, by decide⟩, _, rfl, _, _, rfl, rfl, ⟨by decide, by decide⟩, _, _, rfl, rfl, ?_⟩
      refine ⟨_, rfl, d, _, rfl, g_cells S2.dk, c, rfl, ⟨_, SqL.of S2.cl⟩, for_list (K := K) (a := c) (xs := cs.map V.int)
        (fun i σ H'' => ∃ (bl : Int) (cv : Option V), σ = [some (.ref d), some (.int (t + 1)), some (.int fd), some (.int pr), some (.int bl), cv] ∧ -9000000000000000000 < bl ∧ bl < 9000000000000000000 ∧ H'' = H') ⟨_, cv, rfl, by omega, by omega, rfl⟩ (fun i σ H'' _ ⟨_, _, _, _, _, e⟩ => by rw [e]; exact SqL.of S2.cl) ?_ ?_⟩
      · rintro j y σ H'' hj ⟨bl, cv2, rfl, hb1, hb2, rfl⟩
        rw [List.getElem?_map] at hj
        obtain ⟨z, _, rfl⟩ := Option.map_eq_some_iff.mp hj
        refine ⟨_, rfl, _, _, rfl, rfl, .inr ⟨by decide, by decide⟩, _, rfl, _, _, rfl, rfl, _, rfl, _, _, rfl, rfl, .inl ⟨_, rfl, _, rfl, _, _, rfl, rfl, hp0, ?_⟩⟩
        refine ⟨_, _, rfl, ?_, ?_, rfl⟩
        · have := Int.emod_nonneg (bl * 48271 + z + (t + 1)) (Int.ne_of_gt hp0)
          omega
        · have := Int.emod_lt_of_pos (bl * 48271 + z + (t + 1)) hp0
          omega
      · rintro σ H'' ⟨bl, cv2, rfl, hb1, hb2, rfl⟩
        refine ⟨_, rfl, _, _, rfl, rfl, .inr ⟨by decide, by decide⟩, _, rfl, _, _, rfl, rfl, ⟨by decide, by decide, by omega⟩, .inl ⟨_, rfl, _, rfl, _, _, rfl, rfl, hp0, _, _, rfl, rfl, ?_⟩⟩
        refine ⟨_, _, _, _, rfl, ?_, rfl⟩
        have := Int.emod_nonneg (bl ^ (5 : Int).toNat) (Int.ne_of_gt hp0)
        omega
    · rintro σ H' ⟨fd, pv, bv, cv, rfl, hfd, rfl⟩
      refine ⟨_, rfl, k fd H' hfd ⟨_, _, _, _, S2⟩ kp⟩
end
/-- a statement, a word of one's own, the rest -/
def tMid (t u : TS) : TS := fun D σ H => ∃ M : L2.St → Hp → Prop, t { D with nx := M } σ H ∧ ∀ σ1 H1, M σ1 H1 → u D σ1 H1
section
variable {X : Cx} {o e : Expr} {to te : TE} {apos cpos : Pos}
theorem pss_mid {st : Stmt} {rest : List Stmt} {t u : TS} (h1 : PS X st t) (h2 : PSs X rest u) : PSs X (st :: rest) (tMid t u) := by
  constructor
  intro pins s σ H D I h
  obtain ⟨M, ha, hb⟩ := h
  refine wpAny_execs_cons (thn (h1.run pins s σ H { D with nx := M } I ha) ?_)
  intro f s1 q
  match f, q with
  | .next, ⟨σ1, H1, I1, q⟩ => exact h2.run pins s1 σ1 H1 D I1 (hb σ1 H1 q)
  | .ret v, q => exact q
  | .brk, q => exact q
  | .cont, q => exact q
theorem qPopAt (ho : PE X o to) (he : PE X e te) (hbase : attributeBase o "pop" X.env (eval o X.env) = eval o X.env := by rfl)
    (hfew : ((backTo cpos (starEach (e :: []) X.env)).all (fun x => !x.1) && (backToKw cpos (keywordEach [] X.env)).all (fun x => x.1.isSome)
      && decide ((e :: ([] : List Expr)).length + ([] : List Keyword).length + (if ([] : List Keyword).isEmpty then 0 else 1) < 30)) = true := by rfl)
    (hline : (apos.endLine == cpos.line) = true := by rfl) (hs : starEach (e :: []) X.env = (false, eval e X.env) :: starEach [] X.env := by rfl) (hplain : (backTo cpos (starEach [] X.env)).any (·.1) = false := by rfl) :
    PE X (.Call (.Attribute o "pop" apos) [e] [] cpos) (tBM X.K "list" rPopAt to (tCons te tNil)) :=
  pe_bm PySem.F.plainAttrs_list PySem.F.slot_list_pop PySem.F.type_list_pop mt_popAt ho (pa_cons he pa_nil hs) hbase hfew hline hs hplain
end
theorem StX.pop {H : Hp} {d g c : Addr} {n : Nat} {r t x : Int} {gs cs : List Int} (S : StX H d g c n r t (x :: gs) cs) : 0 ≤ x ∧ StX (upd (upd H g (.lst (gs.map V.int))) d (.dK (StKV g c x t))) d g c n x t gs cs := by
  have hx := S.g0 x (List.mem_cons_self ..)
  refine ⟨hx, upd_same, by rw [upd_ne S.dg.symm, upd_same], by rw [upd_ne S.dc.symm, upd_ne S.gc.symm]; exact S.cl, S.gc, hx, fun y hy => S.g0 y (List.mem_cons_of_mem _ hy), S.t0, S.tn, by have := S.gn; simp only [List.length_cons] at this; omega, S.cn⟩
section
variable {P : Program} {w : World} {K : PySem.W.Frag} {mg : Str → Option Value} {base : Heap}
theorem scDrw : FnScope ["state", "room", "found"] ["state", "room"] (defScope sDrw) := ⟨rfl, rfl, rfl, by decide +kernel, rfl, by decide +kernel, by decide +kernel⟩
theorem ok_drw {f fM fD : Addr} {fd fdM : FuncData} (F : Fun K "_law_draw" "_law_draw" sDrw f fd) (T : MgS K mg fM fD) (FM : Fun K "_law_mixed" "_law_mixed" sMix fM fdM) (bM : L2.Binds K fdM ["state"] []) : FnOk P w K mg base CX0 2 f fd ["state", "room"] spDrw := by
  have GM : FnOk P w K mg base CX0 1 fM fdM ["state"] spMix := ok_mix FM T
  refine F.ok scDrw (fun vs H Q E h => ?_) (fun cdv A outer s H vs Q E hr h => ?_)
  · obtain ⟨d, g, c, n, room, rfl, _⟩ := h
    rfl
  · obtain ⟨d, g, c, n, room, rfl, ⟨r, t, gs, cs, S⟩, hn, hr0, hr1, k⟩ := h
    have hu := hu_of hr
    refine ⟨_, pss_mid (ps_if (pt_cmpR op_eq (pe_dget hu (pv 0) pe_str (fun _ _ => rfl)) pe_int (nomark _))
        (pss_one (ps_dput hu (pv 0) pe_str (pe_ifExp (pt_cmpR (op_neD hr.units) (pe_dget hu (pv 0) pe_str (fun _ _ => rfl)) (pe_lst pa_nil) (nomark _))
          (qPopAt (pe_dget hu (pv 0) pe_str (fun _ _ => rfl)) pe_int) (pe_call GM hr (by rfl) T.mx T.kmx bM .nil pass0 (pa_cons (pv 0) pa_nil))) rfl)) pss_nil)
      (pss_cons (ps_set (i := 2) scDrw.nd rfl (Or.inl rfl) (pe_op op_mod (pe_callTy call_int1 (by rfl) T.int (by decide +kernel) (pa_cons (pe_dget hu (pv 0) pe_str (fun _ _ => rfl)) pa_nil)) (pv 1)))
      (pss_cons (ps_dput hu (pv 0) pe_str (pe_op op_fdivN (pe_dget hu (pv 0) pe_str (fun _ _ => rfl)) (pv 1)) rfl)
      (pss_one (ps_ret (pv 2))))), ?_⟩
    refine ⟨fun σ1 H1 => σ1 = [some (.ref d), some (.int room), none] ∧ StA H1 d g c (n + 1) ∧ Kp d g H H1, ?_, ?_⟩
    · refine ⟨_, rfl, d, _, rfl, g_rest S.dk, rfl, _, rfl, ?_⟩
      by_cases h0 : r = 0
      · refine ifT (decide_eq_true (by rw [h0])) ?_
        refine ⟨_, rfl, d, _, rfl, g_great S.dk, Nat.zero_le _, fun l hl => ?_⟩
        have S1 := S.keep (same_new (o := .lst []) hl)
        refine ⟨_, .list [], .lst (SqL.of S1.gl) (dpInts gs), .lst (SqL.of upd_same) .nil, shInts gs, by decide, _, rfl, ?_⟩
        cases gs with
        | nil =>
          refine ifF rfl ?_
          refine ⟨_, rfl, d, g, c, n, rfl, ⟨r, t, [], cs, S1⟩, hn, fun v H' hv S2 kp => ?_⟩
          obtain ⟨r2, t2, gs2, cs2, S2⟩ := S2
          refine ⟨_, rfl, d, _, rfl, s_rest S2.dk v, rfl, ⟨v, t2, gs2, cs2, S2.rest hv⟩, (Kp.of (same_new hl)).trans (kp.trans Kp.put)⟩
        | cons x gs =>
          refine ifT rfl ?_
          obtain ⟨hx, S2⟩ := S1.pop
          refine ⟨_, rfl, d, _, rfl, g_great S1.dk, .inl ⟨rfl, _, SqL.of S1.gl⟩, g, _, 0, 0, .int x, rfl, rfl, S1.gl, (by decide), (by decide), (by first | rfl | (unfold seqIndex?; simp)), rfl, ?_⟩
          refine ⟨_, rfl, d, _, rfl, s_rest (by rw [upd_ne S1.dg]; exact S1.dk) x, rfl, ?_, (Kp.of (same_new hl)).trans (Kp.putg.trans Kp.put)⟩
          exact StA.mono ⟨x, t, gs, cs, S2⟩ (Nat.le_succ _)
      · refine ifF (decide_eq_false (fun h => h0 (by injection h))) ?_
        exact ⟨rfl, StA.mono ⟨r, t, gs, cs, S⟩ (Nat.le_succ _), Kp.refl _⟩
    · rintro σ1 H1 ⟨rfl, ⟨r, t, gs, cs, S⟩, kp⟩
      refine ⟨_, rfl, d, _, rfl, g_rest S.dk, .inl ⟨_, rfl, _, rfl, _, _, rfl, rfl, hr0, ?_⟩⟩
      refine ⟨_, rfl, d, _, rfl, g_rest S.dk, _, rfl, _, _, rfl, rfl, ⟨by omega, by omega⟩, _, rfl, d, _, rfl, s_rest S.dk _, ?_⟩
      have hq : 0 ≤ r.fdiv room := by
        rw [Int.fdiv_eq_ediv_of_nonneg _ (by omega)]
        exact Int.ediv_nonneg S.r0 (by omega)
      exact ⟨_, rfl, k _ _ (Int.emod_nonneg _ (by omega)) (Int.emod_lt_of_pos _ hr0) ⟨_, _, _, _, S.rest hq⟩ (kp.trans Kp.put)⟩
end
theorem merge_st (g c : Addr) : mergeK [] (StKV g c 0 0) = StKV g c 0 0 := by
  have e1 : putK [] (Sum.inr ("great" : Str) : Key) (V.ref g) = [(Sum.inr ("great" : Str), V.ref g)] := by
    rw [putK_new _ valV_nil]
    rfl
  have e2 : putK [((Sum.inr ("great" : Str) : Key), V.ref g)] (Sum.inr ("cells" : Str)) (V.ref c) = [(Sum.inr ("great" : Str), V.ref g), (Sum.inr ("cells" : Str), V.ref c)] := by
    rw [putK_new _ ((valV_neg k12).trans valV_nil)]
    rfl
  have e3 : putK [((Sum.inr ("great" : Str) : Key), V.ref g), (Sum.inr ("cells" : Str), V.ref c)] (Sum.inr ("rest" : Str)) (V.int 0) = [(Sum.inr ("great" : Str), V.ref g), (Sum.inr ("cells" : Str), V.ref c), (Sum.inr ("rest" : Str), V.int 0)] := by
    rw [putK_new _ ((valV_neg k13).trans ((valV_neg k23).trans valV_nil))]
    rfl
  have e4 : putK [((Sum.inr ("great" : Str) : Key), V.ref g), (Sum.inr ("cells" : Str), V.ref c), (Sum.inr ("rest" : Str), V.int 0)] (Sum.inr ("turn" : Str)) (V.int 0) = StKV g c 0 0 := by
    rw [putK_new _ ((valV_neg k14).trans ((valV_neg k24).trans ((valV_neg k34).trans valV_nil)))]
    rfl
  show putK (putK (putK (putK [] (Sum.inr ("great" : Str) : Key) (V.ref g)) (Sum.inr ("cells" : Str)) (V.ref c)) (Sum.inr ("rest" : Str)) (V.int 0)) (Sum.inr ("turn" : Str)) (V.int 0) = _
  rw [e1, e2, e3, e4]
def spBeg (K : PySem.W.Frag) : Sp := fun vs H Q _ => ∃ (a : Addr) (ns : List Int), vs = [.ref a] ∧ SqL K H a (ns.map V.int) ∧ ns.length ≤ 63 ∧
  ∀ (d g c : Addr) (H' : Hp), StA H' d g c 0 → Same H H' → H d = none → H g = none → Q (.ref d) H'
section
variable {P : Program} {w : World} {K : PySem.W.Frag} {mg : Str → Option Value} {base : Heap}
theorem scPck : FnScope ["state", "some"] ["state", "some"] (defScope sPck) := ⟨rfl, rfl, rfl, by decide +kernel, rfl, by decide +kernel, by decide +kernel⟩
theorem ok_pck {f fM fD : Addr} {fd fdM fdD : FuncData} (F : Fun K "_law_pick" "_law_pick" sPck f fd) (T : MgS K mg fM fD) (FM : Fun K "_law_mixed" "_law_mixed" sMix fM fdM) (bM : L2.Binds K fdM ["state"] [])
    (FD : Fun K "_law_draw" "_law_draw" sDrw fD fdD) (bD : L2.Binds K fdD ["state", "room"] []) : FnOk P w K mg base CX0 3 f fd ["state", "some"] spPck := by
  have GD : FnOk P w K mg base CX0 2 fD fdD ["state", "room"] spDrw := ok_drw FD T FM bM
  refine F.ok scPck (fun vs H Q E h => ?_) (fun cdv A outer s H vs Q E hr h => ?_)
  · obtain ⟨d, g, c, a, n, xs, rfl, _⟩ := h
    rfl
  · obtain ⟨d, g, c, a, n, xs, rfl, S, hn, ha, hag, hne, hlen, k⟩ := h
    refine ⟨_, pss_one (ps_ret (pe_ix ix_list (pv 1) (pe_call GD hr (by rfl) T.dr T.kdr bD .nil pass0 (pa_cons (pv 0) (pa_cons (pe_callB call_len_seq (by rfl) T.len PySem.boot_len (pa_cons (pv 1) pa_nil)) pa_nil))) (fun _ _ => rfl))), ?_⟩
    have hpos : 0 < xs.length := List.length_pos_iff.mpr hne
    have had : a ≠ d := by
      obtain ⟨r, t, gs, cs, S⟩ := S
      exact ne_of ha S.dk (by intro z; cases z)
    refine ⟨_, rfl, _, rfl, _, rfl, a, _, rfl, .inl (SqL.of ha), d, g, c, n, (xs.length : Int), rfl, S, hn, by omega, by omega, fun v H' h0 h1 S2 kp => ?_⟩
    have hi : v.toNat < xs.length := by omega
    exact ⟨a, xs, v, xs[v.toNat], rfl, rfl, SqL.of (kp _ _ ha had hag), at_of (j := v.toNat) (by omega) (List.getElem?_eq_getElem hi), k _ _ (List.getElem_mem hi) S2 kp⟩
theorem scBeg : FnScope ["script", "great", "cell"] ["script"] (defScope sBeg) := ⟨rfl, rfl, rfl, by decide +kernel, rfl, by decide +kernel, by decide +kernel⟩
theorem ok_beg {f : Addr} {fd : FuncData} (F : Fun K "_law_begun" "_law_begun" sBeg f fd) (ma : mg "abs" = none) : FnOk P w K mg base CX0 1 f fd ["script"] (spBeg K) := by
  refine F.ok scBeg (fun vs H Q E h => ?_) (fun cdv A outer s H vs Q E hr h => ?_)
  · obtain ⟨a, ns, rfl, _⟩ := h
    rfl
  · obtain ⟨a, ns, rfl, hS, hlen, k⟩ := h
    refine ⟨_, pss_cons (ps_setLc (i := 1) (own := [("cell", 2)]) (g := gName 2) (by rfl) scBeg.nd rfl rfl (sw_true rfl rfl rfl (by decide +kernel)) (pi_list (pv 0)) (blkOk_by (own := [("cell", 2)]) (N := ["script", "great", "cell"]) (sc := defScope sBeg) (by decide +kernel)) (fun _ _ _ _ _ => pg_name (i := 2) scBeg.nd rfl (Or.inl rfl))
        (fun _ _ _ _ _ => pts_one (pt_cmpR op_ge (pe_callB call_abs (by rfl) ma (by decide +kernel) (pa_cons (pv 2) pa_nil)) (pe_op op_pow pe_int pe_int) (nomark _)))
        (fun _ _ _ _ _ => pe_op op_sub (pe_callB call_abs (by rfl) ma (by decide +kernel) (pa_cons (pv 2) pa_nil)) (pe_op op_pow pe_int pe_int)))
      (pss_one (ps_ret (pe_disp (pps_cons pe_str (pv 1) (pps_cons pe_str (pe_lc (own := [("cell", 2)]) (g := gName 2) (tt := tYes) (by rfl) scBeg.nd (pi_list (pv 0)) (blkOk_by (own := [("cell", 2)]) (N := ["script", "great", "cell"]) (sc := defScope sBeg) (by decide +kernel)) (fun _ _ _ _ _ => pg_name (i := 2) scBeg.nd rfl (Or.inl rfl)) (fun _ _ _ _ _ => pts_nil)
        (fun _ _ _ _ _ => pe_callB call_abs (by rfl) ma (by decide +kernel) (pa_cons (pv 2) pa_nil))) (pps_cons pe_str pe_int (pps_cons pe_str pe_int pps_nil)))) (by rfl) (by rfl) (fun z => by cases z) (by decide)))), ?_⟩
    refine ⟨_, rfl, a, rfl, ⟨_, hS⟩, fun g hg => lc_list (K := K) (a := a) (xs := ns.map V.int)
      (fun i H' => ∃ gs : List Int, H' g = some (.lst (gs.map V.int)) ∧ (∀ x ∈ gs, 0 ≤ x) ∧ gs.length ≤ i ∧ Same H H') ⟨[], upd_same, (fun x hx => by cases hx), Nat.le_refl _, same_new hg⟩ (fun i H' _ ⟨_, _, _, _, s1⟩ => s1.seq hS) ?_ ?_⟩
    · rintro i x H' hi ⟨gs, h1, h2, h3, s1⟩
      have hil : i < (ns.map V.int).length := (List.getElem?_eq_some_iff.mp hi).1
      rw [List.length_map] at hil
      rw [List.getElem?_map] at hi
      obtain ⟨z, _, rfl⟩ := Option.map_eq_some_iff.mp hi
      refine ⟨rfl, ?_⟩
      refine ⟨_, rfl, z, rfl, _, _, rfl, rfl, ⟨by decide, by decide, by decide⟩, _, _, rfl, rfl, _, rfl, ?_⟩
      by_cases hz : (10 : Int) ^ (18 : Int).toNat ≤ (if z < 0 then -z else z)
      · refine ifT (decide_eq_true hz) ?_
        refine ⟨_, rfl, z, rfl, _, _, rfl, rfl, ⟨by decide, by decide, by decide⟩, _, _, rfl, rfl, ?_⟩
        refine ⟨gs.map V.int, h1, by rw [List.length_map, sizeLine_eq]; omega, gs ++ [(if z < 0 then -z else z) - (10 : Int) ^ (18 : Int).toNat], ?_, ?_, ?_, ?_⟩
        · rw [upd_same, List.map_append]
          rfl
        · intro x hx
          rcases List.mem_append.mp hx with hx | hx
          · exact h2 x hx
          · rw [List.mem_singleton.mp hx]
            omega
        · rw [List.length_append]
          show gs.length + 1 ≤ i + 1
          omega
        · intro b o e
          rw [upd_ne (ne_of_none e hg)]
          exact s1 _ _ e
      · refine ifF (decide_eq_false hz) ?_
        exact ⟨gs, h1, h2, by omega, s1⟩
    · rw [List.length_map]
      rintro H1 ⟨gs, h1, h2, h3, s1⟩
      refine fun p hp => ?_
      have hgp : g ≠ p := ne_of_none h1 hp
      refine ⟨_, rfl, _, rfl, a, rfl, ⟨_, (s1.trans (same_new hp)).seq hS⟩, fun c hc => lc_list (K := K) (a := a) (xs := ns.map V.int)
        (fun i H' => ∃ cs : List Int, H' c = some (.lst (cs.map V.int)) ∧ cs.length ≤ i ∧ Same (upd H1 p (.dK [])) H') ⟨[], upd_same, Nat.le_refl _, same_new hc⟩ (fun i H' _ ⟨_, _, _, s2⟩ => ((s1.trans (same_new hp)).trans s2).seq hS) ?_ ?_⟩
      · rintro i x H' hi ⟨cs, h4, h5, s2⟩
        have hil : i < (ns.map V.int).length := (List.getElem?_eq_some_iff.mp hi).1
        rw [List.length_map] at hil
        rw [List.getElem?_map] at hi
        obtain ⟨z, _, rfl⟩ := Option.map_eq_some_iff.mp hi
        refine ⟨rfl, ?_⟩
        refine ⟨_, rfl, z, rfl, cs.map V.int, h4, by rw [List.length_map, sizeLine_eq]; omega, cs ++ [if z < 0 then -z else z], ?_, ?_, ?_⟩
        · rw [upd_same, List.map_append]
          rfl
        · rw [List.length_append]
          show cs.length + 1 ≤ i + 1
          omega
        · intro b o e
          rw [upd_ne (ne_of_none e hc)]
          exact s2 _ _ e
      · rw [List.length_map]
        rintro H2 ⟨cs, h4, h5, s2⟩
        have hpc : p ≠ c := ne_of_none upd_same hc
        have hgc : g ≠ c := ne_of_none (by rw [upd_ne hgp]; exact h1) hc
        refine ⟨s2 _ _ upd_same, StKV g c 0 0, rfl, (by show 4 ≤ 15; decide), ?_⟩
        rw [merge_st]
        refine k p g c _ ⟨0, 0, gs, cs, upd_same, ?_, ?_, hgc, Int.le_refl _, h2, Int.le_refl _, Int.le_refl _, by omega, by omega⟩ ?_ (s1.free hp) hg
        · rw [upd_ne hgp]
          exact s2 _ _ (by rw [upd_ne hgp]; exact h1)
        · rw [upd_ne hpc.symm]
          exact h4
        · intro b o e
          have hbp : b ≠ p := ne_of_none (s1 _ _ e) hp
          rw [upd_ne hbp]
          exact s2 _ _ (by rw [upd_ne hbp]; exact s1 _ _ e)
end
abbrev sWds : Stmt := top 40
abbrev sNam : Stmt := top 41
def wd1 : List Str := ["again", "and", "ask", "body", "break", "call", "else", "fail", "function", "give", "if", "local", "no", "not"]
def wd2 : List Str := ["number", "or", "over", "place", "record", "rest", "row", "show", "size", "store", "truth", "unit"]
def wd3 : List Str := ["use", "while", "worth", "yes"]
def wds : List Str := wd1 ++ wd2 ++ wd3
/-- a short text of ASCII signs -/
def okS (m : Nat) (x : Str) : Bool := x.cps.all (fun c => decide (c < 128)) && (decide (1 ≤ x.length) && decide (x.length ≤ m))
theorem okS_of {m : Nat} {x : Str} (h1 : ∀ c ∈ tl x, c < 128) (h2 : 1 ≤ x.length) (h3 : x.length ≤ m) : okS m x = true := by
  unfold okS
  rw [decide_eq_true h2, decide_eq_true h3, Bool.and_true, Bool.and_true, Array.all_eq_true]
  intro i hi
  exact decide_eq_true (h1 _ (by rw [Array.mem_toList_iff]; exact Array.getElem_mem hi))
theorem okS_to {m : Nat} {x : Str} (h : okS m x = true) : (∀ c ∈ tl x, c < 128) ∧ 1 ≤ x.length ∧ x.length ≤ m := by
  unfold okS at h
  simp only [Bool.and_eq_true, decide_eq_true_eq] at h
  refine ⟨fun c hc => ?_, h.2.1, h.2.2⟩
  have h1 := Array.all_eq_true.mp h.1
  obtain ⟨i, hi, e⟩ := Array.mem_iff_getElem.mp (Array.mem_toList_iff.mp hc)
  have := of_decide_eq_true (h1 i hi)
  rw [e] at this
  exact this
theorem okS_app {m n k : Nat} {x y : Str} (h : okS m x = true) (h' : okS n y = true) (hk : m + n ≤ k) : okS k (x ++ y) = true := by
  obtain ⟨a1, a2, a3⟩ := okS_to h
  obtain ⟨b1, b2, b3⟩ := okS_to h'
  have e : (x ++ y).length = x.length + y.length := by rw [TL.len_tl, TL.tl_append, List.length_append, TL.len_tl x, TL.len_tl y]
  refine okS_of (fun c hc => ?_) (by omega) (by omega)
  rw [TL.tl_append] at hc
  rcases List.mem_append.mp hc with hc | hc
  · exact a1 c hc
  · exact b1 c hc
theorem okS_mono {m n : Nat} {x : Str} (h : okS m x = true) (hk : m ≤ n) : okS n x = true := by
  obtain ⟨a1, a2, a3⟩ := okS_to h
  exact okS_of a1 a2 (by omega)
theorem pick_str {m : Nat} {ws : List Str} (h : ws.all (okS m) = true) {v : V} (hv : v ∈ ws.map V.str) : ∃ x : Str, v = .str x ∧ okS m x = true := by
  obtain ⟨x, hx, rfl⟩ := List.mem_map.mp hv
  exact ⟨x, rfl, List.all_eq_true.mp h x hx⟩
def spWds : Sp := fun vs H Q _ => vs = [] ∧ ∀ (p : Addr) (H' : Hp), Same H H' → H p = none → H' p = some (.lst (wds.map V.str)) → Q (.ref p) H'
def L26 : Str := "abcdefghijklmnopqrstuvwxyz"
def D10 : Str := "0123456789"
def isLet (c : Nat) : Bool := decide (c ∈ L26.cps.toList)
def isSgn (c : Nat) : Bool := isLet c || decide (c ∈ D10.cps.toList)
def nameS (s : Str) : Bool := (decide (1 ≤ s.length) && decide (s.length ≤ 8)) && (isLet ((tl s).getD 0 0) && ((tl s).all isSgn && !decide (s ∈ wds)))
/-- the law's names; ts: those that are taken -/
def spNam : Sp := fun vs H Q _ => ∃ (d g c a : Addr) (n : Nat) (ts : List Str), vs = [.ref d, .ref a] ∧ StA H d g c n ∧ n ≤ 900000000 ∧ H a = some (.lst (ts.map V.str)) ∧ ts.length ≤ 60 ∧ a ≠ g ∧
  ∀ (x : Str) (H' : Hp), okS 10 x = true → StA H' d g c (n + 12) → Kp d g H H' → nameS x = true → x ∉ ts → Q (.str x) H'
structure MgN (K : PySem.W.Frag) (mg : Str → Option Value) (fM fD fP fW : Addr) : Prop extends MgS K mg fM fD where
  pk : mg "_law_pick" = some (.ref fP)
  kpk : PySem.W.keepIn K (.ref fP) = true
  wd : mg "_law_tx_words" = some (.ref fW)
  kwd : PySem.W.keepIn K (.ref fW) = true
  rng : mg "range" = none
  str : mg "str" = none
section
variable {X : Cx}
theorem op_mul_str : OpR X (binaryOp .Mult) (fun x y H Q => ∃ (i : Str) (n : Int), x = .str i ∧ y = .int n ∧ 1 ≤ n ∧ n ≤ 1000 ∧ i.length ≤ 1000 ∧ Q (.str (Txt.mul i n)) H) := by
  intro pins s σ H x y v u Q I rx ry h
  obtain ⟨i, n, rfl, rfl, h0, h1, h2, q⟩ := h
  obtain ⟨t, rfl⟩ := rx
  obtain ⟨t', rfl⟩ := ry
  refine SB.mul ⟨?_, ?_, ?_⟩ fun t' k => ⟨.str _, H, I.tok _, ⟨_, rfl⟩, q⟩
  · rw [decide_eq_false (by omega), decide_eq_false (by omega)]
    rfl
  · intro _ _
    have : (1000 : Int) ≤ (2 ^ 63 - 1) / n := by
      refine Int.le_ediv_of_mul_le (by omega) ?_
      omega
    omega
  · intro _ _
    have : i.length * n.toNat ≤ 1000 * 1000 := Nat.mul_le_mul h2 (by omega)
    exact decide_eq_false (show ¬ (i.length * n.toNat > sizeLine) by rw [sizeLine_eq]; omega)
end
section
variable {P : Program} {w : World} {K : PySem.W.Frag} {mg : Str → Option Value} {base : Heap}
theorem scWds : FnScope ["found"] [] (defScope sWds) := ⟨rfl, rfl, rfl, by decide +kernel, rfl, by decide +kernel, by decide +kernel⟩
theorem ok_wds {f : Addr} {fd : FuncData} (F : Fun K "_law_tx_words" "_law_tx_words" sWds f fd) : FnOk P w K mg base CX0 1 f fd [] spWds := by
  refine F.ok scWds (fun vs H Q E h => ?_) (fun cdv A outer s H vs Q E hr h => ?_)
  · obtain ⟨rfl, _⟩ := h
    rfl
  · obtain ⟨rfl, k⟩ := h
    have s1 {X : Cx} := @pe_str X
    refine ⟨_, pss_cons (ps_set (i := 0) scWds.nd rfl (Or.inl rfl) (pe_lst (pa_cons pe_str (pa_cons pe_str (pa_cons pe_str (pa_cons pe_str (pa_cons pe_str (pa_cons pe_str (pa_cons pe_str (pa_cons pe_str (pa_cons pe_str (pa_cons pe_str (pa_cons pe_str (pa_cons pe_str (pa_cons pe_str (pa_cons pe_str pa_nil))))))))))))))))
      (pss_cons (ps_set (i := 0) scWds.nd rfl (Or.inl rfl) (pe_op op_cat (pv 0) (pe_lst (pa_cons pe_str (pa_cons pe_str (pa_cons pe_str (pa_cons pe_str (pa_cons pe_str (pa_cons pe_str (pa_cons pe_str (pa_cons pe_str (pa_cons pe_str (pa_cons pe_str (pa_cons pe_str (pa_cons pe_str pa_nil)))))))))))))))
      (pss_one (ps_ret (pe_op op_cat (pv 0) (pe_lst (pa_cons pe_str (pa_cons pe_str (pa_cons pe_str (pa_cons pe_str pa_nil))))))))), ?_⟩
    refine ⟨(by show 14 ≤ sizeLine; decide), fun p hp => ?_⟩
    refine ⟨_, rfl, (by show 12 ≤ sizeLine; decide), fun q hq => ⟨p, q, wd1.map V.str, wd2.map V.str, rfl, rfl, ?_, upd_same, (by show 14 + 12 ≤ sizeLine; decide), fun r hr => ?_⟩⟩
    · rw [upd_ne (ne_of_none upd_same hq)]
      exact upd_same
    · refine ⟨_, rfl, (by show 4 ≤ sizeLine; decide), fun q2 hq2 => ⟨r, q2, (wd1 ++ wd2).map V.str, wd3.map V.str, rfl, rfl, ?_, upd_same, (by show 26 + 4 ≤ sizeLine; decide), fun r2 hr2 => ?_⟩⟩
      · rw [upd_ne (ne_of_none upd_same hq2), List.map_append]
        exact upd_same
      · refine k r2 _ (Same.trans (Same.trans (Same.trans (same_new hp) (same_new hq)) (Same.trans (same_new hr) (same_new hq2))) (same_new hr2)) (Same.free (Same.trans (Same.trans (same_new hp) (same_new hq)) (Same.trans (same_new hr) (same_new hq2))) hr2) ?_
        · rw [upd_same]
          unfold wds
          rw [List.map_append, List.map_append, List.map_append]
end
end K1

set_option Elab.async false
set_option linter.all false
set_option pp.maxSteps 700
set_option maxRecDepth 100000
set_option maxHeartbeats 2000000
namespace K1
open PySem PySem.Spec PyProof.Rows L2
open TL (tl)
def nm12 : List Str := ["put", "read", "item", "field", "name", "own", "plus", "less", "units", "rows", "e", "n0"]
theorem at_sign {xs : List Nat} {z : Int} {j : Nat} {v : Nat} (e : z = (j : Int)) (h : xs[j]? = some v) : atI xs z = some v := by
  rw [e]
  exact atI_nat h
/-- a sign of a text by a drawn number -/
theorem item_ok {m : Nat} {z : Str} (h : okS m z = true) {v : Int} (h0 : 0 ≤ v) (h1 : v < z.length) : ∃ c, atI z.cps.toList v = some c ∧ okS 1 ⟨#[c]⟩ = true := by
  have hl : v.toNat < (tl z).length := by
    rw [← TL.len_tl z]
    omega
  refine ⟨(tl z)[v.toNat], at_sign ?_ (List.getElem?_eq_getElem hl), okS_of (fun c hc => ?_) (Nat.le_refl _) (Nat.le_refl _)⟩
  · omega
  · have e : c = (tl z)[v.toNat] := by simpa using hc
    rw [e]
    exact (okS_to h).1 _ (List.getElem_mem hl)
def digs (i : Nat) : Str := toString (i : Int)
theorem digs_ok : ∀ i : Fin 90, okS 2 (digs i.val) = true := by decide +kernel
def cnd (x : Str) (i : Nat) : Str := cutS x none (some 1) ++ digs i
def cands (x : Str) : List Str := x :: (List.range 90).map (cnd x)
theorem cut1_ok {m : Nat} {x : Str} (h : okS m x = true) : okS 1 (cutS x none (some 1)) = true := by
  obtain ⟨h1, h2, h3⟩ := okS_to h
  have e : tl (cutS x none (some 1)) = (tl x).take 1 := by
    show ((x.cps.toList.drop (HT.sIx x.length 0 none)).take (HT.sIx x.length x.length (some ((1 : Nat) : Int)) - HT.sIx x.length 0 none)) = _
    rw [HT.sIx_nat, HT.sIx_none, List.drop_zero]
    congr 1
    omega
  have hl : (tl x).length = x.length := (TL.len_tl x).symm
  refine okS_of (fun c hc => ?_) ?_ ?_
  · rw [e] at hc
    exact h1 c (List.mem_of_mem_take hc)
  · rw [TL.len_tl, e, List.length_take]
    omega
  · rw [TL.len_tl, e, List.length_take]
    omega
theorem cnd_ok {m : Nat} {x : Str} (h : okS m x = true) {i : Nat} (hi : i < 90) : okS 3 (cnd x i) = true := okS_app (cut1_ok h) (digs_ok ⟨i, hi⟩) (by decide)
theorem cands_ok {x : Str} (h : okS 10 x = true) : ∀ y ∈ cands x, okS 10 y = true := by
  intro y hy
  rcases List.mem_cons.mp hy with rfl | hy
  · exact h
  · obtain ⟨i, hi, rfl⟩ := List.mem_map.mp hy
    exact okS_mono (cnd_ok h (List.mem_range.mp hi)) (by decide)
def dig (c : Nat) : Bool := decide (48 ≤ c) && decide (c ≤ 57)
def sec (x : Str) : Bool := match (tl x)[1]? with
  | some c => dig c
  | none => false
theorem wds_sec : wds.all (fun w => !sec w) = true := by decide +kernel
theorem digs_fst : ∀ i : Fin 90, (match (tl (digs i.val))[0]? with | some c => dig c | none => false) = true := by decide +kernel
theorem digs_nd : ((List.range 90).map digs).Nodup := by decide +kernel
theorem cnd_sec {m : Nat} {x : Str} (h : okS m x = true) {i : Nat} (hi : i < 90) : sec (cnd x i) = true := by
  obtain ⟨_, h2, h3⟩ := okS_to (cut1_ok h)
  have hl : (tl (cutS x none (some 1))).length = 1 := by
    rw [← TL.len_tl]
    omega
  have e : (tl (cnd x i))[1]? = (tl (digs i))[0]? := by
    unfold cnd
    rw [TL.tl_append, List.getElem?_append_right (by omega), hl]
  have q := digs_fst ⟨i, hi⟩
  unfold sec
  rw [e]
  exact q
theorem not_word {m : Nat} {x : Str} (h : okS m x = true) {i : Nat} (hi : i < 90) : inV (.str (cnd x i)) (wds.map V.str) = false := by
  unfold inV
  rw [List.any_eq_false]
  intro y hy
  obtain ⟨w, hw, rfl⟩ := List.mem_map.mp hy
  show ¬ (w == cnd x i) = true
  intro z
  have z := eq_of_beq z
  have q := List.all_eq_true.mp wds_sec w hw
  rw [z, cnd_sec h hi] at q
  cases q
theorem pig {α : Type} [DecidableEq α] : ∀ (l ts : List α), l.Nodup → (∀ x ∈ l, x ∈ ts) → l.length ≤ ts.length
  | [], ts, _, _ => Nat.zero_le _
  | x :: l, ts, nd, h => by
    obtain ⟨h1, h2⟩ := List.nodup_cons.mp nd
    have hx := h x List.mem_cons_self
    have ih := pig l (ts.erase x) h2 fun y hy => (List.mem_erase_of_ne fun (e : y = x) => h1 (e ▸ hy)).mpr (h y (List.mem_cons_of_mem _ hy))
    rw [List.length_erase_of_mem hx] at ih
    have := List.length_pos_of_mem hx
    show l.length + 1 ≤ ts.length
    omega
theorem tl_one {x y : Str} (h : tl x = tl y) : x = y := by
  obtain ⟨a⟩ := x
  obtain ⟨b⟩ := y
  exact congrArg Str.mk (Array.toList_inj.mp h)
theorem cnd_inj {x : Str} {i j : Nat} (e : cnd x i = cnd x j) : digs i = digs j := by
  have q := congrArg tl e
  unfold cnd at q
  rw [TL.tl_append, TL.tl_append] at q
  exact tl_one (List.append_cancel_left q)
theorem free_cnd (x : Str) {ts : List Str} (h : ts.length ≤ 60) : ∃ i, i < 90 ∧ cnd x i ∉ ts := by
  refine Classical.byContradiction fun z => ?_
  have all : ∀ y ∈ (List.range 90).map (cnd x), y ∈ ts := fun y hy => by
    obtain ⟨i, hi, rfl⟩ := List.mem_map.mp hy
    exact Classical.byContradiction fun q => z ⟨i, List.mem_range.mp hi, q⟩
  have nd : ((List.range 90).map (cnd x)).Nodup := by
    refine List.Pairwise.map (R := fun i j => digs i ≠ digs j) _ (fun i j q e => q (cnd_inj e)) ?_
    exact List.pairwise_map.mp digs_nd
  have := pig _ ts nd all
  rw [List.length_map, List.length_range] at this
  omega
theorem inV_str {x : Str} {ts : List Str} : inV (.str x) (ts.map V.str) = decide (x ∈ ts) := by
  unfold inV
  by_cases h : x ∈ ts
  · rw [decide_eq_true h]
    exact List.any_eq_true.mpr ⟨.str x, List.mem_map.mpr ⟨x, h, rfl⟩, beq_self_eq_true x⟩
  · rw [decide_eq_false h, List.any_eq_false]
    intro y hy
    obtain ⟨w, hw, rfl⟩ := List.mem_map.mp hy
    show ¬ (w == x) = true
    intro z
    exact h (eq_of_beq z ▸ hw)
theorem str_flat : ∀ ts : List Str, (ts.map V.str).all flatV = true
  | [] => rfl
  | _ :: ts => str_flat ts
theorem wds_flat : (wds.map V.str).all flatV = true := by decide +kernel
theorem o26 : okS 26 L26 = true := by decide +kernel
theorem o36 : okS 36 (L26 ++ D10) = true := by decide +kernel
theorem l26 : L26.length = 26 := by decide +kernel
theorem l36 : (L26 ++ D10).length = 36 := by decide +kernel
theorem o12 : nm12.all (okS 10) = true := by decide +kernel
theorem ints5 {v : V} (h : v ∈ [V.int 1, V.int 0, V.int 2, V.int 7, V.int 3]) : ∃ m : Nat, v = .int (m : Int) ∧ m ≤ 7 := by
  simp only [List.mem_cons, List.not_mem_nil, or_false] at h
  rcases h with rfl | rfl | rfl | rfl | rfl
  · exact ⟨1, rfl, by decide⟩
  · exact ⟨0, rfl, by decide⟩
  · exact ⟨2, rfl, by decide⟩
  · exact ⟨7, rfl, by decide⟩
  · exact ⟨3, rfl, by decide⟩
/-- a letter, then letters and digits -/
def nmP (s : Str) : Bool := isLet ((tl s).getD 0 0) && (tl s).all isSgn
theorem nameS_of {s : Str} (h1 : okS 8 s = true) (h2 : nmP s = true) (h3 : s ∉ wds) : nameS s = true := by
  obtain ⟨_, a1, a2⟩ := okS_to h1
  unfold nmP at h2
  rw [Bool.and_eq_true] at h2
  unfold nameS
  rw [decide_eq_true a1, decide_eq_true a2, h2.1, h2.2, decide_eq_false h3]
  rfl
theorem nmP_one {c : Nat} (h : isLet c = true) : nmP ⟨#[c]⟩ = true := by
  show (isLet c && (isSgn c && true)) = true
  unfold isSgn
  rw [h]
  rfl
theorem nmP_app {x y : Str} (h0 : 1 ≤ x.length) (h : nmP x = true) (hy : (tl y).all isSgn = true) : nmP (x ++ y) = true := by
  unfold nmP at h ⊢
  rw [Bool.and_eq_true] at h ⊢
  rw [TL.len_tl] at h0
  refine ⟨?_, ?_⟩
  · rw [TL.tl_append, List.getD_eq_getElem?_getD, List.getElem?_append_left (by omega), ← List.getD_eq_getElem?_getD]
    exact h.1
  · rw [TL.tl_append, List.all_append, h.2, hy]
    rfl
theorem nmP_cut {x : Str} (h0 : 1 ≤ x.length) (h : nmP x = true) : nmP (cutS x none (some 1)) = true := by
  have e : tl (cutS x none (some 1)) = (tl x).take 1 := by
    show ((x.cps.toList.drop (HT.sIx x.length 0 none)).take (HT.sIx x.length x.length (some ((1 : Nat) : Int)) - HT.sIx x.length 0 none)) = _
    rw [HT.sIx_nat, HT.sIx_none, List.drop_zero]
    congr 1
    omega
  unfold nmP at h ⊢
  rw [Bool.and_eq_true] at h ⊢
  rw [e]
  refine ⟨?_, ?_⟩
  · rw [List.getD_eq_getElem?_getD, List.getElem?_take_of_lt (by decide), ← List.getD_eq_getElem?_getD]
    exact h.1
  · rw [List.all_eq_true] at h ⊢
    exact fun c hc => h.2 c (List.mem_of_mem_take hc)
theorem digs_sgn : ∀ i : Fin 90, (tl (digs i.val)).all isSgn = true := by decide +kernel
theorem cands_nm {x : Str} (h : okS 8 x = true) (hn : nmP x = true) : ∀ y ∈ cands x, okS 8 y = true ∧ nmP y = true := by
  intro y hy
  obtain ⟨_, a1, _⟩ := okS_to h
  rcases List.mem_cons.mp hy with rfl | hy
  · exact ⟨h, hn⟩
  · obtain ⟨i, hi, rfl⟩ := List.mem_map.mp hy
    have hi := List.mem_range.mp hi
    refine ⟨okS_mono (cnd_ok h hi) (by decide), ?_⟩
    exact nmP_app (okS_to (cut1_ok h)).2.1 (nmP_cut a1 hn) (digs_sgn ⟨i, hi⟩)
theorem item_in {z : Str} {v : Int} {c : Nat} (h : atI z.cps.toList v = some c) : c ∈ tl z := by
  unfold atI at h
  obtain ⟨j, _, e⟩ := Option.bind_eq_some_iff.mp h
  exact List.mem_of_getElem? e
theorem sgn_36 {c : Nat} (h : c ∈ tl (L26 ++ D10)) : isSgn c = true := by
  rw [TL.tl_append] at h
  unfold isSgn isLet
  rcases List.mem_append.mp h with h | h
  · rw [decide_eq_true (show c ∈ L26.cps.toList from h)]
    rfl
  · rw [decide_eq_true (show c ∈ D10.cps.toList from h), Bool.or_true]
theorem o12' : nm12.all (fun x => okS 8 x && nmP x) = true := by decide +kernel
theorem pick_nm {v : V} (hv : v ∈ nm12.map V.str) : ∃ x : Str, v = .str x ∧ okS 8 x = true ∧ nmP x = true := by
  obtain ⟨x, hx, rfl⟩ := List.mem_map.mp hv
  have h := List.all_eq_true.mp o12' x hx
  rw [Bool.and_eq_true] at h
  exact ⟨x, rfl, h.1, h.2⟩
theorem StA.ne_g {H : Hp} {d g c : Addr} {n : Nat} (S : StA H d g c n) {p : Addr} (hp : H p = none) : p ≠ g ∧ p ≠ d := by
  obtain ⟨r, t, gs, cs, S⟩ := S
  exact ⟨(ne_of_none S.gl hp).symm, (ne_of_none S.dk hp).symm⟩
section
variable {P : Program} {w : World} {K : PySem.W.Frag} {mg : Str → Option Value} {base : Heap}
theorem scNam : FnScope ["state", "taken", "letters", "found", "lap", "some", "at", "name"] ["state", "taken"] (defScope sNam) := ⟨rfl, rfl, rfl, by decide +kernel, rfl, by decide +kernel, by decide +kernel⟩
theorem ok_nam {f fM fD fP fW : Addr} {fd fdM fdD fdP fdW : FuncData} (F : Fun K "_law_tx_name" "_law_tx_name" sNam f fd) (T : MgN K mg fM fD fP fW) (FM : Fun K "_law_mixed" "_law_mixed" sMix fM fdM) (bM : L2.Binds K fdM ["state"] [])
    (FD : Fun K "_law_draw" "_law_draw" sDrw fD fdD) (bD : L2.Binds K fdD ["state", "room"] []) (FP : Fun K "_law_pick" "_law_pick" sPck fP fdP) (bP : L2.Binds K fdP ["state", "some"] [])
    (FW : Fun K "_law_tx_words" "_law_tx_words" sWds fW fdW) (bW : L2.Binds K fdW [] []) : FnOk P w K mg base CX0 4 f fd ["state", "taken"] spNam := by
  have GD : FnOk P w K mg base CX0 2 fD fdD ["state", "room"] spDrw := ok_drw FD T.toMgS FM bM
  have GP : FnOk P w K mg base CX0 3 fP fdP ["state", "some"] spPck := ok_pck FP T.toMgS FM bM FD bD
  have GW : FnOk P w K mg base CX0 1 fW fdW [] spWds := ok_wds FW
  refine F.ok scNam (fun vs H Q E h => ?_) (fun cdv A outer s H vs Q E hr h => ?_)
  · obtain ⟨d, g, c, a, n, ts, rfl, _⟩ := h
    rfl
  · obtain ⟨d, g, c, a, n, ts, rfl, S, hn, ha, hts, hag, k⟩ := h
    have hr1 : Room 1 _ := hr.mono (by decide)
    have hr2 : Room 2 _ := hr.mono (by decide)
    refine ⟨_, pss_cons (ps_set (i := 2) scNam.nd rfl (Or.inl rfl) pe_str)
      (pss_cons (ps_set (i := 3) scNam.nd rfl (Or.inr rfl) (pe_ix ix_str (pv 2) (pe_call GD hr2 (by rfl) T.dr T.kdr bD .nil pass0 (pa_cons (pv 0) (pa_cons pe_int pa_nil))) (fun _ _ => rfl)))
      (pss_cons (ps_for PassesOwn.never rfl (pi_range1 (by rfl) T.rng (pa_cons (pe_call GP hr (by rfl) T.pk T.kpk bP .nil pass0 (pa_cons (pv 0) (pa_cons (pe_lst (pa_cons pe_int (pa_cons pe_int (pa_cons pe_int (pa_cons pe_int (pa_cons pe_int pa_nil)))))) pa_nil))) pa_nil)) (pg_name (i := 4) scNam.nd rfl (Or.inl rfl))
        (pss_one (ps_set (i := 3) scNam.nd rfl (Or.inr rfl) (pe_op op_add_str (pv 3) (pe_ix ix_str (pe_op op_add_str (pv 2) pe_str) (pe_call GD hr2 (by rfl) T.dr T.kdr bD .nil pass0 (pa_cons (pv 0) (pa_cons pe_int pa_nil))) (fun _ _ => rfl))))))
      (pss_mid (ps_if (pt_cmpR op_eq (pe_call GD hr2 (by rfl) T.dr T.kdr bD .nil pass0 (pa_cons (pv 0) (pa_cons pe_int pa_nil))) pe_int (nomark _))
        (pss_one (ps_set (i := 3) scNam.nd rfl (Or.inr rfl) (pe_call GP hr (by rfl) T.pk T.kpk bP .nil pass0 (pa_cons (pv 0) (pa_cons (pe_lst (pa_cons pe_str (pa_cons pe_str (pa_cons pe_str (pa_cons pe_str (pa_cons pe_str (pa_cons pe_str (pa_cons pe_str (pa_cons pe_str (pa_cons pe_str (pa_cons pe_str (pa_cons pe_str (pa_cons pe_str pa_nil))))))))))))) pa_nil))))) pss_nil)
      (pss_cons (ps_set (i := 5) scNam.nd rfl (Or.inl rfl) (pe_op op_cat (pe_lst (pa_cons (pv 3) pa_nil)) (pe_lc (own := [("at", 6)]) (g := gName 6) (tt := tYes) (by rfl) scNam.nd (pi_range1 (by rfl) T.rng (pa_cons pe_int pa_nil))
          (blkOk_by (own := [("at", 6)]) (N := ["state", "taken", "letters", "found", "lap", "some", "at", "name"]) (sc := defScope sNam) (by decide +kernel)) (fun _ _ _ _ _ => pg_name (i := 6) scNam.nd rfl (Or.inl rfl)) (fun _ _ _ _ _ => pts_nil)
          (fun _ _ _ _ _ => pe_op op_add_str (pe_slice sl_str (pv 3) po_none (po_some pe_int)) (pe_callTy call_str_int (by rfl) T.str (by decide +kernel) (pa_cons (pv 6) pa_nil))))))
      (pss_one (ps_ret (pe_ix ix_list (pe_lc (own := [("name", 7)]) (g := gName 7) (by rfl) scNam.nd (pi_list (pv 5))
          (blkOk_by (own := [("name", 7)]) (N := ["state", "taken", "letters", "found", "lap", "some", "at", "name"]) (sc := defScope sNam) (by decide +kernel)) (fun _ _ _ _ _ => pg_name (i := 7) scNam.nd rfl (Or.inl rfl))
          (fun _ _ _ _ _ => pts_one (PW.pt (pw_and (pt_cmpR (show OpR _ (compareOp .NotIn) (rIn K true) from op_notIn_seq) (pv 7) (pv 1) (by rfl)) (pw_and1 (pt_cmpR (show OpR _ (compareOp .NotIn) (rIn K true) from op_notIn_seq) (pv 7) (pe_call0 GW hr1 (by rfl) T.wd T.kwd bW .nil pass0) (by rfl))))))
          (fun _ _ _ _ _ => pv 7)) pe_int (fun _ _ => rfl)))))))), ?_⟩
    refine ⟨_, rfl, _, rfl, d, g, c, n, 26, rfl, S, by omega, by decide, by decide, fun v H1 h0 h1 S1 kp1 => ?_⟩
    obtain ⟨c1, e1, ok1⟩ := item_ok o26 h0 (by rw [l26]; exact h1)
    refine ⟨L26, v, c1, rfl, rfl, (by decide +kernel), e1, ?_⟩
    -- for lap in range(..)
    refine ⟨_, rfl, (by show 5 ≤ sizeLine; decide), fun l hl => ?_⟩
    refine ⟨d, g, c, l, n + 1, _, rfl, S1.keep (same_new hl), by omega, upd_same, (S1.ne_g hl).1, by simp, by decide, fun v2 H2 hv2 S2 kp2 => ?_⟩
    obtain ⟨m, rfl, hm⟩ := ints5 hv2
    have kpa : Kp d g H H2 := kp1.trans ((Kp.of (same_new hl)).trans kp2)
    refine ⟨_, rfl, by omega, by omega, for_range (lo := 0) (n := ((m : Nat) : Int).toNat)
      (fun i σ H' => ∃ (x : Str) (lv : Option V), σ = [some (.ref d), some (.ref a), some (.str L26), some (.str x), lv, none, none, none] ∧ okS (i + 1) x = true ∧ nmP x = true ∧ StA H' d g c (n + 2 + i) ∧ Kp d g H H')
      ⟨_, none, rfl, ok1, nmP_one (decide_eq_true (item_in e1)), S2, kpa⟩ ?_ ?_⟩
    · rintro i σ H' hi ⟨x, lv, rfl, okx, nmx, S3, kp3⟩
      have hi7 : i < 7 := by omega
      refine ⟨_, rfl, _, rfl, L26, D10, rfl, rfl, (by decide +kernel), _, rfl, d, g, c, n + 2 + i, 36, rfl, S3, by omega, by decide, by decide, fun v3 H3 h2 h3 S4 kp4 => ?_⟩
      obtain ⟨c2, e2, ok2⟩ := item_ok o36 h2 (by rw [l36]; exact h3)
      refine ⟨L26 ++ D10, v3, c2, rfl, rfl, (by decide +kernel), e2, ?_⟩
      have oka := okS_app okx ok2 (Nat.le_refl _)
      refine ⟨x, ⟨#[c2]⟩, rfl, rfl, ?_, _, _, rfl, oka, nmP_app (okS_to okx).2.1 nmx (by show (isSgn c2 && true) = true; rw [sgn_36 (item_in e2)]; rfl), S4, kp3.trans kp4⟩
      have := (okS_to okx).2.2
      rw [sizeLine_eq]
      show x.length + 1 ≤ _
      omega
    · rintro σ H3 ⟨x, lv, rfl, okx, nmx, S3, kp3⟩
      have hm8 : ((m : Nat) : Int).toNat ≤ 7 := by omega
      have okx := okS_mono (n := 8) okx (by omega)
      have S3 := S3.mono (m := n + 9) (by omega)
      -- if draw == 0
      refine ⟨fun σ' H' => ∃ x : Str, σ' = [some (.ref d), some (.ref a), some (.str L26), some (.str x), lv, none, none, none] ∧ okS 8 x = true ∧ nmP x = true ∧ StA H' d g c (n + 12) ∧ Kp d g H H', ?_, ?_⟩
      · refine ⟨_, rfl, d, g, c, n + 9, 6, rfl, S3, by omega, by decide, by decide, fun v4 H4 _ _ S4 kp4 => ?_⟩
        refine ⟨rfl, _, rfl, ?_⟩
        by_cases hv : V.int v4 = V.int 0
        · refine ifT (decide_eq_true hv) ?_
          refine ⟨_, rfl, (by show 12 ≤ sizeLine; decide), fun l2 hl2 => ?_⟩
          refine ⟨d, g, c, l2, n + 10, nm12.map V.str, rfl, S4.keep (same_new hl2), by omega, upd_same, (S4.ne_g hl2).1, by simp [nm12], by decide, fun v5 H5 hv5 S5 kp5 => ?_⟩
          obtain ⟨y, rfl, oky, nmy⟩ := pick_nm hv5
          exact ⟨y, rfl, oky, nmy, S5.mono (by omega), kp3.trans (kp4.trans ((Kp.of (same_new hl2)).trans kp5))⟩
        · refine ifF (decide_eq_false hv) ?_
          exact ⟨x, rfl, okx, nmx, S4.mono (by omega), kp3.trans kp4⟩
      · rintro σ' H4 ⟨x, rfl, okx, nmx, S4, kp4⟩
        have hxs : x.length ≤ sizeLine := by
          have := (okS_to okx).2.2
          rw [sizeLine_eq]
          omega
        have ha4 : H4 a = some (.lst (ts.map V.str)) := kp4 _ _ ha (by
          obtain ⟨r, t, gs, cs, S⟩ := S
          exact ne_of ha S.dk (by intro z; cases z)) hag
        -- some = [found] + [..]
        refine ⟨_, rfl, (by show 1 ≤ sizeLine; decide), fun l3 hl3 => ?_⟩
        refine ⟨90, rfl, by decide, by decide, fun D hD => lc_range (lo := 0) (n := 90)
          (fun i H' => H' D = some (.lst (((List.range i).map (cnd x)).map V.str)) ∧ Same (upd H4 l3 (.lst [V.str x])) H') ⟨upd_same, same_new hD⟩ ?_ ?_⟩
        · rintro i H' hi ⟨h1, s1⟩
          refine ⟨rfl, ?_⟩
          have od : okS 2 (digs i) = true := digs_ok ⟨i, hi⟩
          have e0 : (0 : Int) + (i : Nat) = (i : Nat) := Int.zero_add _
          rw [e0]
          refine ⟨_, rfl, _, rfl, x, rfl, hxs, _, rfl, (i : Nat), rfl, ?_, cutS x none (some 1), digs i, rfl, rfl, ?_, _, h1, ?_, ?_, ?_⟩
          · rw [Int.natAbs_natCast]
            exact Nat.lt_of_le_of_lt (Nat.log2_le_self i) (by omega)
          · have h3 := (okS_to (cut1_ok okx)).2.2
            have h4 := (okS_to od).2.2
            rw [sizeLine_eq]
            omega
          · rw [List.length_map, List.length_map, List.length_range, sizeLine_eq]
            omega
          · rw [upd_same, List.range_succ, List.map_append, List.map_append]
            rfl
          · intro b o e
            rw [upd_ne (ne_of_none e hD)]
            exact s1 _ _ e
        · rintro H5 ⟨h1, s1⟩
          refine ⟨l3, D, [.str x], _, rfl, rfl, s1 _ _ upd_same, h1, (by rw [List.length_map, List.length_map, List.length_range, sizeLine_eq]; show 1 + 90 ≤ _; omega), fun mm hmm => ?_⟩
          have s5 : Same H4 (upd H5 mm (.lst ([V.str x] ++ (((List.range 90).map (cnd x)).map V.str)))) := ((same_new hl3).trans s1).trans (same_new hmm)
          have hc5 : (upd H5 mm (.lst ([V.str x] ++ (((List.range 90).map (cnd x)).map V.str)))) mm = some (.lst ((cands x).map V.str)) := upd_same
          generalize upd H5 mm (.lst ([V.str x] ++ (((List.range 90).map (cnd x)).map V.str))) = H6 at s5 hc5 ⊢
          -- return [name for ..][0]
          refine ⟨_, rfl, mm, rfl, ⟨_, SqL.of hc5⟩, fun R hR => lc_list (K := K) (a := mm) (xs := (cands x).map V.str)
            (fun i H' => ∃ acc : List Str, H' R = some (.lst (acc.map V.str)) ∧ (∀ y ∈ acc, okS 8 y = true ∧ nameS y = true ∧ y ∉ ts) ∧ (∀ j nm, j < i → (cands x)[j]? = some nm → inV (.str nm) (ts.map V.str) = false → inV (.str nm) (wds.map V.str) = false → acc ≠ []) ∧ acc.length ≤ i ∧ Same H6 H')
            ⟨[], upd_same, (fun y hy => by cases hy), (fun j nm z => by omega), Nat.le_refl _, same_new hR⟩ (fun i H' _ ⟨_, _, _, _, _, s6⟩ => SqL.of (s6 _ _ hc5)) ?_ ?_⟩
          · rintro i y H' hi ⟨acc, h2, h3, h4, h5, s6⟩
            have hil : i < ((cands x).map V.str).length := (List.getElem?_eq_some_iff.mp hi).1
            have hlc : ((cands x).map V.str).length = 91 := by
              rw [List.length_map]
              unfold cands
              rw [List.length_cons, List.length_map, List.length_range]
            rw [List.getElem?_map] at hi
            obtain ⟨nm, hnm, rfl⟩ := Option.map_eq_some_iff.mp hi
            obtain ⟨okn, nmn⟩ := cands_nm okx nmx nm (List.mem_of_getElem? hnm)
            refine ⟨rfl, ?_⟩
            have keep : ∀ {H7 : Hp}, Same H6 H7 → inV (.str nm) (ts.map V.str) = true ∨ inV (.str nm) (wds.map V.str) = true → ∀ j nm', j < i + 1 → (cands x)[j]? = some nm' → inV (.str nm') (ts.map V.str) = false → inV (.str nm') (wds.map V.str) = false → acc ≠ [] := by
              intro H7 _ hb j nm' hj hn' f1 f2
              by_cases e : j = i
              · rw [e, hnm] at hn'
                obtain rfl := Option.some.inj hn'
                rcases hb with hb | hb
                · rw [f1] at hb
                  cases hb
                · rw [f2] at hb
                  cases hb
              · exact h4 j nm' (by omega) hn' f1 f2
            refine ⟨_, rfl, _, rfl, a, ts.map V.str, rfl, .inl (SqL.of (s6 _ _ (s5 _ _ ha4))), rfl, str_flat ts, _, rfl, ?_⟩
            cases hit : inV (.str nm) (ts.map V.str) with
            | true =>
              refine ifF (by rfl) ?_
              refine ifF rfl ?_
              exact ⟨acc, h2, h3, keep s6 (.inl hit), by omega, s6⟩
            | false =>
              refine ifT (by rfl) ?_
              refine ⟨_, rfl, rfl, fun wp H7 s7 hwn hw7 => ?_⟩
              refine ⟨wp, _, rfl, .inl (SqL.of hw7), rfl, wds_flat, _, rfl, ?_⟩
              have fin : Same H6 H7 := s6.trans s7
              cases hin : inV (.str nm) (wds.map V.str) with
              | false =>
                refine ifT (by rfl) ?_
                refine ⟨_, rfl, acc.map V.str, s7 _ _ h2, by rw [List.length_map, sizeLine_eq]; omega, acc ++ [nm], ?_, ?_, ?_, ?_, ?_⟩
                · rw [upd_same, List.map_append]
                  rfl
                · intro y hy
                  rcases List.mem_append.mp hy with hy | hy
                  · exact h3 y hy
                  · rw [List.mem_singleton.mp hy]
                    rw [inV_str] at hit hin
                    exact ⟨okn, nameS_of okn nmn (of_decide_eq_false hin), of_decide_eq_false hit⟩
                · intro j nm' _ _ _ _ z
                  simp at z
                · rw [List.length_append]
                  show acc.length + 1 ≤ i + 1
                  omega
                · intro b o e
                  rw [upd_ne (ne_of_none e hR)]
                  exact fin _ _ e
              | true =>
                refine ifF (by rfl) ?_
                exact ⟨acc, s7 _ _ h2, h3, keep fin (.inr hin), by omega, fin⟩
          · rintro H7 ⟨acc, h2, h3, h4, h5, s6⟩
            have hlc : ((cands x).map V.str).length = 91 := by
              rw [List.length_map]
              unfold cands
              rw [List.length_cons, List.length_map, List.length_range]
            cases acc with
            | nil =>
              obtain ⟨i0, hi0, hf⟩ := free_cnd x hts
              have q : (cands x)[i0 + 1]? = some (cnd x i0) := by
                show ((List.range 90).map (cnd x))[i0]? = _
                rw [List.getElem?_map, List.getElem?_range hi0]
                rfl
              exact absurd rfl (h4 (i0 + 1) (cnd x i0) (by omega) q (inV_str.trans (decide_eq_false hf)) (not_word okx hi0))
            | cons y r =>
              refine ⟨R, _, 0, .str y, rfl, rfl, SqL.of h2, atI_nat (j := 0) rfl, ?_⟩
              obtain ⟨y1, y2, y3⟩ := h3 y (List.mem_cons_self ..)
              exact k y H7 (okS_mono y1 (by decide)) (S4.keep (s5.trans s6)) (kp4.trans (Kp.of (s5.trans s6))) y2 y3
end
end K1

set_option Elab.async false
set_option linter.all false
set_option pp.maxSteps 700
set_option maxRecDepth 100000
set_option maxHeartbeats 2000000
namespace K1
open PySem PySem.Spec PyProof.Rows L2
open TL (tl)
open LamX (GivesTo CodeO Tabs TabS TabB tLam pe_lamcall lamCx lamEnv lamS_by ExtN)
abbrev sCgt : Stmt := top 39
/-! ### an error that was caught and is kept -/
def exh (a : Addr) (cls : Value) (d : Option Addr) : HO := .ext fun h => ∃ (oe : Obj) (vs : Array Value), h.get? a = some oe ∧ Zc cls d oe ∧ oe.data = .fields vs
theorem exh_ok {P : Program} {w : World} {H : Hp} {h : Heap} {a : Addr} {cls : Value} {d : Option Addr} {oe : Obj} {vs : Array Value} (e : h.get? a = some oe) (z : Zc cls d oe) (hd : oe.data = .fields vs) : ObjOk P w H h a (exh a cls d) :=
  ⟨⟨oe, vs, e, z, hd⟩, ⟨oe, e⟩, fun h1 h2 x k => by
    obtain ⟨o1, v1, e1, z1, d1⟩ := x
    exact ⟨o1, v1, k _ e1, z1, d1⟩⟩
theorem exh_at {P : Program} {w : World} {H : Hp} {h : Heap} {a : Addr} {cls : Value} {d : Option Addr} (hok : HOk P w H h) (e : H a = some (exh a cls d)) : ∃ (oe : Obj) (vs : Array Value), h.get? a = some oe ∧ Zc cls d oe ∧ oe.data = .fields vs := by
  have x : ObjOk P w H h a (.ext fun h => ∃ (oe : Obj) (vs : Array Value), h.get? a = some oe ∧ Zc cls d oe ∧ oe.data = .fields vs) := hok a _ e
  exact x.1
section
variable {X : Cx} {pins : List (Addr × Obj)} {σ : L2.St} {H : Hp} {s : Shared}
theorem inv_track {a : Addr} {oe : Obj} {vs : Array Value} {cls : Value} {d : Option Addr} (I : Inv X pins σ H s) (ha : s.heap.get? a = some oe) (hz : Zc cls d oe) (hd : oe.data = .fields vs) (na : H a = none)
    (n0 : X.s_0.heap.get? a = none) (nL : a ≠ X.env.locals) (np : ∀ p ∈ X.pn ++ pins, p.1 ≠ a) : Inv X pins σ (upd H a (exh a cls d)) s := by
  have nH : ∀ {b : Addr} {o : HO}, H b = some o → b ≠ a := fun {b o} e => ne_of_none e na
  refine ⟨I.ok, I.os, I.bare, ⟨I.base.keep, I.base.slot, ?_, I.base.there, ?_, ?_, ?_⟩, I.loc, I.cell, ?_, ?_, ?_, ?_, I.len⟩
  · intro b o q n hx
    have : b ≠ a := fun z => by rw [z, n0] at q; cases q
    rw [upd_ne this]
    exact I.base.free b o q n hx
  · intro b xs q
    have q1 := I.base.tups b xs q
    rw [upd_ne (nH q1)]
    exact q1
  · intro b o u q
    have q1 := I.base.frzs b o u q
    rw [upd_ne (nH q1)]
    exact q1
  · intro b ps q
    obtain ⟨more, q1⟩ := I.base.tbls b ps q
    exact ⟨more, by rw [upd_ne (nH q1)]; exact q1⟩
  · rw [upd_ne nL.symm]
    exact I.free
  · intro x c e
    obtain ⟨v, o, h1, h2⟩ := I.cell x c e
    have : c ≠ a := fun z => by
      rw [z, ha] at h1
      cases h1
      rw [hd] at h2
      cases h2
    rw [upd_ne this]
    exact I.freeC x c e
  · intro p hp
    obtain ⟨p1, p2, p3, p4, p5⟩ := I.pin p hp
    exact ⟨p1, by rw [upd_ne (np p hp)]; exact p2, p3, p4, p5⟩
  · intro b o e
    by_cases hb : b = a
    · subst hb
      rw [upd_same] at e
      cases e
      exact exh_ok ha hz hd
    · rw [upd_ne hb] at e
      exact (I.hok b o e).stay (fun c v _ q => q) (fun c q => by rw [upd_ne (nH q)]; exact q) fun c xs q => by rw [upd_ne (nH q)]; exact q
end
/-- try .. except x as n: the error stays known behind the suite -/
def wKp (K : PySem.W.Frag) (c : Value) (i : Nat) (ts : Addr → Value → Option Addr → TS) (Wout : WX) (D : Ends) : WX := fun cls d σ H =>
  ∃ b, PySem.W.exmOne K cls c = some b ∧ (b = true → ∀ a, H a = none → ts a cls d { nx := fun σ' H' => D.nx (σ'.set i none) (upd H' a (exh a cls d)), rt := fun v H' => D.rt v (upd H' a (exh a cls d)), bk := fun σ' H' => D.bk (σ'.set i none) (upd H' a (exh a cls d)), ct := fun σ' H' => D.ct (σ'.set i none) (upd H' a (exh a cls d)) } (σ.set i (some (.ref a))) H) ∧ (b = false → Wout cls d σ H)
section
variable {X : Cx} {x n : Str} {c : Value} {i : Nat} {body suite : List Stmt} {b₀ : Stmt} {np pos pos' : Pos} {tb : WX → TS} {ts : Addr → Value → Option Addr → TS} {Wout : WX}
theorem ps_try_keep (hs : X.stack = X.env :: X.outer) (hf : X.env.frame = some X.env.locals) (hex : X.ex = []) (hN : X.N.Nodup) (hi : X.N[i]? = some n) (hln : X.env.kindOf n = some .local) (hc : Names X x c) (tk : Takes X Wout)
    (hb : ∀ (W : WX) (pn : List (Addr × Obj)) (xe : Value → Shared → Prop), Takes (X.tr pn xe) W → PassesOwn (model X.prog X.w) X.A X.env xe → PSs (X.tr pn xe) body (tb W))
    (hsu : ∀ (a : Addr) (oe : Obj) (cls : Value) (d : Option Addr) (pn : List (Addr × Obj)), Zc cls d oe → (∃ vs, oe.data = .fields vs) → PSs (X.suite a ((a, oe) :: pn)) (b₀ :: suite) (ts a cls d)) :
    PS X (.Try body [.ExceptHandler (some (.Name x np)) (some n) (b₀ :: suite) pos'] [] [] pos) (fun D σ H => tb (wKp X.K c i ts Wout D) D σ H) := by
  refine ⟨fun pins s σ H D I h => ?_⟩
  have ok := I.ok
  have hfr : X.A.frames = some (X.env :: X.outer) := by rw [ok.frames, hs]
  have hloc : Loc X.env.scope n := .inl hln
  refine wpAny_Try_except ?_
  refine wpAny_mono ((hb (wKp X.K c i ts Wout D) (X.pn ++ pins) (fun e s₁ => wpAny (model X.prog X.w) X.A (noteFrame e X.env) (fun _ s₂ => wpAny (model X.prog X.w) X.A (setFlight e none) (fun _ s₃ =>
    wpAny (model X.prog X.w) X.A (handleBy e X.env [.ExceptHandler (some (.Name x np)) (some n) (b₀ :: suite) pos']) (SP X pins D) X.xe s₃) X.xe s₂) X.xe s₁) (fun u s' xx => ?_) PassesOwn.looking).run [] s σ H D (I.toTry _) h) (fun f s1 hsp => ?_) (fun e s1 he => he)
  · obtain ⟨a, B, sI, pins', σ', H', cls, d, rfl, J', nb, up, sky, na, os, ag, b, hb1, hyes, hno⟩ := xx
    have J : Inv X pins σ' H' sI := J'.ofTry ok
    have sky' : Sky B (X.env :: X.outer) a (Zc cls d) X.env.locals s'.heap := by rw [← hs]; exact sky
    show wpAny (model X.prog X.w) X.A (noteFrame (.ref a) X.env) _ _ _
    refine Sky.land Zc.steady hfr hf sky' fun h3 fl3 up3 => ?_
    have J3 : Inv X pins σ' H' { s' with heap := h3 } := J.landed nb fl3.1 (up.trans up3) os ag
    obtain ⟨oe3, vs3, he3, hz3, hd3⟩ := fl3.there
    have nfr : a ∉ frs (X.env :: X.outer) := fun hm => by
      obtain ⟨_, o', e', hnf⟩ := fl3.2.2.1.mem hm
      rw [he3] at e'; cases e'
      exact hnf _ hd3
    have nL : a ≠ X.env.locals := fun z => nfr (List.mem_filterMap.mpr ⟨X.env, List.mem_cons_self, by rw [hf, z]⟩)
    have nF : a ∉ X.fs := fun hm => by
      obtain ⟨e, he, q⟩ := List.mem_filterMap.mp hm
      exact nfr (List.mem_filterMap.mpr ⟨e, List.mem_cons_of_mem _ he, q⟩)
    have ba : B.get? a = none := fl3.2.1
    have nS : a ∉ frs X.stack := by rw [hs]; exact nfr
    -- the error is newer than the def's entry, and than all that is pinned
    have nI : sI.heap.get? a = none := by
      cases e : sI.heap.get? a with
      | none => rfl
      | some o =>
        have := nb a o e nS
        rw [ba] at this
        cases this
    have n0 : X.s_0.heap.get? a = none := by
      cases e : X.s_0.heap.get? a with
      | none => rfl
      | some o =>
        obtain ⟨o', e'⟩ := J.base.there a o e (by rw [hex]; exact List.not_mem_nil)
        rw [nI] at e'
        cases e'
    have npn : ∀ p ∈ X.pn ++ pins, p.1 ≠ a := fun p hp z => by
      have := (J.pin p hp).1
      rw [z, nI] at this
      cases this
    have S3 := J3.suite he3 hd3 na nL nF
    refine wpAny_handleBy_cons (codeAny_handlers_test ?_) (by intro q; cases q)
    have LT : PySem.W.Looks (model X.prog X.w) h3 (typeOf (.ref a)) cls := fun A Q E s k q => wpAny_typeOf_ref (k _ _ he3) (by rw [hz3.1]; exact q)
    have LM := PySem.W.exm_one (M := model X.prog X.w) (J3.kIn) LT hb1
    have test : ∀ {Q : Value → Shared → Prop} {E : Value → Shared → Prop}, Q c { s' with heap := h3 } → wpAny (model X.prog X.w) (X.A.mark (some (.ref a))) (eval (.Name x np) X.env) Q E { s' with heap := h3 } := fun {Q E} q => by
      obtain ⟨hg, hdbg, hm | ⟨hm, hv, hnn⟩⟩ := hc
      · exact ld_glob (X := X.suite a ((a, oe3) :: (X.pn ++ pins))) S3 hg hm q hdbg
      · exact ld_blt (X := X.suite a ((a, oe3) :: (X.pn ++ pins))) S3 hg hm hv q hnn hdbg
    refine test (LM.here ?_)
    cases b with
    | true =>
      refine codeAny_handlers_suite_as ?_
      refine HandSPX.lands_againZ fl3 fun h4 fl4 up4 => ?_
      have J4 : Inv X pins σ' H' { s' with heap := h4 } := J.landed nb fl4.1 ((up.trans up3).trans up4) os ag
      obtain ⟨oe4, vs4, he4, hz4, hd4⟩ := fl4.there
      have S4 := J4.suite he4 hd4 na nL nF
      refine store_ok (X := X.suite a ((a, oe4) :: (X.pn ++ pins))) (v := .ref a) S4 hN hi hloc rfl (fun s5 S5 => ?_) (.inr hln)
      refine wpAny_mono ((hsu a oe4 cls d (X.pn ++ pins) hz4 ⟨_, hd4⟩).run [] s5 _ H' _ S5 (hyes rfl a na)) (fun f s6 hsp => ?_) (fun _ _ z => False.elim z)
      have end_ : ∀ {σ6 : L2.St} {H6 : Hp} {Q : Shared → Prop}, Inv (X.suite a ((a, oe4) :: (X.pn ++ pins))) [] σ6 H6 s6 → (∀ s7, Inv X pins (σ6.set i none) (upd H6 a (exh a cls d)) s7 → Q s7) →
          wpAny (model X.prog X.w) X.A (do bindName X.env n .none; unbindBehindTheSuite X.env n pos') (fun _ s7 => Q s7) X.xe s6 := fun {σ6 H6 Q} S6 hq => by
        obtain ⟨g1, g2, _, _, _⟩ := S6.pin (a, oe4) (List.mem_append_left _ List.mem_cons_self)
        exact gone_ok (inv_track (S6.unsuite ok) g1 hz4 hd4 g2 n0 nL npn) hN hi hln hq
      cases f with
      | next =>
        obtain ⟨σ6, H6, S6, q6⟩ := hsp
        exact end_ S6 fun s7 J7 => ⟨_, _, J7, q6⟩
      | brk =>
        obtain ⟨σ6, H6, S6, q6⟩ := hsp
        exact end_ S6 fun s7 J7 => ⟨_, _, J7, q6⟩
      | cont =>
        obtain ⟨σ6, H6, S6, q6⟩ := hsp
        exact end_ S6 fun s7 J7 => ⟨_, _, J7, q6⟩
      | ret u =>
        obtain ⟨v6, σ6, H6, S6, r6, q6⟩ := hsp
        exact end_ S6 fun s7 J7 => ⟨_, _, _, J7, r6, q6⟩
    | false =>
      show wpAny _ X.A (handleBy (.ref a) X.env []) _ _ _
      refine wpAny_handleBy_nil ?_
      obtain ⟨k1, k2, k3, oe, vs, T, oT, ts', he, hz, hd, h1, hr⟩ := id fl3
      unfold PySem.passOn
      refine wpAny_bind (wpAny_field he hd h1 ?_)
      rw [if_neg (show ¬ ((Value.ref T == Value.none) = true) from by simp)]
      have fin : wpAny (model X.prog X.w) X.A (setFlight (.ref a) X.env.frame) (fun _ s4 => wpAny (model X.prog X.w) X.A (throw (.ref a) : Sem Flow) (SP X pins D) X.xe s4) X.xe { s' with heap := h3 } := by
        rw [hf]
        refine HandSPX.setFlight_upZ fl3 fun h4 hh4 up4 => wpAny_throw (tk _ _ ?_)
        exact ⟨a, B, sI, pins, σ', H', cls, d, rfl, J, nb, (up.trans up3).trans up4, .inr (.inr (by rw [hs]; exact hh4)), na, os, ag, hno rfl⟩
      first
        | exact wpAny_bind (wpAny_pure (wpAny_bind fin))
        | exact wpAny_bind fin
  · cases f with
    | next =>
      obtain ⟨σ', H', J', q⟩ := hsp
      exact wpAny_execs_nil ⟨σ', H', J'.ofTry ok, q⟩
    | brk =>
      obtain ⟨σ', H', J', q⟩ := hsp
      exact ⟨σ', H', J'.ofTry ok, q⟩
    | cont =>
      obtain ⟨σ', H', J', q⟩ := hsp
      exact ⟨σ', H', J'.ofTry ok, q⟩
    | ret u =>
      obtain ⟨v, σ', H', J', r, q⟩ := hsp
      exact ⟨v, σ', H', J'.ofTry ok, r, q⟩
end
/-! ### what is asked of a kept error -/
theorem exh_inst {X : Cx} {pins : List (Addr × Obj)} {σ : L2.St} {H : Hp} {s : Shared} {a D dd : Addr} {fs : List (Str × V)} (I : Inv X pins σ H s) (h1 : H a = some (exh a (.ref D) (some dd))) (h2 : H dd = some (.xd fs)) :
    ∃ (oe od : Obj) (mA : Str → Option Value), PySem.W.InstAt s.heap a oe D (some od) ∧ (∀ f, RelO (fs.lookup f) (mA f)) ∧ ∀ n, PySem.W.lookIn n od = some (mA n) := by
  obtain ⟨oe, vs, ha, hz, hd⟩ := exh_at I.hok h1
  have hx : ObjOk X.prog X.w H s.heap dd (.xd fs) := I.hok dd _ h2
  obtain ⟨mA, hns, hr⟩ := hx
  obtain ⟨od, ho, hl⟩ := lookIn_ns hns
  exact ⟨oe, od, mA, ⟨ha, hz.1, by unfold PySem.W.notCls; rw [hd] <;> rfl, by rw [hz.2]; exact ho⟩, hr, hl⟩
/-- isinstance(e, c), e a kept error of the class at D -/
def rIsH (K : PySem.W.Frag) (D : Addr) : List V → Hp → VK → Prop := fun xs H Q => ∃ (a dd : Addr) (fs : List (Str × V)) (c : V) (cv : Value) (b : Bool), xs = [.ref a, c] ∧ (∀ u, RelV c u → u = cv) ∧ H a = some (exh a (.ref D) (some dd)) ∧ H dd = some (.xd fs) ∧
  PySem.W.kitOne K (.ref D) cv = some b ∧ Q (.bl b) H
theorem call_isH {X : Cx} {D : Addr} (C : ExcC X.K D) : CallR X (.builtin "isinstance") (rIsH X.K D) := by
  intro pins s σ H xs us Q I r h
  obtain ⟨a, dd, fs, c, cv, b, rfl, hcv, h1, h2, e, q⟩ := h
  obtain ⟨u1, u2, rfl, r1, r2⟩ := vals2 r
  cases r1
  have ec := hcv _ r2
  subst ec
  obtain ⟨oe, od, mA, J, _, _⟩ := exh_inst I h1 h2
  have hcl : (PySem.W.clsIn X.K D).isSome = true := by
    obtain ⟨cd, hc, _⟩ := PySem.W.any_some C.hd
    rw [hc]
    rfl
  exact PySem.W.kia_one (PySem.W.kitx_exc hcl C.hg C.hk C.hs C.ha C.hn C.ht C.hm) I.kIn J e (fun z => nomatch z) fun tk => ⟨.bl b, H, I.kept (t' := tk) fun _ _ z => z, rfl, q⟩
theorem pss_len {X : Cx} {body : List Stmt} {t : TS} {n : Nat} (h : PSs X body t) (hn : X.N.length = n) : PSs X body (fun D σ H => σ.length = n → t D σ H) :=
  ⟨fun pins s σ H D I hh => h.run pins s σ H D I (hh (I.len.trans hn))⟩
theorem pe_weak {X : Cx} {e : Expr} {te : TE} (he : PE X e te) : PE X e (fun σ H Q => ∃ Qc : VK, te σ H Qc ∧ ∀ v H1, Qc v H1 → Q v H1) := by
  refine ⟨fun pins s σ H Q I h => ?_⟩
  obtain ⟨Qc, h, k⟩ := h
  exact thn (he.run pins s σ H Qc I h) fun u s1 ⟨v, H1, I1, r, q⟩ => ⟨v, H1, I1, r, k v H1 q⟩
/-- f(k = v, ..) -/
theorem pe_callK0 {X : Cx} {CX : CXT} {k : Nat} {f : Addr} {fd : FuncData} {ps ks : List Str} {sp : Sp} {E : XK} {x : Str} {p pos : Pos} {kws : List Keyword} {tk : TA} {g : List Value → List Value → List Value} {gV : List V → List V → List V}
    (F : FnOk X.prog X.w X.K X.mg X.base CX k f fd ps sp) (hr : Room k X.A) (hg : Gl X x) (hm : X.mg x = some (.ref f)) (hk : PySem.W.keepIn X.K (.ref f) = true) (hb : KBinds X.K fd ps ks g gV) (hx : Passes CX X E)
    (hkw : PK X kws tk) (hall : (backToKw pos (keywordEach kws X.env)).all (·.1.isSome) = true := by rfl) (hks : (backToKw pos (keywordEach kws X.env)).filterMap (·.1) = ks := by rfl)
    (hdb : (x == ("__debug__" : Str)) = false := by decide) (hpl : ((backTo pos (starEach [] X.env)).any (·.1) || (backToKw pos (keywordEach kws X.env)).any (·.1.isNone)) = false := by rfl) :
    PE X (.Call (.Name x p) [] kws pos) (fun σ H Q => tk σ H fun zs H2 => sp (gV [] zs) H2 Q E) := by
  refine ⟨fun pins s σ H Q I h => ?_⟩
  refine wpAny_Call_Name_kw (ld_glob I hg hm ?_ hdb)
  refine PySem.W.callWith_KW0 (h₀ := X.base) I.ok.mod.kin hk hall ?_ hpl
  refine thn (hkw.run pos pins s σ H _ I h) fun ws s2 ⟨zs, H2, I2, rz, q2⟩ => ⟨I2.kIn, ?_⟩
  rw [hks]
  exact run_fnk F hr hb hx I2 .nil rz q2
/-- _law_caught(action): what the call raises, kept; or None -/
def TTc (K : PySem.W.Frag) (CE : Addr) : (XK → Hp → VK → Prop) → Hp → VK → Prop := fun tl H Q =>
  tl (fun cls d H1 => ∃ b, PySem.W.exmOne K cls (.ref CE) = some b ∧ (b = true → ∀ a, H1 a = none → Q (.ref a) (upd H1 a (exh a cls d))) ∧ (b = false → False)) H (fun _ H1 => Q .non H1)
abbrev NC : List Str := ["action", "found", "error"]
theorem scC : FnScope NC ["action"] (defScope sCgt) := ⟨rfl, rfl, rfl, by decide +kernel, rfl, by decide +kernel, by decide +kernel⟩
theorem caught_gives {X : Cx} {CE g : Addr} {cdg : Value} {q : Str} (hme : X.mg "ClockError" = some (.ref CE)) : GivesTo X NC "_law_caught" (defScope sCgt) g cdg (defBody sCgt) "action" q (TTc X.K CE) := by
  intro f c' s H Q tl act hc h
  refine ⟨_, pss_cons (ps_set (i := 1) scC.nd rfl (Or.inl rfl) pe_non)
    (pss_cons (ps_try_keep (X := (cxOf C8.CX0 X.prog X.w X.K X.mg X.base NC "_law_caught" (defScope sCgt) g cdg X.A X.stack s H C8.E0).nox) (c := .ref CE) (i := 2)
      (tb := fun W D σ H => ∃ (Ech : XK) (Qc : VK), (∀ cls d σ' H', Ech cls d H' → W cls d σ' H') ∧ σ[0]? = some (some (.ref f)) ∧ H c' = some (CodeO c' q) ∧ tl Ech H Qc ∧ ∀ v H1, Qc v H1 → D.nx σ H1)
      rfl rfl rfl scC.nd rfl rfl ⟨rfl, rfl, .inl hme⟩ takes0 (fun W pn xe tk _ => ?_) (fun a oe cls d pn _ _ => pss_len (X := Cx.suite (cxOf C8.CX0 X.prog X.w X.K X.mg X.base NC "_law_caught" (defScope sCgt) g cdg X.A X.stack s H C8.E0).nox a ((a, oe) :: pn)) (n := 3) (pss_one (ps_set (i := 1) scC.nd rfl (Or.inl rfl) (pv 2))) rfl))
    (pss_one (ps_ret (pv 1)))), ?_⟩
  · refine ⟨fun pins s' σ H' D I h' => ?_⟩
    obtain ⟨Ech, Qc, hW, h1, h2, h3, h4⟩ := h'
    have hp := fun p1 p2 => act W pn xe Ech p1 p2 tk hW
    exact (pss_one (ps_expr (pe_weak (hp _ _)))).run pins s' σ H' D I ⟨Qc, ⟨h1, h2, h3⟩, h4⟩
  · refine ⟨_, _, ?_, rfl, hc, h, fun v H1 q => ⟨_, rfl, q⟩⟩
    rintro cls d σ' H' ⟨b, e1, e2, e3⟩
    refine ⟨b, e1, fun hb a ha hl => ?_, fun hb => (e3 hb).elim⟩
    match σ', hl with
    | [x, y, z], _ => exact ⟨_, rfl, _, rfl, e2 hb a ha⟩
    | [], hl => simp at hl
    | [_], hl => simp at hl
    | [_, _], hl => simp at hl
    | _ :: _ :: _ :: _ :: _, hl => simp at hl
end K1

set_option Elab.async false
set_option linter.all false
set_option pp.maxSteps 700
set_option maxRecDepth 100000
set_option maxHeartbeats 2000000
namespace K1
open PySem PySem.Spec PyProof.Rows L2
open TL (tl)
/-! ### any value that the law makes, as data -/
inductive Dt where
  | non | bl (b : Bool) | int (i : Int) | str (s : Str) | lst (l : List Dt) | tup (l : List Dt) | dic
mutual
inductive DV (g : Addr) (H : Hp) : V → Dt → Prop
  | non : DV g H .non .non
  | bl (b : Bool) : DV g H (.bl b) (.bl b)
  | int (i : Int) : DV g H (.int i) (.int i)
  | str {s : Str} (h : s.length ≤ 1000) : DV g H (.str s) (.str s)
  | lst {a : Addr} {xs : List V} {ds : List Dt} (e : H a = some (.lst xs)) (n : a ≠ g) (h : ds.length ≤ 1000) (r : DVs g H xs ds) : DV g H (.ref a) (.lst ds)
  | tup {a : Addr} {xs : List V} {ds : List Dt} (e : H a = some (.tup xs)) (h : ds.length ≤ 1000) (r : DVs g H xs ds) : DV g H (.ref a) (.tup ds)
  | dic {a : Addr} (e : H a = some (.dK [])) : DV g H (.ref a) .dic
inductive DVs (g : Addr) (H : Hp) : List V → List Dt → Prop
  | nil : DVs g H [] []
  | cons {v : V} {vs : List V} {d : Dt} {ds : List Dt} (h : DV g H v d) (r : DVs g H vs ds) : DVs g H (v :: vs) (d :: ds)
end
structure Kv (g : Addr) (H H' : Hp) : Prop where
  lst : ∀ b xs, H b = some (.lst xs) → b ≠ g → H' b = some (.lst xs)
  tup : ∀ b xs, H b = some (.tup xs) → H' b = some (.tup xs)
  dic : ∀ b, H b = some (.dK []) → H' b = some (.dK [])
theorem Kv.of {g : Addr} {H H' : Hp} (s : Same H H') : Kv g H H' := ⟨fun b xs e _ => s _ _ e, fun b xs e => s _ _ e, fun b e => s _ _ e⟩
theorem Kv.trans {g : Addr} {H H1 H2 : Hp} (a : Kv g H H1) (b : Kv g H1 H2) : Kv g H H2 := ⟨fun c xs e n => b.lst _ _ (a.lst _ _ e n) n, fun c xs e => b.tup _ _ (a.tup _ _ e), fun c e => b.dic _ (a.dic _ e)⟩
theorem Kv.kp {g d c : Addr} {H H' : Hp} {n : Nat} (S : StA H d g c n) (k : Kp d g H H') : Kv g H H' := by
  obtain ⟨r, t, gs, cs, S⟩ := S
  refine ⟨fun b xs e n => k _ _ e (fun z => ?_) n, fun b xs e => k _ _ e (fun z => ?_) (fun z => ?_), fun b e => k _ _ e (fun z => ?_) (fun z => ?_)⟩
  · rw [z, S.dk] at e
    cases e
  · rw [z, S.dk] at e
    cases e
  · rw [z, S.gl] at e
    cases e
  · rw [z, S.dk] at e
    have q := Option.some.inj e
    unfold StKV at q
    cases q
  · rw [z, S.gl] at e
    cases e
mutual
theorem DV.keep {g : Addr} {H H' : Hp} (k : Kv g H H') : ∀ {v : V} {d : Dt}, DV g H v d → DV g H' v d
  | _, _, .non => .non
  | _, _, .bl b => .bl b
  | _, _, .int i => .int i
  | _, _, .str h => .str h
  | _, _, .lst e n h r => .lst (k.lst _ _ e n) n h (DVs.keep k r)
  | _, _, .tup e h r => .tup (k.tup _ _ e) h (DVs.keep k r)
  | _, _, .dic e => .dic (k.dic _ e)
theorem DVs.keep {g : Addr} {H H' : Hp} (k : Kv g H H') : ∀ {v : List V} {d : List Dt}, DVs g H v d → DVs g H' v d
  | _, _, .nil => .nil
  | _, _, .cons h r => .cons (DV.keep k h) (DVs.keep k r)
end
theorem DVs.len {g : Addr} {H : Hp} : ∀ {xs : List V} {ds : List Dt}, DVs g H xs ds → xs.length = ds.length
  | _, _, .nil => rfl
  | _, _, .cons _ r => congrArg (· + 1) r.len
theorem DVs.at_ {g : Addr} {H : Hp} : ∀ {xs : List V} {ds : List Dt}, DVs g H xs ds → ∀ {i : Nat} {v : V}, xs[i]? = some v → ∃ d, ds[i]? = some d ∧ DV g H v d
  | _, _, .nil, _, _, e => by cases e
  | _, _, .cons h r, 0, _, e => by
    obtain rfl := Option.some.inj e
    exact ⟨_, rfl, h⟩
  | _, _, .cons h r, i + 1, _, e => r.at_ (i := i) e
theorem DVs.at' {g : Addr} {H : Hp} : ∀ {xs : List V} {ds : List Dt}, DVs g H xs ds → ∀ {i : Nat} {d : Dt}, ds[i]? = some d → ∃ v, xs[i]? = some v ∧ DV g H v d
  | _, _, .nil, _, _, e => by cases e
  | _, _, .cons h r, 0, _, e => by
    obtain rfl := Option.some.inj e
    exact ⟨_, rfl, h⟩
  | _, _, .cons h r, i + 1, _, e => r.at' (i := i) e
theorem DVs.app {g : Addr} {H : Hp} : ∀ {xs ys : List V} {ds es : List Dt}, DVs g H xs ds → DVs g H ys es → DVs g H (xs ++ ys) (ds ++ es)
  | _, _, _, _, .nil, q => q
  | _, _, _, _, .cons h r, q => .cons h (r.app q)
def isStr : Dt → Bool | .str _ => true | _ => false
def isTup : Dt → Bool | .tup _ => true | _ => false
def isBl : Dt → Bool | .bl _ => true | _ => false
def isInt : Dt → Bool | .int _ => true | _ => false
theorem DV.ty {K : PySem.W.Frag} {g : Addr} {H : Hp} {v : V} {d : Dt} (h : DV g H v d) : ∃ t, TyX K H v t ∧ PySem.W.kitOne K t (.type "str") = some (isStr d) ∧ PySem.W.kitOne K t (.type "tuple") = some (isTup d) ∧
    PySem.W.kitOne K t (.type "bool") = some (isBl d) ∧ PySem.W.kitOne K t (.type "int") = some (isInt d || isBl d) := by
  cases h with
  | non => exact ⟨_, .base .non, kit_ty (show kitB "NoneType" "str" = some false by decide +kernel), kit_ty (show kitB "NoneType" "tuple" = some false by decide +kernel), kit_ty (show kitB "NoneType" "bool" = some false by decide +kernel), kit_ty (show kitB "NoneType" "int" = some false by decide +kernel)⟩
  | bl b => exact ⟨_, .base (.bl _), kit_ty (show kitB "bool" "str" = some false by decide +kernel), kit_ty (show kitB "bool" "tuple" = some false by decide +kernel), kit_ty (show kitB "bool" "bool" = some true by decide +kernel), kit_ty (show kitB "bool" "int" = some true by decide +kernel)⟩
  | int i => exact ⟨_, .base (.int _), kit_ty (show kitB "int" "str" = some false by decide +kernel), kit_ty (show kitB "int" "tuple" = some false by decide +kernel), kit_ty (show kitB "int" "bool" = some false by decide +kernel), kit_ty (show kitB "int" "int" = some true by decide +kernel)⟩
  | str h => exact ⟨_, .base (.str _), kit_ty (show kitB "str" "str" = some true by decide +kernel), kit_ty (show kitB "str" "tuple" = some false by decide +kernel), kit_ty (show kitB "str" "bool" = some false by decide +kernel), kit_ty (show kitB "str" "int" = some false by decide +kernel)⟩
  | lst e n h r => exact ⟨_, .base (.lst e), kit_ty (show kitB "list" "str" = some false by decide +kernel), kit_ty (show kitB "list" "tuple" = some false by decide +kernel), kit_ty (show kitB "list" "bool" = some false by decide +kernel), kit_ty (show kitB "list" "int" = some false by decide +kernel)⟩
  | tup e h r => exact ⟨_, .base (.tup e), kit_ty (show kitB "tuple" "str" = some false by decide +kernel), kit_ty (show kitB "tuple" "tuple" = some true by decide +kernel), kit_ty (show kitB "tuple" "bool" = some false by decide +kernel), kit_ty (show kitB "tuple" "int" = some false by decide +kernel)⟩
  | dic e => exact ⟨_, .base (.dK e), kit_ty (show kitB "dict" "str" = some false by decide +kernel), kit_ty (show kitB "dict" "tuple" = some false by decide +kernel), kit_ty (show kitB "dict" "bool" = some false by decide +kernel), kit_ty (show kitB "dict" "int" = some false by decide +kernel)⟩
/-! ### any value == a text -/
section
open PySem.SeqAt
variable {s : Shared}
theorem dict_eq_str_no (l : Addr) (c : Value) (es : Array DictEntry) (n : Nat) (dd : Option Addr) (sl : Array (Option Value)) (b : Str) (u : PySem.Tok) :
    Meets (Builtin.«dict.__eq__» ⟨[.ref l, .str b u], []⟩) (fun _ R s => c = .type "dict" ∧ s.heap.get? l = some { cls := c, dict := dd, data := .dict es n, slots := sl } ∧ R (.ok (.ret .notImplemented)) s) :=
  .of_wp fun prog w A R s h => by obtain ⟨hp, g, d, tk, os⟩ := s; obtain ⟨rfl, ho, h⟩ := h; have f1 := PySem.F.sub_str_dict; wp_walk using wpAny_loadPart' ho; exact ⟨_, rfl, h⟩
theorem str_eq_dict_no (b : Str) (u : PySem.Tok) (l : Addr) (c : Value) (es : Array DictEntry) (n : Nat) (dd : Option Addr) (sl : Array (Option Value)) :
    Meets (Builtin.«str.__eq__» ⟨[.str b u, .ref l], []⟩) (fun _ R s => s.heap.get? l = some { cls := c, dict := dd, data := .dict es n, slots := sl } ∧ R (.ok (.ret .notImplemented)) s) :=
  .of_wp fun prog w A R s h => by obtain ⟨hp, g, d, tk, os⟩ := s; obtain ⟨ho, h⟩ := h; wp_walk using wpAny_loadPart' ho, wpAny_load ho; exact ⟨_, rfl, h⟩
theorem rc_dict_str {A : Around} {l : Addr} {c : Value} {es : Array DictEntry} {n : Nat} {dd : Option Addr} {sl : Array (Option Value)} (b : Str) (u : PySem.Tok) (hc : c = .type "dict") (ho : s.heap.get? l = some { cls := c, dict := dd, data := .dict es n, slots := sl }) (hu : A.units < cLine) :
    RcAt A s (.ref l) (.str b u) false := by
  intro prog w E Q h
  exact rc_eq_decline_or (k := false) ⟨_, ho, hc⟩ (typeIs_str s b u) (by decide) PySem.F.sub_str_dict PySem.F.slot_dict_eq PySem.F.slot_str_eq_refl
    (fun _ q => call_meets PySem.F.slot_dict_eq ⟨_, ho, hc⟩ PySem.F.entry_dict_eq (PySem.F.args_dict_eq_2 _ _) (dict_eq_str_no l c es n dd sl b u) ⟨hc, ho, q⟩)
    (fun _ q => call_meets PySem.F.slot_str_eq_refl (typeIs_str s b u) PySem.F.entry_str_eq (PySem.F.args_str_eq_2 _ _) (str_eq_dict_no b u l c es n dd sl) ⟨ho, q⟩)
    (fun _ q => wpAny_of_eq (rfl : isSame (.ref l) (.str b u) = pure false) q) (.inr hu) h
end
def eqS (d : Dt) (z : Str) : Bool := match d with
  | .str s => s == z
  | _ => false
section
variable {X : Cx}
theorem op_eqS (hu : X.A.units + 64 < cLine) : OpR X (compareOp .Eq) (fun x y H Q => ∃ (g : Addr) (d : Dt) (z : Str), y = .str z ∧ DV g H x d ∧ Q (.bl (eqS d z)) H) := by
  intro pins s σ H x y v u Q I rx ry h
  obtain ⟨g, d, z, rfl, hd, q⟩ := h
  obtain ⟨tz, rfl⟩ := (show ∃ t, u = Value.str z t from ry)
  have hu' : X.A.units < cLine := by omega
  cases hd with
  | non =>
    cases (show v = Value.none from rx)
    exact SeqAt.RcAt.none_str z tz _ _ _ _ (fin_bl I q rfl)
  | bl b =>
    cases (show v = Value.bool b from rx)
    exact SeqAt.RcAt.bool_str b z tz _ _ _ _ (fin_bl I q rfl)
  | int i =>
    obtain ⟨ti, rfl⟩ := (show ∃ t, v = Value.int i t from rx)
    exact SeqAt.RcAt.int_str i ti z tz _ _ _ _ (fin_bl I q rfl)
  | @str b hb =>
    obtain ⟨ti, rfl⟩ := (show ∃ t, v = Value.str b t from rx)
    exact SeqAt.RcAt.str_str b ti z tz _ _ _ _ (fin_bl I q rfl)
  | @lst a xs ds e n h r =>
    cases (show v = Value.ref a from rx)
    obtain ⟨us, r1, p1, _⟩ := I.list (SqL.of e : SqL X.K H a xs)
    exact SeqAt.RcAt.list_str z tz p1.isList hu' _ _ _ _ (fin_bl I q rfl)
  | @tup a xs ds e h r =>
    cases (show v = Value.ref a from rx)
    obtain ⟨us, r1, p1, _⟩ := I.tuple (SqT.of e : SqT X.K H a xs)
    exact SeqAt.RcAt.tuple_str z tz p1 hu' _ _ _ _ (fin_bl I q rfl)
  | @dic a e =>
    cases (show v = Value.ref a from rx)
    obtain ⟨_, _, _, _, o, es, ep, ho, hx, hd, _⟩ := (show ObjOk X.prog X.w H s.heap a (.dK []) from I.hok a _ e)
    obtain ⟨oc, od, odt, osl⟩ := o
    cases (show odt = .dict es ep from hd)
    exact rc_dict_str z tz hx.1 ho hu' _ _ _ _ (fin_bl I q rfl)
end
end K1

set_option Elab.async false
set_option linter.all false
set_option pp.maxSteps 700
set_option maxRecDepth 100000
set_option maxHeartbeats 2000000
namespace K1
open PySem PySem.Spec PyProof.Rows L2
open TL (tl)
abbrev sWhl : Stmt := top 5
abbrev sWin : Stmt := top 6
abbrev sTof : Stmt := top 7
abbrev sTin : Stmt := top 8
abbrev sDbl : Stmt := top 9
abbrev sNm : Stmt := top 19
abbrev sPl : Stmt := top 20
/-! ### what the document calls a name -/
def nameB : Dt → Bool | .str s => nameS s | _ => false
def plainS (s : Str) : Bool := s == "number" || s == "truth"
def plainB : Dt → Bool | .str s => plainS s | _ => false
def lenIs (n : Nat) : Dt → Bool | .tup l => decide (l.length = n) | _ => false
def lenIn (lo hi : Int) : Dt → Bool | .tup l => decide (lo ≤ (l.length : Int)) && decide ((l.length : Int) ≤ hi) | _ => false
def intIn (lo hi : Int) : Dt → Bool | .int i => decide (lo ≤ i) && decide (i ≤ hi) | _ => false
/-- a question about any value -/
def spAsk (f : Dt → Bool) : Sp := fun vs H Q _ => ∃ (g : Addr) (v : V) (d : Dt), vs = [v] ∧ DV g H v d ∧ ∀ H', Same H H' → Q (.bl (f d)) H'
def spWin : Sp := fun vs H Q _ => ∃ (g : Addr) (v : V) (d : Dt) (lo hi : Int), vs = [v, .int lo, .int hi] ∧ DV g H v d ∧ ∀ H', Same H H' → Q (.bl (intIn lo hi d)) H'
def spTof : Sp := fun vs H Q _ => ∃ (g : Addr) (v : V) (d : Dt) (n : Nat), vs = [v, .int (n : Nat)] ∧ DV g H v d ∧ ∀ H', Same H H' → Q (.bl (lenIs n d)) H'
def spTin : Sp := fun vs H Q _ => ∃ (g : Addr) (v : V) (d : Dt) (lo hi : Int), vs = [v, .int lo, .int hi] ∧ DV g H v d ∧ ∀ H', Same H H' → Q (.bl (lenIn lo hi d)) H'
def spDbl (K : PySem.W.Frag) : Sp := fun vs H Q _ => ∃ (a : Addr) (xs : List Str), vs = [.ref a] ∧ SqL K H a (xs.map V.str) ∧ xs.length < 1000 ∧ ∀ H', Same H H' → Q (.bl (!decide xs.Nodup)) H'
structure MgP (K : PySem.W.Frag) (mg : Str → Option Value) (fWhl : Addr) : Prop where
  whl : mg "is_whole" = some (.ref fWhl)
  kwhl : PySem.W.keepIn K (.ref fWhl) = true
  lett : ∃ t, mg "LETTERS" = some (.str L26 t)
  digt : ∃ t, mg "DIGITS" = some (.str D10 t)
  resv : ∃ a, mg "RESERVED" = some (.ref a) ∧ ∀ H, SqT K H a (wds.map V.str)
  msig : ∃ t, mg "MOST_SIGNS" = some (.int 8 t)
  isi : mg "isinstance" = none
  len : mg "len" = none
  str : mg "str" = none
  int : mg "int" = none
  bol : mg "bool" = none
  tpl : mg "tuple" = none
  all : mg "all" = none
  set : mg "set" = none
section
variable {P : Program} {w : World} {K : PySem.W.Frag} {mg : Str → Option Value} {base : Heap}
theorem scWhl : FnScope ["value"] ["value"] (defScope sWhl) := ⟨rfl, rfl, rfl, by decide +kernel, rfl, by decide +kernel, by decide +kernel⟩
theorem ok_whl {f fW : Addr} {fd : FuncData} (F : Fun K "is_whole" "is_whole" sWhl f fd) (T : MgP K mg fW) : FnOk P w K mg base CX0 1 f fd ["value"] (spAsk isInt) := by
  refine F.ok scWhl (fun vs H Q E h => ?_) (fun cdv A outer s H vs Q E hr h => ?_)
  · obtain ⟨g, v, d, rfl, _⟩ := h
    rfl
  · obtain ⟨g, v, d, rfl, hd, k⟩ := h
    obtain ⟨t, ht, k1, k2, k3, k4⟩ := hd.ty (K := K)
    refine ⟨_, pss_one (ps_ret (pe_and (pe_callB call_isi (by rfl) T.isi (by decide +kernel) (pa_cons (pv 0) (pa_cons (pe_bltn (v := .ty "int") (by rfl) T.int boot_int rfl) pa_nil)))
      (pe_one (pe_not (pe_callB call_isi (by rfl) T.isi (by decide +kernel) (pa_cons (pv 0) (pa_cons (pe_bltn (v := .ty "bool") (by rfl) T.bol boot_bool rfl) pa_nil))))))), ?_⟩
    refine ⟨_, rfl, _, _, _, _, _, rfl, .ty "int", ht, k4, _, rfl, ?_⟩
    cases d with
    | int i => exact iteT ⟨_, rfl, _, _, _, _, _, rfl, .ty "bool", ht, k3, _, rfl, k H (Same.refl H)⟩
    | bl b => exact iteT ⟨_, rfl, _, _, _, _, _, rfl, .ty "bool", ht, k3, _, rfl, k H (Same.refl H)⟩
    | non => exact iteF (k H (Same.refl H))
    | str s => exact iteF (k H (Same.refl H))
    | lst l => exact iteF (k H (Same.refl H))
    | tup l => exact iteF (k H (Same.refl H))
    | dic => exact iteF (k H (Same.refl H))
theorem scWin : FnScope ["value", "low", "high"] ["value", "low", "high"] (defScope sWin) := ⟨rfl, rfl, rfl, by decide +kernel, rfl, by decide +kernel, by decide +kernel⟩
theorem ok_win {f fW : Addr} {fd fdW : FuncData} (F : Fun K "is_within" "is_within" sWin f fd) (T : MgP K mg fW) (FW : Fun K "is_whole" "is_whole" sWhl fW fdW) (bW : L2.Binds K fdW ["value"] []) : FnOk P w K mg base CX0 2 f fd ["value", "low", "high"] spWin := by
  have GW : FnOk P w K mg base CX0 1 fW fdW ["value"] (spAsk isInt) := ok_whl FW T
  refine F.ok scWin (fun vs H Q E h => ?_) (fun cdv A outer s H vs Q E hr h => ?_)
  · obtain ⟨g, v, d, lo, hi, rfl, _⟩ := h
    rfl
  · obtain ⟨g, v, d, lo, hi, rfl, hd, k⟩ := h
    refine ⟨_, pss_one (ps_ret (pe_and (pe_call GW hr (by rfl) T.whl T.kwhl bW .nil pass0 (pa_cons (pv 0) pa_nil)) (pe_one (pe_chain op_le op_le (pv 1) (pv 0) (pv 2))))), ?_⟩
    refine ⟨_, rfl, g, v, d, rfl, hd, fun H' s => ⟨_, rfl, ?_⟩⟩
    cases hd with
    | int i =>
      refine iteT ⟨_, rfl, _, rfl, _, _, rfl, rfl, _, rfl, ?_⟩
      have e : intIn lo hi (.int i) = (decide (lo ≤ i) && decide (i ≤ hi)) := rfl
      by_cases h1 : lo ≤ i
      · rw [decide_eq_true h1] at e ⊢
        refine iteT ⟨_, rfl, _, _, rfl, rfl, ?_⟩
        have q := k H' s
        rw [e] at q
        exact q
      · rw [decide_eq_false h1] at e ⊢
        refine iteF ?_
        have q := k H' s
        rw [e] at q
        exact q
    | bl b => exact iteF (k H' s)
    | non => exact iteF (k H' s)
    | str z => exact iteF (k H' s)
    | lst _ _ _ _ => exact iteF (k H' s)
    | tup _ _ _ => exact iteF (k H' s)
    | dic _ => exact iteF (k H' s)
theorem scTof : FnScope ["value", "many"] ["value", "many"] (defScope sTof) := ⟨rfl, rfl, rfl, by decide +kernel, rfl, by decide +kernel, by decide +kernel⟩
theorem ok_tof {f fW : Addr} {fd : FuncData} (F : Fun K "is_tuple_of" "is_tuple_of" sTof f fd) (T : MgP K mg fW) : FnOk P w K mg base CX0 1 f fd ["value", "many"] spTof := by
  refine F.ok scTof (fun vs H Q E h => ?_) (fun cdv A outer s H vs Q E hr h => ?_)
  · obtain ⟨g, v, d, n, rfl, _⟩ := h
    rfl
  · obtain ⟨g, v, d, n, rfl, hd, k⟩ := h
    obtain ⟨t, ht, k1, k2, k3, k4⟩ := hd.ty (K := K)
    refine ⟨_, pss_one (ps_ret (pe_and (pe_callB call_isi (by rfl) T.isi (by decide +kernel) (pa_cons (pv 0) (pa_cons (pe_bltn (v := .ty "tuple") (by rfl) T.tpl boot_tuple rfl) pa_nil)))
      (pe_one (pe_cmpR op_eq (pe_callB call_len_seq (by rfl) T.len PySem.boot_len (pa_cons (pv 0) pa_nil)) (pv 1) (nomark _))))), ?_⟩
    refine ⟨_, rfl, _, _, _, _, _, rfl, .ty "tuple", ht, k2, _, rfl, ?_⟩
    cases hd with
    | @tup a xs ds e h r =>
      refine iteT ⟨_, rfl, a, xs, rfl, .inr (SqT.of e), _, rfl, rfl, ?_⟩
      have q := k H (Same.refl H)
      have e2 : decide (V.int (xs.length : Nat) = V.int (n : Nat)) = lenIs n (.tup ds) := by
        rw [r.len]
        show _ = decide (ds.length = n)
        rw [decide_eq_decide]
        exact ⟨fun z => by injection z with z; omega, fun z => by rw [z]⟩
      rw [e2]
      exact q
    | int i => exact iteF (k H (Same.refl H))
    | bl b => exact iteF (k H (Same.refl H))
    | non => exact iteF (k H (Same.refl H))
    | str z => exact iteF (k H (Same.refl H))
    | lst _ _ _ _ => exact iteF (k H (Same.refl H))
    | dic _ => exact iteF (k H (Same.refl H))
theorem scTin : FnScope ["value", "low", "high"] ["value", "low", "high"] (defScope sTin) := ⟨rfl, rfl, rfl, by decide +kernel, rfl, by decide +kernel, by decide +kernel⟩
theorem ok_tin {f fW : Addr} {fd : FuncData} (F : Fun K "is_tuple_within" "is_tuple_within" sTin f fd) (T : MgP K mg fW) : FnOk P w K mg base CX0 1 f fd ["value", "low", "high"] spTin := by
  refine F.ok scTin (fun vs H Q E h => ?_) (fun cdv A outer s H vs Q E hr h => ?_)
  · obtain ⟨g, v, d, lo, hi, rfl, _⟩ := h
    rfl
  · obtain ⟨g, v, d, lo, hi, rfl, hd, k⟩ := h
    obtain ⟨t, ht, k1, k2, k3, k4⟩ := hd.ty (K := K)
    refine ⟨_, pss_one (ps_ret (pe_and (pe_callB call_isi (by rfl) T.isi (by decide +kernel) (pa_cons (pv 0) (pa_cons (pe_bltn (v := .ty "tuple") (by rfl) T.tpl boot_tuple rfl) pa_nil)))
      (pe_one (pe_chain op_le op_le (pv 1) (pe_callB call_len_seq (by rfl) T.len PySem.boot_len (pa_cons (pv 0) pa_nil)) (pv 2))))), ?_⟩
    refine ⟨_, rfl, _, _, _, _, _, rfl, .ty "tuple", ht, k2, _, rfl, ?_⟩
    cases hd with
    | @tup a xs ds e h r =>
      refine iteT ⟨_, rfl, _, rfl, a, xs, rfl, .inr (SqT.of e), _, _, rfl, rfl, _, rfl, ?_⟩
      have q := k H (Same.refl H)
      have e2 : lenIn lo hi (.tup ds) = (decide (lo ≤ (xs.length : Int)) && decide ((xs.length : Int) ≤ hi)) := by
        rw [r.len]
        rfl
      rw [e2] at q
      by_cases h1 : lo ≤ (xs.length : Int)
      · rw [decide_eq_true h1] at q ⊢
        exact iteT ⟨_, rfl, _, _, rfl, rfl, q⟩
      · rw [decide_eq_false h1] at q ⊢
        exact iteF q
    | int i => exact iteF (k H (Same.refl H))
    | bl b => exact iteF (k H (Same.refl H))
    | non => exact iteF (k H (Same.refl H))
    | str z => exact iteF (k H (Same.refl H))
    | lst _ _ _ _ => exact iteF (k H (Same.refl H))
    | dic _ => exact iteF (k H (Same.refl H))
theorem scDbl : FnScope ["rows"] ["rows"] (defScope sDbl) := ⟨rfl, rfl, rfl, by decide +kernel, rfl, by decide +kernel, by decide +kernel⟩
theorem ok_dbl {f fW : Addr} {fd : FuncData} (F : Fun K "has_doubles" "has_doubles" sDbl f fd) (T : MgP K mg fW) : FnOk P w K mg base CX0 1 f fd ["rows"] (spDbl K) := by
  refine F.ok scDbl (fun vs H Q E h => ?_) (fun cdv A outer s H vs Q E hr h => ?_)
  · obtain ⟨a, xs, rfl, _⟩ := h
    rfl
  · obtain ⟨a, xs, rfl, hS, few, k⟩ := h
    refine ⟨_, pss_one (ps_ret (pe_cmpR op_lt (pe_lenTxts rfl (by rfl) T.len (by rfl) T.set (pv 0)) (pe_callB call_len_seq (by rfl) T.len PySem.boot_len (pa_cons (pv 0) pa_nil)) (nomark _))), ?_⟩
    refine ⟨_, rfl, a, xs, rfl, hS, few, _, rfl, a, _, rfl, .inl hS, _, _, rfl, rfl, ?_⟩
    have q := k H (Same.refl H)
    rw [← met_dup xs] at q
    have e : decide (((met xs).length : Int) < ((xs.map V.str).length : Int)) = decide ((met xs).length < xs.length) := by
      rw [List.length_map, decide_eq_decide]
      omega
    show Q (.bl (decide (((met xs).length : Int) < ((xs.map V.str).length : Int)))) H
    rw [e]
    exact q
theorem scPl : FnScope ["value"] ["value"] (defScope sPl) := ⟨rfl, rfl, rfl, by decide +kernel, rfl, by decide +kernel, by decide +kernel⟩
theorem two_str {s a b : Str} : inV (.str s) [.str a, .str b] = (s == a || s == b) := by
  show ((a == s) || ((b == s) || false)) = _
  rw [Bool.or_false, Bool.beq_comm (a := a), Bool.beq_comm (a := b)]
theorem ok_pl {f fW : Addr} {fd : FuncData} (F : Fun K "is_plain" "is_plain" sPl f fd) (T : MgP K mg fW) : FnOk P w K mg base CX0 1 f fd ["value"] (spAsk plainB) := by
  refine F.ok scPl (fun vs H Q E h => ?_) (fun cdv A outer s H vs Q E hr h => ?_)
  · obtain ⟨g, v, d, rfl, _⟩ := h
    rfl
  · obtain ⟨g, v, d, rfl, hd, k⟩ := h
    obtain ⟨t, ht, k1, k2, k3, k4⟩ := hd.ty (K := K)
    refine ⟨_, pss_one (ps_ret (pe_and (pe_callB call_isi (by rfl) T.isi (by decide +kernel) (pa_cons (pv 0) (pa_cons (pe_bltn (v := .ty "str") (by rfl) T.str boot_str rfl) pa_nil)))
      (pe_one (pe_cmpR op_in_seq (pv 0) (pe_tup (pa_cons pe_str (pa_cons pe_str pa_nil))) (by rfl))))), ?_⟩
    refine ⟨_, rfl, _, _, _, _, _, rfl, .ty "str", ht, k1, _, rfl, ?_⟩
    cases hd with
    | @str z h =>
      refine iteT ⟨_, rfl, (by show 2 ≤ sizeLine; decide), fun p hp => ⟨p, _, rfl, .inr (SqT.of upd_same), rfl, rfl, ?_⟩⟩
      have q := k _ (same_new (o := .tup [V.str "number", V.str "truth"]) hp)
      have e : inV (.str z) [.str "number", .str "truth"] = plainB (.str z) := two_str
      rw [← e] at q
      exact q
    | tup _ _ _ => exact iteF (k H (Same.refl H))
    | int i => exact iteF (k H (Same.refl H))
    | bl b => exact iteF (k H (Same.refl H))
    | non => exact iteF (k H (Same.refl H))
    | lst _ _ _ _ => exact iteF (k H (Same.refl H))
    | dic _ => exact iteF (k H (Same.refl H))
end
end K1

set_option Elab.async false
set_option linter.all false
set_option pp.maxSteps 700
set_option maxRecDepth 100000
set_option maxHeartbeats 2000000
namespace K1
open PySem PySem.Spec PyProof.Rows L2
open TL (tl)
section
variable {P : Program} {w : World} {K : PySem.W.Frag} {mg : Str → Option Value} {base : Heap}
theorem scNm : FnScope ["value", "sign"] ["value"] (defScope sNm) := ⟨rfl, rfl, rfl, by decide +kernel, rfl, by decide +kernel, by decide +kernel⟩
theorem first_sign {s : Str} (h : 1 ≤ s.length) : atI s.cps.toList 0 = some ((tl s).getD 0 0) := by
  rw [TL.len_tl] at h
  have e : (tl s)[0]? = some ((tl s).getD 0 0) := by
    rw [List.getD_eq_getElem?_getD, List.getElem?_eq_getElem (by omega)]
    rfl
  exact atI_nat (j := 0) e
theorem all_take {l : List Nat} {f : Nat → Bool} : (l.map f).all id = l.all f := by
  induction l with
  | nil => rfl
  | cons x l ih => rw [List.map_cons, List.all_cons, List.all_cons, ih]; rfl
theorem ok_nm {f fW : Addr} {fd : FuncData} (F : Fun K "is_name" "is_name" sNm f fd) (T : MgP K mg fW) : FnOk P w K mg base CX0 1 f fd ["value"] (spAsk nameB) := by
  refine F.ok scNm (fun vs H Q E h => ?_) (fun cdv A outer s H vs Q E hr h => ?_)
  · obtain ⟨g, v, d, rfl, _⟩ := h
    rfl
  · obtain ⟨g, v, d, rfl, hd, k⟩ := h
    obtain ⟨t, ht, k1, k2, k3, k4⟩ := hd.ty (K := K)
    obtain ⟨tL, eL⟩ := T.lett
    obtain ⟨tD, eD⟩ := T.digt
    obtain ⟨tS, eS⟩ := T.msig
    obtain ⟨aR, eR, hR⟩ := T.resv
    refine ⟨_, pss_cons (ps_if (PW.pt (pw_or (pt_not (pt_val (pe_callB call_isi (by rfl) T.isi (by decide +kernel) (pa_cons (pv 0) (pa_cons (pe_bltn (v := .ty "str") (by rfl) T.str boot_str rfl) pa_nil)))))
        (pw_or (pt_not (pt_chain op_le op_le pe_int (pe_callB call_len_str (by rfl) T.len PySem.boot_len (pa_cons (pv 0) pa_nil)) (pe_glob (v := .int 8) (by rfl) eS ⟨_, rfl⟩)))
          (pw_or1 (pt_cmpR op_notIn_sign (pe_ix ix_str (pv 0) pe_int (fun _ _ => rfl)) (pe_glob (v := .str L26) (by rfl) eL ⟨_, rfl⟩) (by rfl))))))
        (pss_one (ps_ret pe_bl)) pss_nil)
      (pss_one (ps_ret (pe_and (pe_callB (cr_all rfl) (by rfl) T.all (by decide +kernel) (pa_cons (pe_lc (own := [("sign", 1)]) (g := gName 1) (tt := tYes) (by rfl) scNm.nd (pi_str (pv 0))
          (blkOk_by (own := [("sign", 1)]) (N := ["value", "sign"]) (sc := defScope sNm) (by decide +kernel)) (fun _ _ _ _ _ => pg_name (i := 1) scNm.nd rfl (Or.inl rfl)) (fun _ _ _ _ _ => pts_nil)
          (fun _ _ _ _ _ => pe_or (pe_cmpR op_in_sign (pv 1) (pe_glob (v := .str L26) (by rfl) eL ⟨_, rfl⟩) (by rfl)) (pe_one (pe_cmpR op_in_sign (pv 1) (pe_glob (v := .str D10) (by rfl) eD ⟨_, rfl⟩) (by rfl))))) pa_nil))
        (pe_one (pe_cmpR op_notIn_seq (pv 0) (pe_glob (v := .ref aR) (by rfl) eR rfl) (by rfl)))))), ?_⟩
    refine ⟨_, rfl, _, _, _, _, _, rfl, .ty "str", ht, k1, _, rfl, ?_⟩
    cases hd with
    | @str z hz =>
      refine iteF ?_
      have zs : z.length ≤ sizeLine := by rw [sizeLine_eq]; omega
      refine ⟨_, rfl, z, rfl, zs, _, _, rfl, rfl, _, rfl, ?_⟩
      have q := k
      by_cases h1 : 1 ≤ z.length
      · refine ifT (decide_eq_true (by omega)) ?_
        refine ⟨_, _, rfl, rfl, _, rfl, ?_⟩
        by_cases h2 : z.length ≤ 8
        · rw [decide_eq_true (show (z.length : Int) ≤ 8 by omega)]
          refine iteF ?_
          refine ⟨_, rfl, z, 0, _, rfl, rfl, zs, first_sign h1, _, _, rfl, rfl, _, rfl, ?_⟩
          have e0 : nameS z = (isLet ((tl z).getD 0 0) && ((tl z).all isSgn && !decide (z ∈ wds))) := by
            unfold nameS
            rw [decide_eq_true h1, decide_eq_true h2]
            rfl
          cases h3 : isLet ((tl z).getD 0 0) with
          | false =>
            refine ifT (by show (!isLet _) = true; rw [h3]; rfl) ?_
            rw [h3] at e0
            have q1 := q H (Same.refl H)
            rw [show nameB (.str z) = false from e0] at q1
            exact q1
          | true =>
            refine ifF (by show (!isLet _) = false; rw [h3]; rfl) ?_
            rw [h3] at e0
            -- all(..)
            refine ⟨_, rfl, z, rfl, fun D hD => lc_it walk_str (fun i H' => H' D = some (.lst (((tl z).take i).map (fun c => V.bl (isSgn c)))) ∧ Same H H') ⟨upd_same, same_new hD⟩ (fun _ _ _ _ => True.intro) ?_ ?_⟩
            · rintro i x H1 H1' hi ⟨h4, s1⟩ ⟨rfl, c, hc, rfl⟩
              refine ⟨rfl, ?_⟩
              have fin : ∀ b, b = isSgn c → ∃ acc, H1' D = some (.lst acc) ∧ acc.length < sizeLine ∧ (upd H1' D (.lst (acc ++ [V.bl b]))) D = some (.lst (((tl z).take (i + 1)).map (fun c => V.bl (isSgn c)))) ∧ Same H (upd H1' D (.lst (acc ++ [V.bl b]))) := by
                intro b hb
                refine ⟨_, h4, ?_, ?_, ?_⟩
                · have := TL.len_tl z
                  rw [List.length_map, List.length_take, sizeLine_eq]
                  omega
                · rw [upd_same, hb]
                  have hc' : (tl z)[i]? = some c := by
                    rw [← hc, ← Array.getElem?_toList]
                  rw [List.take_succ, hc', List.map_append]
                  rfl
                · intro b' o e
                  rw [upd_ne (ne_of_none e hD)]
                  exact s1 _ _ e
              refine ⟨_, rfl, c, _, rfl, rfl, _, rfl, ?_⟩
              cases h5 : isLet c with
              | true =>
                refine ifT h5 ?_
                exact fin true (by unfold isSgn; rw [h5]; rfl)
              | false =>
                refine ifF h5 ?_
                refine ⟨_, rfl, c, _, rfl, rfl, ?_⟩
                exact fin _ (by unfold isSgn; rw [h5]; rfl)
            · rintro H1 ⟨h4, s1⟩
              have e1 : (tl z).take z.cps.size = tl z := by
                have : (tl z).length = z.cps.size := Array.length_toList
                rw [← this, List.take_length]
              rw [e1] at h4
              refine ⟨D, (tl z).map isSgn, rfl, SqL.of (by rw [List.map_map]; exact h4), _, rfl, ?_⟩
              rw [all_take]
              have q1 := q H1 s1
              rw [show nameB (.str z) = (true && ((tl z).all isSgn && !decide (z ∈ wds))) from e0] at q1
              cases h6 : (tl z).all isSgn with
              | false =>
                rw [h6] at q1
                exact iteF q1
              | true =>
                rw [h6] at q1
                refine iteT ⟨_, rfl, aR, _, rfl, .inr (hR _), rfl, wds_flat, ?_⟩
                show Q (.bl (!inV (.str z) (wds.map V.str))) H1
                rw [inV_str]
                exact q1
        · rw [decide_eq_false (show ¬ (z.length : Int) ≤ 8 by omega)]
          refine iteT ?_
          have q1 := q H (Same.refl H)
          have e0 : nameB (.str z) = false := by
            show nameS z = false
            unfold nameS
            rw [decide_eq_false h2, Bool.and_false]
            rfl
          rw [e0] at q1
          exact q1
      · refine ifF (decide_eq_false (by omega)) ?_
        refine ⟨_, rfl, iteT ?_⟩
        have q1 := q H (Same.refl H)
        have e0 : nameB (.str z) = false := by
          show nameS z = false
          unfold nameS
          rw [decide_eq_false h1]
          rfl
        rw [e0] at q1
        exact q1
    | tup _ _ _ => exact iteT (k H (Same.refl H))
    | int i => exact iteT (k H (Same.refl H))
    | bl b => exact iteT (k H (Same.refl H))
    | non => exact iteT (k H (Same.refl H))
    | lst _ _ _ _ => exact iteT (k H (Same.refl H))
    | dic _ => exact iteT (k H (Same.refl H))
end
end K1

set_option Elab.async false
set_option linter.all false
set_option pp.maxSteps 700
set_option maxRecDepth 100000
set_option maxHeartbeats 2000000
namespace K1
open PySem PySem.Spec PyProof.Rows L2
open TL (tl)
abbrev sKd : Stmt := top 21
abbrev sFm : Stmt := top 22
abbrev sFl : Stmt := top 23
abbrev sWc : Stmt := top 24
abbrev sNk : Stmt := top 29
/-! ### what the document calls a kind -/
def pairF (f : Dt → Bool) : Dt → Bool
  | .tup [x, y] => nameB x && f y
  | _ => false
def nmOf : Dt → Str
  | .tup [.str s, _] => s
  | _ => ""
def fieldsF (f : Dt → Bool) : Dt → Bool
  | .tup l => (decide (1 ≤ (l.length : Int)) && decide ((l.length : Int) ≤ 6)) && (l.all (pairF f) && decide (l.map nmOf).Nodup)
  | _ => false
def form2 (fl fm : Dt → Bool) : List Dt → Bool
  | [x, y] => eqS x "record" && fl y
  | [x, y, z] => eqS x "row" && (intIn 1 64 y && fm z)
  | _ => false
def formed : Nat → Dt → Bool
  | _, .str s => plainS s
  | n + 2, .tup l => form2 (fieldsF (formed (n + 1))) (formed (n + 1)) l
  | _, _ => false
def sndW (f : Dt → Int) : Dt → Int
  | .tup [_, z] => f z
  | _ => 0
def sumW (f : Dt → Int) : Dt → Int
  | .tup l => (l.map (sndW f)).sum
  | _ => 0
def intOf : Dt → Int
  | .int i => i
  | _ => 0
def words2 (w : Dt → Int) : List Dt → Int
  | [_, y] => sumW w y
  | [_, y, z] => intOf y * w z
  | _ => 0
def wordsN : Nat → Dt → Int
  | n + 2, .tup l => words2 (wordsN (n + 1)) l
  | _, _ => 1
theorem formed_one (l : List Dt) : formed 1 (.tup l) = false := rfl
theorem formed_two (n : Nat) (l : List Dt) : formed (n + 2) (.tup l) = form2 (fieldsF (formed (n + 1))) (formed (n + 1)) l := rfl
theorem formed_str (n : Nat) (s : Str) : formed n (.str s) = plainS s := by
  cases n with
  | zero => rfl
  | succ n => cases n <;> rfl
theorem words_two (n : Nat) (l : List Dt) : wordsN (n + 2) (.tup l) = words2 (wordsN (n + 1)) l := rfl
theorem words_str (n : Nat) (s : Str) : wordsN n (.str s) = 1 := by
  cases n with
  | zero => rfl
  | succ n => cases n <;> rfl
theorem formed_other {n : Nat} {d : Dt} (h1 : isStr d = false) (h2 : isTup d = false) : formed n d = false := by
  cases d with
  | str s => cases h1
  | tup l => cases h2
  | _ => cases n with
    | zero => rfl
    | succ n => cases n <;> rfl
theorem intIn_of {lo hi : Int} {d : Dt} (h : intIn lo hi d = true) : ∃ i, d = .int i ∧ lo ≤ i ∧ i ≤ hi := by
  cases d with
  | int i =>
    have h : (decide (lo ≤ i) && decide (i ≤ hi)) = true := h
    rw [Bool.and_eq_true] at h
    exact ⟨i, rfl, of_decide_eq_true h.1, of_decide_eq_true h.2⟩
  | _ => cases h
theorem eqS_of {d : Dt} {z : Str} (h : eqS d z = true) : d = .str z := by
  cases d with
  | str s => exact congrArg Dt.str (eq_of_beq h)
  | _ => cases h
theorem nameB_of {d : Dt} (h : nameB d = true) : ∃ s, d = .str s ∧ nameS s = true := by
  cases d with
  | str s => exact ⟨s, rfl, h⟩
  | _ => cases h
theorem pairF_of {f : Dt → Bool} {d : Dt} (h : pairF f d = true) : ∃ s y, d = .tup [.str s, y] ∧ nameS s = true ∧ f y = true := by
  unfold pairF at h
  split at h
  · rename_i x y
    rw [Bool.and_eq_true] at h
    obtain ⟨s, rfl, hs⟩ := nameB_of h.1
    exact ⟨s, y, rfl, hs, h.2⟩
  · cases h
theorem fieldsF_of {f : Dt → Bool} {d : Dt} (h : fieldsF f d = true) : ∃ l, d = .tup l ∧ 1 ≤ l.length ∧ l.length ≤ 6 ∧ (∀ p ∈ l, pairF f p = true) ∧ (l.map nmOf).Nodup := by
  cases d with
  | tup l =>
    have h : ((decide (1 ≤ (l.length : Int)) && decide ((l.length : Int) ≤ 6)) && (l.all (pairF f) && decide (l.map nmOf).Nodup)) = true := h
    simp only [Bool.and_eq_true, decide_eq_true_eq, List.all_eq_true] at h
    exact ⟨l, rfl, by omega, by omega, h.2.1, h.2.2⟩
  | _ => cases h
/-- the three forms of a kind -/
theorem formed_cases {n : Nat} {d : Dt} (h : formed n d = true) : (∃ s, d = .str s ∧ plainS s = true) ∨ ∃ m, n = m + 2 ∧
    ((∃ l, d = .tup [.str "record", .tup l] ∧ 1 ≤ l.length ∧ l.length ≤ 6 ∧ (∀ p ∈ l, pairF (formed (m + 1)) p = true) ∧ (l.map nmOf).Nodup) ∨ ∃ i z, d = .tup [.str "row", .int i, z] ∧ 1 ≤ i ∧ i ≤ 64 ∧ formed (m + 1) z = true) := by
  cases d with
  | str s => exact .inl ⟨s, rfl, by rw [formed_str] at h; exact h⟩
  | tup l =>
    match n, h with
    | 0, h => cases h
    | 1, h => cases h
    | m + 2, h =>
      refine .inr ⟨m, rfl, ?_⟩
      rw [formed_two] at h
      unfold form2 at h
      split at h
      · rename_i x y hh
        rw [Bool.and_eq_true] at h
        obtain rfl := eqS_of h.1
        obtain ⟨l, rfl, h1, h2, h3, h4⟩ := fieldsF_of h.2
        exact .inl ⟨l, rfl, h1, h2, h3, h4⟩
      · rename_i x y z hh
        rw [Bool.and_eq_true, Bool.and_eq_true] at h
        obtain rfl := eqS_of h.1
        obtain ⟨i, rfl, h1, h2⟩ := intIn_of h.2.1
        exact .inr ⟨i, z, rfl, h1, h2, h.2.2⟩
      · cases h
  | _ => rw [formed_other rfl rfl] at h; cases h
theorem sum_le {f : Dt → Int} {B : Int} : ∀ l : List Dt, (∀ x ∈ l, 1 ≤ f x ∧ f x ≤ B) → (l.length : Int) ≤ (l.map f).sum ∧ (l.map f).sum ≤ (l.length : Int) * B
  | [], _ => ⟨by simp, by simp⟩
  | x :: l, h => by
    obtain ⟨h1, h2⟩ := sum_le l fun y hy => h y (List.mem_cons_of_mem _ hy)
    obtain ⟨h3, h4⟩ := h x List.mem_cons_self
    simp only [List.map_cons, List.sum_cons, List.length_cons]
    have e : ((l.length + 1 : Nat) : Int) * B = (l.length : Int) * B + B := by
      rw [Int.natCast_add, Int.add_mul]
      simp
    omega
theorem words_bound : ∀ (n : Nat) (d : Dt), formed n d = true → 1 ≤ wordsN n d ∧ wordsN n d ≤ 64 ^ n
  | n, d, h => by
    rcases formed_cases h with ⟨s, rfl, _⟩ | ⟨m, rfl, ⟨l, rfl, h1, h2, h3, _⟩ | ⟨i, z, rfl, h1, h2, h3⟩⟩
    · rw [words_str]
      refine ⟨by decide, ?_⟩
      have : (0 : Int) < 64 ^ n := Int.pow_pos (by decide)
      omega
    · rw [words_two]
      show 1 ≤ (l.map (sndW (wordsN (m + 1)))).sum ∧ (l.map (sndW (wordsN (m + 1)))).sum ≤ _
      obtain ⟨q1, q2⟩ := sum_le (f := sndW (wordsN (m + 1))) (B := 64 ^ (m + 1)) l fun p hp => by
        obtain ⟨s, y, rfl, _, hy⟩ := pairF_of (h3 p hp)
        exact words_bound (m + 1) y hy
      have e : (64 : Int) ^ (m + 2) = 64 ^ (m + 1) * 64 := Int.pow_succ ..
      have p : (0 : Int) < 64 ^ (m + 1) := Int.pow_pos (by decide)
      have q3 : (l.length : Int) * 64 ^ (m + 1) ≤ 64 * 64 ^ (m + 1) := Int.mul_le_mul_of_nonneg_right (by omega) (by omega)
      omega
    · rw [words_two]
      show 1 ≤ i * wordsN (m + 1) z ∧ i * wordsN (m + 1) z ≤ _
      obtain ⟨q1, q2⟩ := words_bound (m + 1) z h3
      have e : (64 : Int) ^ (m + 2) = 64 ^ (m + 1) * 64 := Int.pow_succ ..
      have p : (0 : Int) < 64 ^ (m + 1) := Int.pow_pos (by decide)
      have q3 : 1 * 1 ≤ i * wordsN (m + 1) z := Int.mul_le_mul h1 q1 (by decide) (by omega)
      have q4 : i * wordsN (m + 1) z ≤ 64 * 64 ^ (m + 1) := Int.mul_le_mul h2 q2 (by omega) (by decide)
      omega
  termination_by n => n
  decreasing_by all_goals omega
end K1

set_option Elab.async false
set_option linter.all false
set_option pp.maxSteps 700
set_option maxRecDepth 100000
set_option maxHeartbeats 2000000
namespace K1
open PySem PySem.Spec PyProof.Rows L2
open TL (tl)
section
variable {g : Addr} {H : Hp} {v : V}
theorem DV.str_inv {s : Str} (h : DV g H v (.str s)) : v = .str s ∧ s.length ≤ 1000 := by
  cases h with
  | str h => exact ⟨rfl, h⟩
theorem DV.int_inv {i : Int} (h : DV g H v (.int i)) : v = .int i := by
  cases h with
  | int i => rfl
theorem DV.tup_inv {l : List Dt} (h : DV g H v (.tup l)) : ∃ b xs, v = .ref b ∧ H b = some (.tup xs) ∧ l.length ≤ 1000 ∧ DVs g H xs l := by
  cases h with
  | tup e h r => exact ⟨_, _, rfl, e, h, r⟩
theorem DV.tup2 {x y : Dt} (h : DV g H v (.tup [x, y])) : ∃ b vx vy, v = .ref b ∧ H b = some (.tup [vx, vy]) ∧ DV g H vx x ∧ DV g H vy y := by
  obtain ⟨b, xs, rfl, e, _, r⟩ := h.tup_inv
  cases r with
  | cons hx r =>
    cases r with
    | cons hy r =>
      cases r
      exact ⟨b, _, _, rfl, e, hx, hy⟩
theorem DV.tup3 {x y z : Dt} (h : DV g H v (.tup [x, y, z])) : ∃ b vx vy vz, v = .ref b ∧ H b = some (.tup [vx, vy, vz]) ∧ DV g H vx x ∧ DV g H vy y ∧ DV g H vz z := by
  obtain ⟨b, xs, rfl, e, _, r⟩ := h.tup_inv
  cases r with
  | cons hx r =>
    cases r with
    | cons hy r =>
      cases r with
      | cons hz r =>
        cases r
        exact ⟨b, _, _, _, rfl, e, hx, hy, hz⟩
end
def spFm (n : Nat) : Sp := fun vs H Q _ => 1 ≤ n ∧ ∃ (g : Addr) (v : V) (d : Dt), vs = [v, .int (n : Nat)] ∧ DV g H v d ∧ ∀ H', Same H H' → Q (.bl (formed n d)) H'
def spFl (n : Nat) : Sp := fun vs H Q _ => 1 ≤ n ∧ ∃ (g : Addr) (v : V) (d : Dt), vs = [v, .int (n : Nat)] ∧ DV g H v d ∧ ∀ H', Same H H' → Q (.bl (fieldsF (formed n) d)) H'
def spWc (n : Nat) : Sp := fun vs H Q _ => 1 ≤ n ∧ ∃ (g : Addr) (v : V) (d : Dt), vs = [v] ∧ DV g H v d ∧ formed n d = true ∧ ∀ H', Same H H' → Q (.int (wordsN n d)) H'
structure MgK (K : PySem.W.Frag) (mg : Str → Option Value) (fWhl fWin fTof fTin fDbl fNm fPl fFm fFl fWc : Addr) : Prop extends MgP K mg fWhl where
  win : mg "is_within" = some (.ref fWin)
  kwin : PySem.W.keepIn K (.ref fWin) = true
  tof : mg "is_tuple_of" = some (.ref fTof)
  ktof : PySem.W.keepIn K (.ref fTof) = true
  tin : mg "is_tuple_within" = some (.ref fTin)
  ktin : PySem.W.keepIn K (.ref fTin) = true
  dbl : mg "has_doubles" = some (.ref fDbl)
  kdbl : PySem.W.keepIn K (.ref fDbl) = true
  nme : mg "is_name" = some (.ref fNm)
  knme : PySem.W.keepIn K (.ref fNm) = true
  pln : mg "is_plain" = some (.ref fPl)
  kpln : PySem.W.keepIn K (.ref fPl) = true
  fm : mg "_is_formed" = some (.ref fFm)
  kfm : PySem.W.keepIn K (.ref fFm) = true
  fl : mg "_are_fields" = some (.ref fFl)
  kfl : PySem.W.keepIn K (.ref fFl) = true
  wc : mg "word_count" = some (.ref fWc)
  kwc : PySem.W.keepIn K (.ref fWc) = true
  mit : ∃ t, mg "MOST_ITEMS" = some (.int 64 t)
  mfi : ∃ t, mg "MOST_FIELDS" = some (.int 6 t)
  sum : mg "sum" = none
section
variable {P : Program} {w : World} {K : PySem.W.Frag} {mg : Str → Option Value} {base : Heap}
theorem scFl : FnScope ["value", "deep", "field"] ["value", "deep"] (defScope sFl) := ⟨rfl, rfl, rfl, by decide +kernel, rfl, by decide +kernel, by decide +kernel⟩
theorem fields_bad {f : Dt → Bool} {l : List Dt} {p : Dt} (hp : p ∈ l) (h : pairF f p = false) : fieldsF f (.tup l) = false := by
  show ((decide (1 ≤ (l.length : Int)) && decide ((l.length : Int) ≤ 6)) && (l.all (pairF f) && decide (l.map nmOf).Nodup)) = false
  have e : l.all (pairF f) = false := by
    rw [List.all_eq_false]
    exact ⟨p, hp, by rw [h]; simp⟩
  rw [e]
  simp
theorem fl_step {n : Nat} {f fW fWin fTof fTin fDbl fNm fPl fFm fFl fWc : Addr} {fd fdTof fdTin fdDbl fdNm fdFm : FuncData} (F : Fun K "_are_fields" "_are_fields" sFl f fd) (T : MgK K mg fW fWin fTof fTin fDbl fNm fPl fFm fFl fWc)
    (FTof : Fun K "is_tuple_of" "is_tuple_of" sTof fTof fdTof) (bTof : L2.Binds K fdTof ["value", "many"] []) (FTin : Fun K "is_tuple_within" "is_tuple_within" sTin fTin fdTin) (bTin : L2.Binds K fdTin ["value", "low", "high"] [])
    (FDbl : Fun K "has_doubles" "has_doubles" sDbl fDbl fdDbl) (bDbl : L2.Binds K fdDbl ["rows"] []) (FNm : Fun K "is_name" "is_name" sNm fNm fdNm) (bNm : L2.Binds K fdNm ["value"] [])
    (GFm : FnOk P w K mg base CX0 (2 * n + 1) fFm fdFm ["value", "deep"] (spFm n)) (bFm : L2.Binds K fdFm ["value", "deep"] []) : FnOk P w K mg base CX0 (2 * n + 2) f fd ["value", "deep"] (spFl n) := by
  have GTof : FnOk P w K mg base CX0 1 fTof fdTof ["value", "many"] spTof := ok_tof FTof T.toMgP
  have GTin : FnOk P w K mg base CX0 1 fTin fdTin ["value", "low", "high"] spTin := ok_tin FTin T.toMgP
  have GDbl : FnOk P w K mg base CX0 1 fDbl fdDbl ["rows"] (spDbl K) := ok_dbl FDbl T.toMgP
  have GNm : FnOk P w K mg base CX0 1 fNm fdNm ["value"] (spAsk nameB) := ok_nm FNm T.toMgP
  refine F.ok scFl (fun vs H Q E h => ?_) (fun cdv A outer s H vs Q E hr h => ?_)
  · obtain ⟨_, g, v, d, rfl, _⟩ := h
    rfl
  · obtain ⟨hn, g, v, d, rfl, hd, k⟩ := h
    obtain ⟨tF, eF⟩ := T.mfi
    have hr1 : Room 1 _ := hr.mono (by omega)
    refine ⟨_, pss_cons (ps_if (pt_not (pt_val (pe_call GTin hr1 (by rfl) T.tin T.ktin bTin .nil pass0 (pa_cons (pv 0) (pa_cons pe_int (pa_cons (pe_glob (v := .int 6) (by rfl) eF ⟨_, rfl⟩) pa_nil)))))) (pss_one (ps_ret pe_bl)) pss_nil)
      (pss_cons (ps_for PassesOwn.never rfl (pi_tup (pv 0)) (pg_name (i := 2) scFl.nd rfl (Or.inl rfl))
        (pss_one (ps_if (PW.pt (pw_or (pt_not (pt_val (pe_call GTof hr1 (by rfl) T.tof T.ktof bTof .nil pass0 (pa_cons (pv 2) (pa_cons pe_int pa_nil)))))
          (pw_or (pt_not (pt_val (pe_call GNm hr1 (by rfl) T.nme T.knme bNm .nil pass0 (pa_cons (pe_ix ix_tup (pv 2) pe_int (fun _ _ => rfl)) pa_nil))))
            (pw_or1 (pt_not (pt_val (pe_call GFm hr (by rfl) T.fm T.kfm bFm .nil pass0 (pa_cons (pe_ix ix_tup (pv 2) pe_int (fun _ _ => rfl)) (pa_cons (pv 1) pa_nil)))))))))
          (pss_one (ps_ret pe_bl)) pss_nil)))
      (pss_one (ps_ret (pe_not (pe_call GDbl hr1 (by rfl) T.dbl T.kdbl bDbl .nil pass0 (pa_cons (pe_lc (own := [("field", 2)]) (g := gName 2) (tt := tYes) (by rfl) scFl.nd (pi_tup (pv 0))
          (blkOk_by (own := [("field", 2)]) (N := ["value", "deep", "field"]) (sc := defScope sFl) (by decide +kernel)) (fun _ _ _ _ _ => pg_name (i := 2) scFl.nd rfl (Or.inl rfl)) (fun _ _ _ _ _ => pts_nil)
          (fun _ _ _ _ _ => pe_ix (show IxR _ (rIxT K) from ix_tup) (pv 2) pe_int (fun _ _ => rfl))) pa_nil)))))), ?_⟩
    refine ⟨_, rfl, g, v, d, 1, 6, rfl, hd, fun H1 s1 => ⟨_, rfl, ?_⟩⟩
    have hd1 := hd.keep (Kv.of s1)
    cases hd1 with
    | @tup a xs ds e hl r =>
      cases hin : lenIn 1 6 (.tup ds) with
      | false =>
        refine iteT ?_
        have q := k H1 s1
        have e0 : fieldsF (formed n) (.tup ds) = false := by
          show (lenIn 1 6 (.tup ds) && _) = false
          rw [hin]
          rfl
        rw [e0] at q
        exact q
      | true =>
        refine iteF ?_
        -- for field in value
        have hlen := r.len
        refine ⟨_, rfl, a, rfl, ⟨_, SqT.of e⟩, for_tup (K := K) (a := a) (xs := xs)
          (fun i σ H' => ∃ fv : Option V, σ = [some (.ref a), some (.int (n : Nat)), fv] ∧ Same H1 H' ∧ ∀ p ∈ ds.take i, pairF (formed n) p = true)
          ⟨none, rfl, Same.refl H1, fun p hp => by simp at hp⟩ (fun i σ H' _ ⟨_, _, s2, _⟩ => SqT.of (s2 _ _ e)) ?_ ?_⟩
        · rintro i x σ H' hi ⟨fv, rfl, s2, all⟩
          obtain ⟨p, hp, hx⟩ := r.at_ hi
          have hx := hx.keep (Kv.of s2)
          have bad : pairF (formed n) p = false → Q (.bl false) H' := fun z => by
            have q := k H' (s1.trans s2)
            rw [fields_bad (List.mem_of_getElem? hp) z] at q
            exact q
          have bad' : ∀ H2, Same H' H2 → pairF (formed n) p = false → Q (.bl false) H2 := fun H2 s3 z => by
            have q := k H2 ((s1.trans s2).trans s3)
            rw [fields_bad (List.mem_of_getElem? hp) z] at q
            exact q
          refine ⟨_, rfl, g, x, p, 2, rfl, hx, fun H2 s3 => ⟨_, rfl, ?_⟩⟩
          cases h2 : lenIs 2 p with
          | false =>
            refine iteT ?_
            refine bad' H2 s3 ?_
            unfold pairF
            split
            · cases h2
            · rfl
          | true =>
            refine iteF ?_
            obtain ⟨y, z, rfl⟩ : ∃ y z, p = .tup [y, z] := by
              cases p with
              | tup l =>
                match l, h2 with
                | [y, z], _ => exact ⟨y, z, rfl⟩
                | [], h2 => cases h2
                | [_], h2 => cases h2
                | a1 :: a2 :: a3 :: l', h2 =>
                  have h2 : decide ((a1 :: a2 :: a3 :: l').length = 2) = true := h2
                  rw [decide_eq_true_eq] at h2
                  simp at h2
              | _ => cases h2
            obtain ⟨b, vy, vz, rfl, hb, hy, hz⟩ := (hx.keep (Kv.of s3)).tup2
            refine ⟨_, rfl, b, _, 0, vy, rfl, rfl, SqT.of hb, atI_nat (j := 0) rfl, g, vy, y, rfl, hy, fun H3 s4 => ⟨_, rfl, ?_⟩⟩
            cases h3 : nameB y with
            | false =>
              refine iteT ?_
              refine bad' H3 (s3.trans s4) ?_
              show (nameB y && formed n z) = false
              rw [h3]
              rfl
            | true =>
              refine iteF ?_
              refine ⟨_, rfl, b, _, 1, vz, rfl, rfl, SqT.of (s4 _ _ hb), atI_nat (j := 1) rfl, _, rfl, hn, g, vz, z, rfl, hz.keep (Kv.of s4), fun H4 s5 => ⟨_, rfl, ?_⟩⟩
              cases h4 : formed n z with
              | false =>
                refine iteT ?_
                refine bad' H4 ((s3.trans s4).trans s5) ?_
                show (nameB y && formed n z) = false
                rw [h4, Bool.and_false]
              | true =>
                refine iteF ?_
                refine ⟨_, rfl, s2.trans ((s3.trans s4).trans s5), fun p' hp' => ?_⟩
                rw [List.take_succ, hp] at hp'
                rcases List.mem_append.mp hp' with q | q
                · exact all p' q
                · obtain rfl := List.mem_singleton.mp q
                  show (nameB y && formed n z) = true
                  rw [h3, h4]
                  rfl
        · rintro σ H2 ⟨fv, rfl, s2, all⟩
          rw [hlen, List.take_length] at all
          -- not has_doubles([field[0] ..])
          refine ⟨_, rfl, a, rfl, ⟨_, SqT.of (s2 _ _ e)⟩, fun D hD => lc_tup (K := K) (a := a) (xs := xs)
            (fun i H' => H' D = some (.lst (((ds.take i).map nmOf).map V.str)) ∧ Same H2 H') ⟨upd_same, same_new hD⟩ (fun i H' _ ⟨_, s3⟩ => SqT.of (s3 _ _ (s2 _ _ e))) ?_ ?_⟩
          · rintro i x H' hi ⟨h1, s3⟩
            obtain ⟨p, hp, hx⟩ := r.at_ hi
            obtain ⟨s, y, rfl, _, _⟩ := pairF_of (all p (List.mem_of_getElem? hp))
            obtain ⟨b, vy, vz, rfl, hb, hy, hz⟩ := (hx.keep (Kv.of (s2.trans s3))).tup2
            obtain ⟨rfl, _⟩ := hy.str_inv
            refine ⟨rfl, ?_⟩
            refine ⟨_, rfl, b, _, 0, _, rfl, rfl, SqT.of hb, atI_nat (j := 0) rfl, _, h1, ?_, ?_, ?_⟩
            · rw [List.length_map, List.length_map, List.length_take, sizeLine_eq]
              omega
            · rw [upd_same, List.take_succ, hp, List.map_append, List.map_append]
              rfl
            · intro b' o e'
              rw [upd_ne (ne_of_none e' hD)]
              exact s3 _ _ e'
          · rintro H3 ⟨h1, s3⟩
            rw [hlen, List.take_length] at h1
            have six : ds.length ≤ 6 := by
              have h : (decide (1 ≤ (ds.length : Int)) && decide ((ds.length : Int) ≤ 6)) = true := hin
              rw [Bool.and_eq_true, decide_eq_true_eq, decide_eq_true_eq] at h
              omega
            refine ⟨D, ds.map nmOf, rfl, SqL.of h1, by rw [List.length_map]; omega, fun H4 s4 => ⟨_, rfl, ?_⟩⟩
            have q := k H4 (((s1.trans s2).trans s3).trans s4)
            have e0 : fieldsF (formed n) (.tup ds) = decide (ds.map nmOf).Nodup := by
              show (lenIn 1 6 (.tup ds) && (ds.all (pairF (formed n)) && _)) = _
              rw [hin, List.all_eq_true.mpr all]
              rfl
            rw [e0] at q
            rw [Bool.not_not]
            exact q
    | int i => exact iteT (k H1 s1)
    | bl b => exact iteT (k H1 s1)
    | non => exact iteT (k H1 s1)
    | str _ => exact iteT (k H1 s1)
    | lst _ _ _ _ => exact iteT (k H1 s1)
    | dic _ => exact iteT (k H1 s1)
end
end K1

set_option Elab.async false
set_option linter.all false
set_option pp.maxSteps 700
set_option maxRecDepth 100000
set_option maxHeartbeats 2000000
namespace K1
open PySem PySem.Spec PyProof.Rows L2
open TL (tl)
section
variable {P : Program} {w : World} {K : PySem.W.Frag} {mg : Str → Option Value} {base : Heap}
theorem scFm : FnScope ["value", "deep"] ["value", "deep"] (defScope sFm) := ⟨rfl, rfl, rfl, by decide +kernel, rfl, by decide +kernel, by decide +kernel⟩
theorem form_short {n : Nat} {l : List Dt} (h : lenIn 2 3 (.tup l) = false) : formed (n + 2) (.tup l) = false := by
  rw [formed_two]
  match l, h with
  | [], _ => rfl
  | [_], _ => rfl
  | [_, _], h => cases h
  | [_, _, _], h => cases h
  | _ :: _ :: _ :: _ :: _, _ => rfl
theorem form_long {l : List Dt} (h : lenIn 2 3 (.tup l) = true) : (∃ x y, l = [x, y]) ∨ ∃ x y z, l = [x, y, z] := by
  match l, h with
  | [], h => cases h
  | [_], h => cases h
  | [x, y], _ => exact .inl ⟨x, y, rfl⟩
  | [x, y, z], _ => exact .inr ⟨x, y, z, rfl⟩
  | a :: b :: c :: d :: r, h =>
    have h : (decide ((2 : Int) ≤ ((a :: b :: c :: d :: r).length : Int)) && decide (((a :: b :: c :: d :: r).length : Int) ≤ 3)) = true := h
    rw [Bool.and_eq_true, decide_eq_true_eq, decide_eq_true_eq] at h
    simp only [List.length_cons] at h
    omega
theorem fm_step {n : Nat} {f fW fWin fTof fTin fDbl fNm fPl fFm fFl fWc : Addr} {fd fdW fdWin fdTin fdPl fdFm fdFl : FuncData} (F : Fun K "_is_formed" "_is_formed" sFm f fd) (T : MgK K mg fW fWin fTof fTin fDbl fNm fPl fFm fFl fWc)
    (FW : Fun K "is_whole" "is_whole" sWhl fW fdW) (bW : L2.Binds K fdW ["value"] []) (FWin : Fun K "is_within" "is_within" sWin fWin fdWin) (bWin : L2.Binds K fdWin ["value", "low", "high"] [])
    (FTin : Fun K "is_tuple_within" "is_tuple_within" sTin fTin fdTin) (bTin : L2.Binds K fdTin ["value", "low", "high"] []) (FPl : Fun K "is_plain" "is_plain" sPl fPl fdPl) (bPl : L2.Binds K fdPl ["value"] [])
    (GFm : FnOk P w K mg base CX0 (2 * n + 1) fFm fdFm ["value", "deep"] (spFm n)) (bFm : L2.Binds K fdFm ["value", "deep"] []) (GFl : FnOk P w K mg base CX0 (2 * n + 2) fFl fdFl ["value", "deep"] (spFl n)) (bFl : L2.Binds K fdFl ["value", "deep"] []) :
    FnOk P w K mg base CX0 (2 * n + 3) f fd ["value", "deep"] (spFm (n + 1)) := by
  have GPl : FnOk P w K mg base CX0 1 fPl fdPl ["value"] (spAsk plainB) := ok_pl FPl T.toMgP
  have GTin : FnOk P w K mg base CX0 1 fTin fdTin ["value", "low", "high"] spTin := ok_tin FTin T.toMgP
  have GWin : FnOk P w K mg base CX0 2 fWin fdWin ["value", "low", "high"] spWin := ok_win FWin T.toMgP FW bW
  refine F.ok scFm (fun vs H Q E h => ?_) (fun cdv A outer s H vs Q E hr h => ?_)
  · obtain ⟨_, g, v, d, rfl, _⟩ := h
    rfl
  · obtain ⟨_, g, v, d, rfl, hd, k⟩ := h
    obtain ⟨tI, eI⟩ := T.mit
    have hr1 : Room 1 _ := hr.mono (by omega)
    have hr2 : Room 2 _ := hr.mono (by omega)
    have hrm : Room (2 * n + 1) _ := hr.mono (by omega)
    refine ⟨_, pss_cons (ps_if (pt_val (pe_call GPl hr1 (by rfl) T.pln T.kpln bPl .nil pass0 (pa_cons (pv 0) pa_nil))) (pss_one (ps_ret pe_bl)) pss_nil)
      (pss_cons (ps_if (PW.pt (pw_or (pt_cmpR op_lt (pv 1) pe_int (nomark _)) (pw_or1 (pt_not (pt_val (pe_call GTin hr1 (by rfl) T.tin T.ktin bTin .nil pass0 (pa_cons (pv 0) (pa_cons pe_int (pa_cons pe_int pa_nil))))))))) (pss_one (ps_ret pe_bl)) pss_nil)
      (pss_cons (ps_if (pt_cmpR (op_eqS hr.units) (pe_ix ix_tup (pv 0) pe_int (fun _ _ => rfl)) pe_str (nomark _))
        (pss_one (ps_ret (pe_and (pe_cmpR op_eq (pe_callB call_len_seq (by rfl) T.len PySem.boot_len (pa_cons (pv 0) pa_nil)) pe_int (nomark _))
          (pe_and (pe_call GWin hr2 (by rfl) T.win T.kwin bWin .nil pass0 (pa_cons (pe_ix ix_tup (pv 0) pe_int (fun _ _ => rfl)) (pa_cons pe_int (pa_cons (pe_glob (v := .int 64) (by rfl) eI ⟨_, rfl⟩) pa_nil))))
            (pe_one (pe_call GFm hrm (by rfl) T.fm T.kfm bFm .nil pass0 (pa_cons (pe_ix ix_tup (pv 0) pe_int (fun _ _ => rfl)) (pa_cons (pe_op op_sub (pv 1) pe_int) pa_nil)))))))) pss_nil)
      (pss_one (ps_ret (pe_and (pe_cmpR (op_eqS hr.units) (pe_ix ix_tup (pv 0) pe_int (fun _ _ => rfl)) pe_str (nomark _))
        (pe_and (pe_cmpR op_eq (pe_callB call_len_seq (by rfl) T.len PySem.boot_len (pa_cons (pv 0) pa_nil)) pe_int (nomark _))
          (pe_one (pe_call GFl hr (by rfl) T.fl T.kfl bFl .nil pass0 (pa_cons (pe_ix ix_tup (pv 0) pe_int (fun _ _ => rfl)) (pa_cons (pe_op op_sub (pv 1) pe_int) pa_nil)))))))))), ?_⟩
    refine ⟨_, rfl, g, v, d, rfl, hd, fun H1 s1 => ⟨_, rfl, ?_⟩⟩
    have hd1 := hd.keep (Kv.of s1)
    cases hp : plainB d with
    | true =>
      refine iteT ?_
      have q := k H1 s1
      have e0 : formed (n + 1) d = true := by
        cases d with
        | str z => rw [formed_str]; exact hp
        | _ => cases hp
      rw [e0] at q
      exact q
    | false =>
      refine iteF ?_
      refine ⟨_, rfl, _, _, rfl, rfl, _, rfl, ?_⟩
      cases n with
      | zero =>
        refine ifT (by decide) ?_
        have q := k H1 s1
        have e0 : formed (0 + 1) d = false := by
          cases d with
          | str z => rw [formed_str]; exact hp
          | _ => rfl
        rw [e0] at q
        exact q
      | succ m =>
        refine ifF (decide_eq_false (by omega)) ?_
        refine ⟨_, rfl, g, v, d, 2, 3, rfl, hd1, fun H2 s2 => ⟨_, rfl, ?_⟩⟩
        cases hl : lenIn 2 3 d with
        | false =>
          refine iteT ?_
          have q := k H2 (s1.trans s2)
          have e0 : formed (m + 1 + 1) d = false := by
            cases d with
            | str z => rw [formed_str]; exact hp
            | tup l => exact form_short hl
            | _ => rfl
          rw [e0] at q
          exact q
        | true =>
          refine iteF ?_
          have q := k
          cases d with
          | tup l =>
            rcases form_long hl with ⟨x, y, rfl⟩ | ⟨x, y, z, rfl⟩
            · obtain ⟨b, vx, vy, rfl, hb, hx, hy⟩ := (hd1.keep (Kv.of s2)).tup2
              refine ⟨_, rfl, b, _, 0, vx, rfl, rfl, SqT.of hb, atI_nat (j := 0) rfl, g, x, "row", rfl, hx, _, rfl, ?_⟩
              have e0 : formed (m + 1 + 1) (.tup [x, y]) = (eqS x "record" && fieldsF (formed (m + 1)) y) := rfl
              cases h1 : eqS x "row" with
              | true =>
                refine iteT ?_
                refine ⟨_, rfl, b, _, rfl, .inr (SqT.of hb), rfl, _, rfl, iteF ?_⟩
                have q1 := q H2 (s1.trans s2)
                rw [e0, eqS_of h1] at q1
                exact q1
              | false =>
                refine iteF ?_
                refine ⟨_, rfl, b, _, 0, vx, rfl, rfl, SqT.of hb, atI_nat (j := 0) rfl, g, x, "record", rfl, hx, _, rfl, ?_⟩
                cases h2 : eqS x "record" with
                | false =>
                  refine iteF ?_
                  have q1 := q H2 (s1.trans s2)
                  rw [e0, h2] at q1
                  exact q1
                | true =>
                  refine iteT ?_
                  refine ⟨_, rfl, b, _, rfl, .inr (SqT.of hb), rfl, _, rfl, iteT ?_⟩
                  refine ⟨_, rfl, b, _, 1, vy, rfl, rfl, SqT.of hb, atI_nat (j := 1) rfl, _, rfl, _, _, rfl, rfl, by omega, g, vy, y, ?_, hy, fun H3 s3 => ?_⟩
                  · have e : ((m + 1 + 1 : Nat) : Int) - 1 = ((m + 1 : Nat) : Int) := by omega
                    show [vy, V.int (((m + 1 + 1 : Nat) : Int) - 1)] = _
                    rw [e]
                  · have q1 := q H3 ((s1.trans s2).trans s3)
                    rw [e0, h2] at q1
                    exact q1
            · obtain ⟨b, vx, vy, vz, rfl, hb, hx, hy, hz⟩ := (hd1.keep (Kv.of s2)).tup3
              refine ⟨_, rfl, b, _, 0, vx, rfl, rfl, SqT.of hb, atI_nat (j := 0) rfl, g, x, "row", rfl, hx, _, rfl, ?_⟩
              have e0 : formed (m + 1 + 1) (.tup [x, y, z]) = (eqS x "row" && (intIn 1 64 y && formed (m + 1) z)) := rfl
              cases h1 : eqS x "row" with
              | true =>
                refine iteT ?_
                refine ⟨_, rfl, b, _, rfl, .inr (SqT.of hb), rfl, _, rfl, iteT ?_⟩
                refine ⟨_, rfl, b, _, 1, vy, rfl, rfl, SqT.of hb, atI_nat (j := 1) rfl, g, vy, y, 1, 64, rfl, hy, fun H3 s3 => ⟨_, rfl, ?_⟩⟩
                cases h2 : intIn 1 64 y with
                | false =>
                  refine iteF ?_
                  have q1 := q H3 ((s1.trans s2).trans s3)
                  rw [e0, h1, h2] at q1
                  exact q1
                | true =>
                  refine iteT ?_
                  refine ⟨_, rfl, b, _, 2, vz, rfl, rfl, SqT.of (s3 _ _ hb), atI_nat (j := 2) rfl, _, rfl, _, _, rfl, rfl, by omega, g, vz, z, ?_, hz.keep (Kv.of s3), fun H4 s4 => ?_⟩
                  · have e : ((m + 1 + 1 : Nat) : Int) - 1 = ((m + 1 : Nat) : Int) := by omega
                    show [vz, V.int (((m + 1 + 1 : Nat) : Int) - 1)] = _
                    rw [e]
                  · have q1 := q H4 (((s1.trans s2).trans s3).trans s4)
                    rw [e0, h1, h2] at q1
                    exact q1
              | false =>
                refine iteF ?_
                refine ⟨_, rfl, b, _, 0, vx, rfl, rfl, SqT.of hb, atI_nat (j := 0) rfl, g, x, "record", rfl, hx, _, rfl, ?_⟩
                have q1 := q H2 (s1.trans s2)
                rw [e0, h1] at q1
                cases h2 : eqS x "record" with
                | false => exact iteF q1
                | true =>
                  refine iteT ?_
                  exact ⟨_, rfl, b, _, rfl, .inr (SqT.of hb), rfl, _, rfl, iteF q1⟩
          | _ => cases hl
/-- nothing is asked: nothing is promised -/
theorem ok_none {f : Addr} {fd : FuncData} {x q : Str} {st : Stmt} {N ps : List Str} {k : Nat} {sp : Sp} (F : Fun K x q st f fd) (S : FnScope N ps (defScope st)) (no : ∀ vs H Q E, ¬ sp vs H Q E) : FnOk P w K mg base CX0 (k + 1) f fd ps sp :=
  F.ok S (fun vs H Q E h => (no vs H Q E h).elim) (fun cdv A outer s H vs Q E hr h => (no vs H Q E h).elim)
end
end K1

set_option Elab.async false
set_option linter.all false
set_option pp.maxSteps 700
set_option maxRecDepth 100000
set_option maxHeartbeats 2000000
namespace K1
open PySem PySem.Spec PyProof.Rows L2
open TL (tl)
def kindB (d : Dt) : Bool := formed 4 d && decide (wordsN 4 d ≤ 400)
abbrev excVE : List Value := [.type "ValueError", .type "Exception", .type "BaseException", .type "object"]
structure MgR (K : PySem.W.Frag) (mg : Str → Option Value) (fKd fNk C : Addr) : Prop where
  kd : mg "is_kind" = some (.ref fKd)
  kkd : PySem.W.keepIn K (.ref fKd) = true
  nk : mg "_need_kind" = some (.ref fNk)
  knk : PySem.W.keepIn K (.ref fNk) = true
  bk : mg "BadKind" = some (.ref C)
  kbk : PySem.W.keepIn K (.ref C) = true
  exI : PySem.W.excIn K C excVE "ValueError.__new__" = true
  sub : PySem.W.subIn K (.ref C) (.type "BaseException") = some true
  ty : PySem.W.typeIn K (.ref C) = some (.type "type")
  mde : ∃ t, mg "MOST_DEEP" = some (.int 4 t)
  mwo : ∃ t, mg "MOST_WORDS" = some (.int 400 t)
def spNk (C : Addr) : Sp := fun vs H Q E => ∃ (g : Addr) (v : V) (d : Dt), vs = [v] ∧ DV g H v d ∧ ((kindB d = true ∧ ∀ H', Same H H' → Q .non H') ∨ (kindB d = false ∧ ∀ H', Same H H' → E (.ref C) none H'))
section
variable {P : Program} {w : World} {K : PySem.W.Frag} {mg : Str → Option Value} {base : Heap}
variable {fW fWin fTof fTin fDbl fNm fPl fFm fFl fWc fKd fNk C : Addr} {fdW fdWin fdTof fdTin fdDbl fdNm fdPl fdFm fdFl fdWc fdKd fdNk : FuncData}
/-- the defs that is_kind reaches -/
structure Fk (K : PySem.W.Frag) (fW fWin fTof fTin fDbl fNm fPl fFm fFl fWc : Addr) (fdW fdWin fdTof fdTin fdDbl fdNm fdPl fdFm fdFl fdWc : FuncData) : Prop where
  W : Fun K "is_whole" "is_whole" sWhl fW fdW
  bW : L2.Binds K fdW ["value"] []
  Win : Fun K "is_within" "is_within" sWin fWin fdWin
  bWin : L2.Binds K fdWin ["value", "low", "high"] []
  Tof : Fun K "is_tuple_of" "is_tuple_of" sTof fTof fdTof
  bTof : L2.Binds K fdTof ["value", "many"] []
  Tin : Fun K "is_tuple_within" "is_tuple_within" sTin fTin fdTin
  bTin : L2.Binds K fdTin ["value", "low", "high"] []
  Dbl : Fun K "has_doubles" "has_doubles" sDbl fDbl fdDbl
  bDbl : L2.Binds K fdDbl ["rows"] []
  Nm : Fun K "is_name" "is_name" sNm fNm fdNm
  bNm : L2.Binds K fdNm ["value"] []
  Pl : Fun K "is_plain" "is_plain" sPl fPl fdPl
  bPl : L2.Binds K fdPl ["value"] []
  Fm : Fun K "_is_formed" "_is_formed" sFm fFm fdFm
  bFm : L2.Binds K fdFm ["value", "deep"] []
  Fl : Fun K "_are_fields" "_are_fields" sFl fFl fdFl
  bFl : L2.Binds K fdFl ["value", "deep"] []
  Wc : Fun K "word_count" "word_count" sWc fWc fdWc
  bWc : L2.Binds K fdWc ["kind"] []
variable (D : Fk K fW fWin fTof fTin fDbl fNm fPl fFm fFl fWc fdW fdWin fdTof fdTin fdDbl fdNm fdPl fdFm fdFl fdWc) (T : MgK K mg fW fWin fTof fTin fDbl fNm fPl fFm fFl fWc)
include D T
theorem ok_fmfl : ∀ n : Nat, FnOk P w K mg base CX0 (2 * n + 1) fFm fdFm ["value", "deep"] (spFm n) ∧ FnOk P w K mg base CX0 (2 * n + 2) fFl fdFl ["value", "deep"] (spFl n)
  | 0 => ⟨ok_none D.Fm scFm (fun vs H Q E h => absurd h.1 (by omega)), ok_none D.Fl scFl (fun vs H Q E h => absurd h.1 (by omega))⟩
  | n + 1 => by
    obtain ⟨G1, G2⟩ := ok_fmfl n
    have A : FnOk P w K mg base CX0 (2 * (n + 1) + 1) fFm fdFm ["value", "deep"] (spFm (n + 1)) := fm_step D.Fm T D.W D.bW D.Win D.bWin D.Tin D.bTin D.Pl D.bPl G1 D.bFm G2 D.bFl
    exact ⟨A, fl_step D.Fl T D.Tof D.bTof D.Tin D.bTin D.Dbl D.bDbl D.Nm D.bNm A D.bFm⟩
omit D T
theorem scWc : FnScope ["kind", "_", "inner"] ["kind"] (defScope sWc) := ⟨rfl, rfl, rfl, by decide +kernel, rfl, by decide +kernel, by decide +kernel⟩
include D T
theorem ok_wc : ∀ n : Nat, FnOk P w K mg base CX0 (n + 1) fWc fdWc ["kind"] (spWc n)
  | 0 => ok_none D.Wc scWc (fun vs H Q E h => absurd h.1 (by omega))
  | n + 1 => by
    have G : FnOk P w K mg base CX0 (n + 1) fWc fdWc ["kind"] (spWc n) := ok_wc n
    have GPl : FnOk P w K mg base CX0 1 fPl fdPl ["value"] (spAsk plainB) := ok_pl D.Pl T.toMgP
    refine D.Wc.ok scWc (fun vs H Q E h => ?_) (fun cdv A outer s H vs Q E hr h => ?_)
    · obtain ⟨_, g, v, d, rfl, _⟩ := h
      rfl
    · obtain ⟨_, g, v, d, rfl, hd, hf, k⟩ := h
      have hr1 : Room 1 _ := hr.mono (by omega)
      refine ⟨_, pss_cons (ps_if (pt_val (pe_call GPl hr1 (by rfl) T.pln T.kpln D.bPl .nil pass0 (pa_cons (pv 0) pa_nil))) (pss_one (ps_ret pe_int)) pss_nil)
        (pss_cons (ps_if (pt_cmpR (op_eqS hr.units) (pe_ix ix_tup (pv 0) pe_int (fun _ _ => rfl)) pe_str (nomark _))
          (pss_one (ps_ret (pe_op op_mul (pe_ix ix_tup (pv 0) pe_int (fun _ _ => rfl)) (pe_call G hr (by rfl) T.wc T.kwc D.bWc .nil pass0 (pa_cons (pe_ix ix_tup (pv 0) pe_int (fun _ _ => rfl)) pa_nil))))) pss_nil)
        (pss_one (ps_ret (pe_callB (cr_sum rfl) (by rfl) T.sum (by decide +kernel) (pa_cons (pe_lc (own := [("_", 1), ("inner", 2)]) (g := gTup K 2 (gCons (gName 1) (gCons (gName 2) gNil))) (tt := tYes) (by rfl) scWc.nd (pi_tup (pe_ix ix_tup (pv 0) pe_int (fun _ _ => rfl)))
            (blkOk_by (own := [("_", 1), ("inner", 2)]) (N := ["kind", "_", "inner"]) (sc := defScope sWc) (by decide +kernel)) (fun _ _ _ _ _ => pg_tup (by rfl) (pgs_cons (pg_name (i := 1) scWc.nd rfl (Or.inl rfl)) (pgs_cons (pg_name (i := 2) scWc.nd rfl (Or.inl rfl)) pgs_nil))) (fun _ _ _ _ _ => pts_nil)
            (fun _ _ _ _ _ => pe_call G hr (by rfl) T.wc T.kwc D.bWc .nil pass0 (pa_cons (pv 2) pa_nil))) pa_nil))))), ?_⟩
      refine ⟨_, rfl, g, v, d, rfl, hd, fun H1 s1 => ⟨_, rfl, ?_⟩⟩
      have hd1 := hd.keep (Kv.of s1)
      rcases formed_cases hf with ⟨s, rfl, hs⟩ | ⟨m, hm, hh⟩
      · refine ifT hs ?_
        have q := k H1 s1
        rw [words_str] at q
        exact q
      · obtain rfl : n = m + 1 := by omega
        rcases hh with ⟨l, rfl, l1, l2, all, _⟩ | ⟨i, z, rfl, i1, i2, hz⟩
        · refine iteF ?_
          obtain ⟨b, vx, vy, rfl, hb, hx, hy⟩ := hd1.tup2
          refine ⟨_, rfl, b, _, 0, vx, rfl, rfl, SqT.of hb, atI_nat (j := 0) rfl, g, .str "record", "row", rfl, hx, _, rfl, ?_⟩
          refine ifF (by decide +kernel) ?_
          obtain ⟨c, xs, rfl, hc, _, r⟩ := hy.tup_inv
          refine ⟨_, rfl, b, _, 1, .ref c, rfl, rfl, SqT.of hb, atI_nat (j := 1) rfl, c, rfl, ⟨_, SqT.of hc⟩, fun L hL => lc_tup (K := K) (a := c) (xs := xs)
            (fun i H' => H' L = some (.lst (((l.take i).map (sndW (wordsN (m + 1)))).map V.int)) ∧ Same H1 H') ⟨upd_same, same_new hL⟩ (fun i H' _ ⟨_, s2⟩ => SqT.of (s2 _ _ hc)) ?_ ?_⟩
          · rintro i x H' hi ⟨h1, s2⟩
            obtain ⟨p, hp, hx'⟩ := r.at_ hi
            obtain ⟨s, y, rfl, _, hfy⟩ := pairF_of (all p (List.mem_of_getElem? hp))
            obtain ⟨e, v1, v2, rfl, he, h3, h4⟩ := (hx'.keep (Kv.of s2)).tup2
            refine ⟨e, _, rfl, SqT.of he, rfl, _, _, rfl, _, _, rfl, rfl, rfl, ?_⟩
            refine ⟨_, rfl, by omega, g, v2, y, rfl, h4, hfy, fun H2 s3 => ⟨_, s3 _ _ h1, ?_, ?_, ?_⟩⟩
            · rw [List.length_map, List.length_map, List.length_take, sizeLine_eq]
              omega
            · rw [upd_same, List.take_succ, hp, List.map_append, List.map_append]
              rfl
            · intro b' o e'
              rw [upd_ne (ne_of_none e' hL)]
              exact s3 _ _ (s2 _ _ e')
          · rintro H2 ⟨h1, s2⟩
            have hlen := r.len
            rw [hlen, List.take_length] at h1
            exact ⟨L, _, rfl, SqL.of h1, k H2 (s1.trans s2)⟩
        · refine iteF ?_
          obtain ⟨b, vx, vy, vz, rfl, hb, hx, hy, hz'⟩ := hd1.tup3
          obtain rfl := hy.int_inv
          refine ⟨_, rfl, b, _, 0, vx, rfl, rfl, SqT.of hb, atI_nat (j := 0) rfl, g, .str "row", "row", rfl, hx, _, rfl, ?_⟩
          refine ifT (by decide +kernel) ?_
          refine ⟨_, rfl, b, _, 1, _, rfl, rfl, SqT.of hb, atI_nat (j := 1) rfl, _, rfl, b, _, 2, vz, rfl, rfl, SqT.of hb, atI_nat (j := 2) rfl, by omega, g, vz, z, rfl, hz', hz, fun H2 s2 => ⟨_, _, rfl, rfl, .inl ⟨by omega, by omega⟩, ?_⟩⟩
          exact k H2 (s1.trans s2)
end
end K1

set_option Elab.async false
set_option linter.all false
set_option pp.maxSteps 700
set_option maxRecDepth 100000
set_option maxHeartbeats 2000000
namespace K1
open PySem PySem.Spec PyProof.Rows L2
open TL (tl)
section
variable {P : Program} {w : World} {K : PySem.W.Frag} {mg : Str → Option Value} {base : Heap}
variable {fW fWin fTof fTin fDbl fNm fPl fFm fFl fWc fKd fNk fWo C : Addr} {fdW fdWin fdTof fdTin fdDbl fdNm fdPl fdFm fdFl fdWc fdKd fdNk fdWo : FuncData}
variable (D : Fk K fW fWin fTof fTin fDbl fNm fPl fFm fFl fWc fdW fdWin fdTof fdTin fdDbl fdNm fdPl fdFm fdFl fdWc) (T : MgK K mg fW fWin fTof fTin fDbl fNm fPl fFm fFl fWc) (R : MgR K mg fKd fNk C)
theorem scKd : FnScope ["value"] ["value"] (defScope sKd) := ⟨rfl, rfl, rfl, by decide +kernel, rfl, by decide +kernel, by decide +kernel⟩
theorem scNk : FnScope ["kind"] ["kind"] (defScope sNk) := ⟨rfl, rfl, rfl, by decide +kernel, rfl, by decide +kernel, by decide +kernel⟩
include D T R
theorem ok_kd (F : Fun K "is_kind" "is_kind" sKd fKd fdKd) : FnOk P w K mg base CX0 10 fKd fdKd ["value"] (spAsk kindB) := by
  have GFm : FnOk P w K mg base CX0 9 fFm fdFm ["value", "deep"] (spFm 4) := (ok_fmfl D T 4).1
  have GWc : FnOk P w K mg base CX0 5 fWc fdWc ["kind"] (spWc 4) := ok_wc D T 4
  refine F.ok scKd (fun vs H Q E h => ?_) (fun cdv A outer s H vs Q E hr h => ?_)
  · obtain ⟨g, v, d, rfl, _⟩ := h
    rfl
  · obtain ⟨g, v, d, rfl, hd, k⟩ := h
    obtain ⟨t1, e1⟩ := R.mde
    obtain ⟨t2, e2⟩ := R.mwo
    have hr5 : Room 5 _ := hr.mono (by decide)
    refine ⟨_, pss_one (ps_ret (pe_and (pe_call GFm hr (by rfl) T.fm T.kfm D.bFm .nil pass0 (pa_cons (pv 0) (pa_cons (pe_glob (v := .int 4) (by rfl) e1 ⟨_, rfl⟩) pa_nil)))
      (pe_one (pe_cmpR op_le (pe_call GWc hr5 (by rfl) T.wc T.kwc D.bWc .nil pass0 (pa_cons (pv 0) pa_nil)) (pe_glob (v := .int 400) (by rfl) e2 ⟨_, rfl⟩) (nomark _))))), ?_⟩
    refine ⟨_, rfl, by decide, g, v, d, rfl, hd, fun H1 s1 => ⟨_, rfl, ?_⟩⟩
    cases h : formed 4 d with
    | false =>
      refine iteF ?_
      have q := k H1 s1
      unfold kindB at q
      rw [h] at q
      exact q
    | true =>
      refine iteT ?_
      refine ⟨_, rfl, by decide, g, v, d, rfl, hd.keep (Kv.of s1), h, fun H2 s2 => ⟨_, _, rfl, rfl, ?_⟩⟩
      have q := k H2 (s1.trans s2)
      unfold kindB at q
      rw [h] at q
      exact q
theorem ok_nk (FKd : Fun K "is_kind" "is_kind" sKd fKd fdKd) (bKd : L2.Binds K fdKd ["value"] []) (F : Fun K "_need_kind" "_need_kind" sNk fNk fdNk) : FnOk P w K mg base (L2.CX P w) 11 fNk fdNk ["kind"] (spNk C) := by
  have GKd : FnOk P w K mg base CX0 10 fKd fdKd ["value"] (spAsk kindB) := ok_kd D T R FKd
  refine F.okX scNk (fun vs H Q E h => ?_) (fun cdv A outer s H vs Q E hr h => ?_)
  · obtain ⟨g, v, d, rfl, _⟩ := h
    rfl
  · obtain ⟨g, v, d, rfl, hd, k⟩ := h
    refine ⟨_, pss_one (ps_if (pt_not (pt_val (pe_call GKd hr (by rfl) R.kd R.kkd bKd .nil pass0 (pa_cons (pv 0) pa_nil))))
      (pss_one (ps_raise rfl (takes_of rfl rfl rfl rfl) (pmk_own PySem.F.excBase_ValueError R.exI R.bk R.kbk (raises_own R.sub R.ty) (by rfl)))) pss_nil), ?_⟩
    refine ⟨_, rfl, g, v, d, rfl, hd, fun H1 s1 => ⟨_, rfl, ?_⟩⟩
    rcases k with ⟨e, k⟩ | ⟨e, k⟩
    · rw [e]
      exact iteF (k H1 s1)
    · rw [e]
      exact iteT (k H1 s1)
end
end K1

set_option Elab.async false
set_option linter.all false
set_option pp.maxSteps 700
set_option maxRecDepth 100000
set_option maxHeartbeats 2000000
namespace K1
open PySem PySem.Spec PyProof.Rows L2
open TL (tl)
abbrev sCbw : Stmt := top 44
section
variable {X : Cx}
/-- xs == [], xs any list -/
theorem op_eqNil (hu : X.A.units + 64 < cLine) : OpR X (compareOp .Eq) (fun x y H Q => ∃ (a b : Addr) (xs : List V), x = .ref a ∧ y = .ref b ∧ SqL X.K H a xs ∧ SqL X.K H b [] ∧ Q (.bl xs.isEmpty) H) := by
  intro pins s σ H x y v u Q I rx ry h
  obtain ⟨a, b, xs, rfl, rfl, ha, hb, q⟩ := h
  cases (show v = Value.ref a from rx)
  cases (show u = Value.ref b from ry)
  obtain ⟨us, r1, p1, _⟩ := I.list ha
  obtain ⟨ws, r2, p2, _⟩ := I.list hb
  cases r2
  cases r1 with
  | nil => exact SeqAt.eq_listAt (e := fun _ => true) p1.isList p2.isList rfl (by omega) (fun j h1 _ => absurd h1 (by simp)) (fin_bl I q rfl)
  | cons h t => exact SeqAt.eq_list_lengthsAt p1.isList p2.isList (by simp) (by omega) (fin_bl I q rfl)
end
structure MgJ (K : PySem.W.Frag) (mg : Str → Option Value) (fWd fCbw fNmr fFlr fFor : Addr) : Prop where
  cbw : mg "_law_cb_words" = some (.ref fCbw)
  kcbw : PySem.W.keepIn K (.ref fCbw) = true
  sum : mg "sum" = none
section
variable {P : Program} {w : World} {K : PySem.W.Frag} {mg : Str → Option Value} {base : Heap}
variable {fWd fCbw fNmr fFlr fFor : Addr} {fdWd fdCbw fdNmr fdFlr fdFor : FuncData}
theorem scCbw : FnScope ["kind", "one"] ["kind"] (defScope sCbw) := ⟨rfl, rfl, rfl, by decide +kernel, rfl, by decide +kernel, by decide +kernel⟩
theorem filter_nil {l : List Nat} {f : Nat → Bool} : (l.filter (fun c => !f c)).isEmpty = l.all f := by
  induction l with
  | nil => rfl
  | cons x l ih =>
    rw [List.all_cons, List.filter_cons]
    cases h : f x with
    | true => exact ih
    | false => rfl
end
end K1

set_option Elab.async false
set_option linter.all false
set_option pp.maxSteps 700
set_option maxRecDepth 100000
set_option maxHeartbeats 2000000
namespace K1
open PySem PySem.Spec PyProof.Rows L2
open TL (tl)
section
variable {P : Program} {w : World} {K : PySem.W.Frag} {mg : Str → Option Value} {base : Heap}
variable {fWd fCbw fNmr fFlr fFor : Addr} {fdWd fdCbw fdNmr fdFlr fdFor : FuncData}
theorem plain_two {s : Str} (h : plainS s = true) : s = "number" ∨ s = "truth" := by
  unfold plainS at h
  rw [Bool.or_eq_true] at h
  rcases h with h | h
  · exact .inl (eq_of_beq h)
  · exact .inr (eq_of_beq h)
theorem plain_fst {s : Str} (h : plainS s = true) : ∃ c, atI s.cps.toList 0 = some c ∧ eqS (.str ⟨#[c]⟩) "row" = false ∧ eqS (.str ⟨#[c]⟩) "record" = false ∧ s.length ≤ sizeLine := by
  rcases plain_two h with rfl | rfl
  · exact ⟨110, atI_nat (j := 0) (by decide +kernel), by decide +kernel, by decide +kernel, by decide +kernel⟩
  · exact ⟨116, atI_nat (j := 0) (by decide +kernel), by decide +kernel, by decide +kernel, by decide +kernel⟩
theorem ok_cbw (T : MgJ K mg fWd fCbw fNmr fFlr fFor) (F : Fun K "_law_cb_words" "_law_cb_words" sCbw fCbw fdCbw) (b : L2.Binds K fdCbw ["kind"] []) : ∀ n : Nat, FnOk P w K mg base CX0 (n + 1) fCbw fdCbw ["kind"] (spWc n)
  | 0 => ok_none F scCbw (fun vs H Q E h => absurd h.1 (by omega))
  | n + 1 => by
    have G : FnOk P w K mg base CX0 (n + 1) fCbw fdCbw ["kind"] (spWc n) := ok_cbw T F b n
    refine F.ok scCbw (fun vs H Q E h => ?_) (fun cdv A outer s H vs Q E hr h => ?_)
    · obtain ⟨_, g, v, d, rfl, _⟩ := h
      rfl
    · obtain ⟨_, g, v, d, rfl, hd, hf, k⟩ := h
      refine ⟨_, pss_cons (ps_if (pt_cmpR (op_eqS hr.units) (pe_ix ix_seq (pv 0) pe_int (fun _ _ => rfl)) pe_str (nomark _))
          (pss_one (ps_ret (pe_op op_mul (pe_ix ix_tup (pv 0) pe_int (fun _ _ => rfl)) (pe_call G hr (by rfl) T.cbw T.kcbw b .nil pass0 (pa_cons (pe_ix ix_tup (pv 0) pe_int (fun _ _ => rfl)) pa_nil))))) pss_nil)
        (pss_one (ps_ret (pe_ifExp (pt_cmpR (op_eqS hr.units) (pe_ix ix_seq (pv 0) pe_int (fun _ _ => rfl)) pe_str (nomark _))
          (pe_callB (cr_sum rfl) (by rfl) T.sum (by decide +kernel) (pa_cons (pe_lc (own := [("one", 1)]) (g := gName 1) (tt := tYes) (by rfl) scCbw.nd (pi_tup (pe_ix ix_tup (pv 0) pe_int (fun _ _ => rfl)))
            (blkOk_by (own := [("one", 1)]) (N := ["kind", "one"]) (sc := defScope sCbw) (by decide +kernel)) (fun _ _ _ _ _ => pg_name (i := 1) scCbw.nd rfl (Or.inl rfl)) (fun _ _ _ _ _ => pts_nil)
            (fun _ _ _ _ _ => pe_call G hr (by rfl) T.cbw T.kcbw b .nil pass0 (pa_cons (pe_ix (show IxR _ (rIxT K) from ix_tup) (pv 1) pe_int (fun _ _ => rfl)) pa_nil))) pa_nil)) pe_int))), ?_⟩
      rcases formed_cases hf with ⟨s, rfl, hs⟩ | ⟨m, hm, hh⟩
      · obtain ⟨rfl, _⟩ := hd.str_inv
        obtain ⟨c, hc, n1, n2, zs⟩ := plain_fst hs
        refine ⟨_, rfl, .inr (.inr ⟨s, 0, c, rfl, rfl, zs, hc, g, .str ⟨#[c]⟩, "row", rfl, .str (by show 1 ≤ 1000; decide), _, rfl, ?_⟩)⟩
        refine ifF n1 ?_
        refine ⟨_, rfl, .inr (.inr ⟨s, 0, c, rfl, rfl, zs, hc, g, .str ⟨#[c]⟩, "record", rfl, .str (by show 1 ≤ 1000; decide), _, rfl, ?_⟩)⟩
        refine ifF n2 ?_
        have q := k H (Same.refl H)
        rw [words_str] at q
        exact q
      · obtain rfl : n = m + 1 := by omega
        rcases hh with ⟨l, rfl, l1, l2, all, _⟩ | ⟨i, z, rfl, i1, i2, hz⟩
        · obtain ⟨b', vx, vy, rfl, hb, hx, hy⟩ := hd.tup2
          refine ⟨_, rfl, .inr (.inl ⟨b', _, 0, vx, rfl, rfl, SqT.of hb, atI_nat (j := 0) rfl, g, .str "record", "row", rfl, hx, _, rfl, ?_⟩)⟩
          refine ifF (by decide +kernel) ?_
          refine ⟨_, rfl, .inr (.inl ⟨b', _, 0, vx, rfl, rfl, SqT.of hb, atI_nat (j := 0) rfl, g, .str "record", "record", rfl, hx, _, rfl, ?_⟩)⟩
          refine ifT (by decide +kernel) ?_
          obtain ⟨c, xs, rfl, hc, _, r⟩ := hy.tup_inv
          refine ⟨_, rfl, b', _, 1, .ref c, rfl, rfl, SqT.of hb, atI_nat (j := 1) rfl, c, rfl, ⟨_, SqT.of hc⟩, fun L hL => lc_tup (K := K) (a := c) (xs := xs)
            (fun i H' => H' L = some (.lst (((l.take i).map (sndW (wordsN (m + 1)))).map V.int)) ∧ Same H H') ⟨upd_same, same_new hL⟩ (fun i H' _ ⟨_, s2⟩ => SqT.of (s2 _ _ hc)) ?_ ?_⟩
          · rintro i x H' hi ⟨h1, s2⟩
            obtain ⟨p, hp, hx'⟩ := r.at_ hi
            obtain ⟨s, y, rfl, _, hfy⟩ := pairF_of (all p (List.mem_of_getElem? hp))
            obtain ⟨e, v1, v2, rfl, he, h3, h4⟩ := (hx'.keep (Kv.of s2)).tup2
            refine ⟨rfl, ?_⟩
            refine ⟨_, rfl, e, _, 1, v2, rfl, rfl, SqT.of he, atI_nat (j := 1) rfl, by omega, g, v2, y, rfl, h4, hfy, fun H2 s3 => ⟨_, s3 _ _ h1, ?_, ?_, ?_⟩⟩
            · rw [List.length_map, List.length_map, List.length_take, sizeLine_eq]
              omega
            · rw [upd_same, List.take_succ, hp, List.map_append, List.map_append]
              rfl
            · intro b' o e'
              rw [upd_ne (ne_of_none e' hL)]
              exact s3 _ _ (s2 _ _ e')
          · rintro H2 ⟨h1, s2⟩
            have hlen := r.len
            rw [hlen, List.take_length] at h1
            exact ⟨L, _, rfl, SqL.of h1, k H2 s2⟩
        · obtain ⟨b', vx, vy, vz, rfl, hb, hx, hy, hz'⟩ := hd.tup3
          obtain rfl := hy.int_inv
          refine ⟨_, rfl, .inr (.inl ⟨b', _, 0, vx, rfl, rfl, SqT.of hb, atI_nat (j := 0) rfl, g, .str "row", "row", rfl, hx, _, rfl, ?_⟩)⟩
          refine ifT (by decide +kernel) ?_
          refine ⟨_, rfl, b', _, 1, _, rfl, rfl, SqT.of hb, atI_nat (j := 1) rfl, _, rfl, b', _, 2, vz, rfl, rfl, SqT.of hb, atI_nat (j := 2) rfl, by omega, g, vz, z, rfl, hz', hz, fun H2 s2 => ⟨_, _, rfl, rfl, .inl ⟨by omega, by omega⟩, ?_⟩⟩
          exact k H2 s2
end
end K1

set_option Elab.async false
set_option linter.all false
set_option pp.maxSteps 700
set_option maxRecDepth 100000
set_option maxHeartbeats 2000000
namespace K1
open PySem PySem.Spec PyProof.Rows L2
open TL (tl)
abbrev sShf : Stmt := top 38
abbrev sTab : Stmt := top 42
abbrev sNmd : Stmt := top 43
abbrev sKnd : Stmt := top 45
/-! ### lists of texts as data -/
theorem erase_map {α β : Type} (f : α → β) (l : List α) (i : Nat) : (l.map f).eraseIdx i = (l.eraseIdx i).map f := by
  rw [List.eraseIdx_eq_take_drop_succ, List.eraseIdx_eq_take_drop_succ, List.map_append, List.map_take, List.map_drop]
theorem erase_perm {α : Type} {l : List α} {i : Nat} (h : i < l.length) : (l[i] :: l.eraseIdx i).Perm l := by
  rw [List.eraseIdx_eq_take_drop_succ]
  have q := List.perm_middle (a := l[i]) (l₁ := l.take i) (l₂ := l.drop (i + 1))
  rw [← List.drop_eq_getElem_cons h, List.take_append_drop] at q
  exact q.symm

theorem freshF {H H1 : Hp} {o : Addr} {u : HO} (ho : H o = none) (e : upd H o u = H1) : Same H H1 ∧ H1 o = some u := by
  subst e
  exact ⟨same_new ho, upd_same⟩

theorem dpStrs {K : PySem.W.Frag} {H : Hp} : ∀ gs : List Str, DpAll K H (gs.map V.str) (gs.map PyData.str)
  | [] => .nil
  | x :: r => .cons (.str x) (dpStrs r)
theorem layStrs : ∀ gs : List Str, (∀ x ∈ gs, PyData.strOk x = true) → PyData.canLayAll0 (gs.map PyData.str) = true
  | [], _ => rfl
  | x :: r, h => by
    show (PyData.strOk x && PyData.canLayAll0 (r.map PyData.str)) = true
    rw [layStrs r fun y hy => h y (List.mem_cons_of_mem _ hy), h x List.mem_cons_self]
    rfl
theorem depStrs : ∀ gs : List Str, PyData.depthAll (gs.map PyData.str) = 0
  | [] => rfl
  | x :: r => by
    show max 0 (PyData.depthAll (r.map PyData.str)) = 0
    rw [depStrs r]
    rfl
theorem shStrs (gs : List Str) (h : ∀ x ∈ gs, PyData.strOk x = true) : SeqAt.shaped (.list (gs.map PyData.str)) = true := by
  unfold SeqAt.shaped
  show (PyData.canLayAll0 (gs.map PyData.str) && decide (PyData.depthAll (gs.map PyData.str) + 1 ≤ 64)) = true
  rw [layStrs gs h, depStrs]
  rfl
/-! ### data without lists -/
mutual
def pur : Dt → Bool
  | .tup l => purs l
  | .lst _ => false
  | .dic => false
  | .str s => PyData.strOk s
  | _ => true
def purs : List Dt → Bool
  | [] => true
  | d :: l => pur d && purs l
end
mutual
def dep : Dt → Nat
  | .tup l => deps l + 1
  | _ => 0
def deps : List Dt → Nat
  | [] => 0
  | d :: l => max (dep d) (deps l)
end
theorem deps_mem {l : List Dt} {d : Dt} : d ∈ l → dep d ≤ deps l := by
  induction l with
  | nil => intro h; cases h
  | cons x l ih =>
    intro h
    rcases List.mem_cons.mp h with rfl | h
    · exact Nat.le_max_left _ _
    · exact Nat.le_trans (ih h) (Nat.le_max_right _ _)
theorem deps_le {l : List Dt} {k : Nat} : (∀ d ∈ l, dep d ≤ k) → deps l ≤ k := by
  induction l with
  | nil => intro h; exact Nat.zero_le _
  | cons x l ih => exact fun h => Nat.max_le.mpr ⟨h x List.mem_cons_self, ih fun d hd => h d (List.mem_cons_of_mem _ hd)⟩
theorem purs_all {l : List Dt} : purs l = l.all pur := by
  induction l with
  | nil => rfl
  | cons x l ih => rw [List.all_cons, ← ih]; rfl
theorem purs_mem {l : List Dt} {d : Dt} (h : purs l = true) (m : d ∈ l) : pur d = true := by
  rw [purs_all] at h
  exact List.all_eq_true.mp h d m
/-- tuples stay -/
def Kt (H H' : Hp) : Prop := ∀ b xs, H b = some (.tup xs) → H' b = some (.tup xs)
theorem Kt.of {H H' : Hp} (s : Same H H') : Kt H H' := fun b xs e => s _ _ e
theorem Kt.put {H : Hp} {p : Addr} {o : HO} {l : List V} (h : H p = some (.lst l)) : Kt H (upd H p o) := fun b xs e => by
  rw [upd_ne (fun z => by rw [z, h] at e; cases e)]
  exact e
theorem Kt.kp {g d c : Addr} {H H' : Hp} {n : Nat} (S : StA H d g c n) (k : Kp d g H H') : Kt H H' := (Kv.kp S k).tup
mutual
theorem DV.keepP {g g' : Addr} {H H' : Hp} (k : Kt H H') : ∀ {v : V} {d : Dt}, pur d = true → DV g H v d → DV g' H' v d
  | _, _, _, .non => .non
  | _, _, _, .bl b => .bl b
  | _, _, _, .int i => .int i
  | _, _, _, .str h => .str h
  | _, _, p, .lst e n h r => by cases p
  | _, _, p, .tup e h r => .tup (k _ _ e) h (DVs.keepP k (by exact p) r)
  | _, _, p, .dic e => by cases p
theorem DVs.keepP {g g' : Addr} {H H' : Hp} (k : Kt H H') : ∀ {v : List V} {d : List Dt}, purs d = true → DVs g H v d → DVs g' H' v d
  | _, _, _, .nil => .nil
  | _, _, p, .cons h r => by
    have p : (pur _ && purs _) = true := p
    rw [Bool.and_eq_true] at p
    exact .cons (DV.keepP k p.1 h) (DVs.keepP k p.2 r)
end
structure MgL (K : PySem.W.Frag) (mg : Str → Option Value) (fShf fTab fNmd fKnd fNam fCbw : Addr) : Prop where
  shf : mg "_law_shuffled" = some (.ref fShf)
  kshf : PySem.W.keepIn K (.ref fShf) = true
  tab : mg "_law_tx_table" = some (.ref fTab)
  ktab : PySem.W.keepIn K (.ref fTab) = true
  nmd : mg "_law_tx_named" = some (.ref fNmd)
  knmd : PySem.W.keepIn K (.ref fNmd) = true
  knd : mg "_law_cb_kind" = some (.ref fKnd)
  kknd : PySem.W.keepIn K (.ref fKnd) = true
  nam : mg "_law_tx_name" = some (.ref fNam)
  knam : PySem.W.keepIn K (.ref fNam) = true
  cbw : mg "_law_cb_words" = some (.ref fCbw)
  kcbw : PySem.W.keepIn K (.ref fCbw) = true
  lst : mg "list" = none
  tpl : mg "tuple" = none
  isi : mg "isinstance" = none
  str : mg "str" = none
  min : mg "min" = none
  rng : mg "range" = none
  len : mg "len" = none
def spShf : Sp := fun vs H Q _ => ∃ (d g c a : Addr) (n : Nat) (ts : List Str), vs = [.ref d, .ref a] ∧ StA H d g c n ∧ n ≤ 900000000 ∧ H a = some (.lst (ts.map V.str)) ∧ ts.length ≤ 60 ∧ (∀ x ∈ ts, PyData.strOk x = true) ∧
  ∀ (p : Addr) (ys : List Str) (H' : Hp), ys.Perm ts → StA H' d g c (n + ts.length) → Kp d g H H' → H p = none → H' p = some (.lst (ys.map V.str)) → Q (.ref p) H'
section
variable {P : Program} {w : World} {K : PySem.W.Frag} {mg : Str → Option Value} {base : Heap}
variable {fShf fTab fNmd fKnd fNam fCbw : Addr}
theorem Kp.upF {d g p : Addr} {H H' : Hp} {o : HO} (k : Kp d g H H') (hp : H p = none) : Kp d g H (upd H' p o) := fun b u e h1 h2 => by
  rw [upd_ne (ne_of_none e hp)]
  exact k b u e h1 h2
theorem StA.upF {H : Hp} {d g c p : Addr} {n : Nat} {o : HO} (S : StA H d g c n) (h1 : p ≠ d) (h2 : p ≠ g) (h3 : p ≠ c) : StA (upd H p o) d g c n := by
  obtain ⟨r, tt, gs, cs, S⟩ := S
  exact ⟨r, tt, gs, cs, { S with dk := by rw [upd_ne h1.symm]; exact S.dk, gl := by rw [upd_ne h2.symm]; exact S.gl, cl := by rw [upd_ne h3.symm]; exact S.cl }⟩
theorem StA.free {H : Hp} {d g c : Addr} {n : Nat} (S : StA H d g c n) {p : Addr} (hp : H p = none) : p ≠ d ∧ p ≠ g ∧ p ≠ c := by
  obtain ⟨r, tt, gs, cs, S⟩ := S
  exact ⟨(ne_of_none S.dk hp).symm, (ne_of_none S.gl hp).symm, (ne_of_none S.cl hp).symm⟩
theorem scShf : FnScope ["state", "some", "left", "found"] ["state", "some"] (defScope sShf) := ⟨rfl, rfl, rfl, by decide +kernel, rfl, by decide +kernel, by decide +kernel⟩
theorem ok_shf {f fM fD : Addr} {fd fdM fdD : FuncData} (F : Fun K "_law_shuffled" "_law_shuffled" sShf f fd) (T : MgS K mg fM fD) (L : MgL K mg fShf fTab fNmd fKnd fNam fCbw) (FM : Fun K "_law_mixed" "_law_mixed" sMix fM fdM) (bM : L2.Binds K fdM ["state"] [])
    (FD : Fun K "_law_draw" "_law_draw" sDrw fD fdD) (bD : L2.Binds K fdD ["state", "room"] []) : FnOk P w K mg base CX0 3 f fd ["state", "some"] spShf := by
  have GD : FnOk P w K mg base CX0 2 fD fdD ["state", "room"] spDrw := ok_drw FD T FM bM
  refine F.ok scShf (fun vs H Q E h => ?_) (fun cdv A outer s H vs Q E hr h => ?_)
  · obtain ⟨d, g, c, a, n, ts, rfl, _⟩ := h
    rfl
  · obtain ⟨d, g, c, a, n, ts, rfl, S, hn, ha, hts, hok, k⟩ := h
    refine ⟨_, (pss_cons (ps_par (i := 2) (j := 3) (by rfl) scShf.nd rfl rfl (by decide) rfl rfl (pa_cons (pe_callTy call_list_of (by rfl) L.lst (by decide +kernel) (pa_cons (pv 1) pa_nil)) (pa_cons (pe_lst pa_nil) pa_nil)) (by rfl))
      (pss_cons (ps_while PassesOwn.never (pt_cmpR (op_neD hr.units) (pv 2) (pe_lst pa_nil) (nomark _))
          (pss_one (ps_expr (qApp (pv 3) (qPopAt (pv 2) (pe_call GD hr (by rfl) T.dr T.kdr bD .nil pass0 (pa_cons (pv 0) (pa_cons (pe_callB call_len_seq (by rfl) T.len PySem.boot_len (pa_cons (pv 2) pa_nil)) pa_nil))))))))
      (pss_one (ps_ret (pv 3))))), ?_⟩
    refine ⟨_, rfl, a, _, rfl, .inl (SqL.of ha), fun l hl => ?_⟩
    refine ⟨Nat.zero_le _, fun f hf => ?_⟩
    refine ⟨_, _, rfl, ?_⟩
    have lf : l ≠ f := ne_of_none upd_same hf
    have hf0 : H f = none := by
      rw [upd_ne lf.symm] at hf
      exact hf
    have fl := S.free hl
    have ff := S.free hf0
    refine while_m (fun m σ H' => ∃ ls fs : List Str, σ = [some (.ref d), some (.ref a), some (.ref l), some (.ref f)] ∧ ls.length = m ∧ H' l = some (.lst (ls.map V.str)) ∧ H' f = some (.lst (fs.map V.str)) ∧ (fs ++ ls).Perm ts ∧ StA H' d g c (n + fs.length) ∧ Kp d g H H') ts.length
      ⟨ts, [], rfl, rfl, by rw [upd_ne lf]; exact upd_same, upd_same, List.Perm.refl _, (S.keep (same_new hl)).keep (same_new hf), ((Kp.refl H).upF hl).upF hf0⟩ ?_
    rintro m σ H1 ⟨ls, fs, rfl, hm, hL, hF, pm, S1, kp⟩
    have plen : fs.length + ls.length = ts.length := by
      have := pm.length_eq
      rw [List.length_append] at this
      exact this
    refine ⟨_, rfl, Nat.zero_le _, fun e he => ?_⟩
    have se := same_new (o := .lst []) he
    have hL2 := se _ _ hL
    refine ⟨_, .list [], .lst (SqL.of hL2) (dpStrs ls), .lst (SqL.of upd_same) .nil, shStrs ls (fun x hx => hok x (pm.mem_iff.mp (List.mem_append_right _ hx))), by decide, ?_⟩
    cases ls with
    | nil =>
      refine ⟨_, rfl, ?_⟩
      refine ifF rfl ?_
      refine ⟨_, rfl, k f fs _ ?_ ?_ (fun b u e' h1 h2 => se _ _ (kp b u e' h1 h2)) hf0 (se _ _ hF)⟩
      · rw [List.append_nil] at pm
        exact pm
      · have e2 : fs.length = ts.length := by simpa using plen
        rw [← e2]
        exact S1.keep se
    | cons x xs =>
      refine ⟨_, rfl, ?_⟩
      refine ifT rfl ?_
      refine ⟨fun σ' H' => ∃ m', m' < m ∧ ∃ ls fs : List Str, σ' = [some (.ref d), some (.ref a), some (.ref l), some (.ref f)] ∧ ls.length = m' ∧ H' l = some (.lst (ls.map V.str)) ∧ H' f = some (.lst (fs.map V.str)) ∧ (fs ++ ls).Perm ts ∧ StA H' d g c (n + fs.length) ∧ Kp d g H H', fun σ' H' z => z, ?_⟩
      have hF2 := se _ _ hF
      have S2 := S1.keep se
      have kp2 : Kp d g H (upd H1 e (.lst [])) := fun b u e' h1 h2 => se _ _ (kp b u e' h1 h2)
      generalize upd H1 e (.lst []) = H2 at hL2 hF2 S2 kp2 ⊢
      refine ⟨_, rfl, .inl ⟨rfl, _, SqL.of hF2⟩, _, rfl, .inl ⟨rfl, _, SqL.of hL2⟩, _, rfl, _, rfl, l, _, rfl, .inl (SqL.of hL2), d, g, c, n + fs.length, _, rfl, S2, by omega, by simp only [List.length_map, List.length_cons]; omega, by simp only [List.length_map, List.length_cons] at plen ⊢; omega, fun v H3 h0 h1 S3 kp3 => ?_⟩
      have hl3 := kp3 _ _ hL2 fl.1 fl.2.1
      have hf3 := kp3 _ _ hF2 ff.1 ff.2.1
      rw [List.length_map] at h1
      have hi : v.toNat < (x :: xs).length := by omega
      have hlen60 : (x :: xs).length ≤ 60 := by omega
      refine ⟨l, (x :: xs).map V.str, v, v.toNat, .str (x :: xs)[v.toNat], rfl, rfl, hl3, by omega, by omega, ?_, ?_, ?_⟩
      · refine seqIndex_of h0 ?_
        rw [List.length_map]
        exact h1
      · rw [List.getElem?_map, List.getElem?_eq_getElem hi]
        rfl
      · refine ⟨f, fs.map V.str, _, rfl, rfl, by rw [upd_ne lf.symm]; exact hf3, by rw [List.length_map, sizeLine_eq]; omega, ?_⟩
        refine ⟨m - 1, by simp only [List.length_cons] at hm; omega, (x :: xs).eraseIdx v.toNat, fs ++ [(x :: xs)[v.toNat]], rfl, ?_, ?_, ?_, ?_, ?_, ?_⟩
        · rw [List.length_eraseIdx_of_lt hi]
          simp only [List.length_cons] at hm ⊢
          omega
        · rw [upd_ne lf, upd_same, erase_map]
        · rw [upd_same, List.map_append]
          rfl
        · rw [List.append_assoc]
          exact (List.Perm.append_left fs (erase_perm hi)).trans pm
        · rw [List.length_append]
          exact (S3.upF fl.1 fl.2.1 fl.2.2).upF ff.1 ff.2.1 ff.2.2
        · have kq : Kp d g H H3 := fun b u e' h1 h2 => kp3 _ _ (kp2 b u e' h1 h2) h1 h2
          exact (kq.upF hl).upF hf0
end
/-! ### the table of new names -/
def oldS : List Str := ["u", "v2", "far", "m", "f", "g", "up", "a", "n0", "i0", "i1", "p", "q7", "d", "b", "x2", "zz", "s", "t0", "big"]
def xlw : List Str := ["x", "len", "w"]
theorem sgn_lt {c : Nat} (h : isSgn c = true) : c < 128 := by
  unfold isSgn isLet at h
  rw [Bool.or_eq_true, decide_eq_true_eq, decide_eq_true_eq] at h
  have a : ∀ c ∈ L26.cps.toList, c < 128 := by decide +kernel
  have b : ∀ c ∈ D10.cps.toList, c < 128 := by decide +kernel
  rcases h with h | h
  · exact a c h
  · exact b c h
theorem name_parts {s : Str} (h : nameS s = true) : 1 ≤ s.length ∧ s.length ≤ 8 ∧ PyData.strOk s = true := by
  unfold nameS at h
  simp only [Bool.and_eq_true, decide_eq_true_eq] at h
  refine ⟨h.1.1, h.1.2, ?_⟩
  have h2 := h.2.2.1
  rw [List.all_eq_true] at h2
  unfold PyData.strOk
  rw [Array.all_eq_true]
  intro i hi
  have := sgn_lt (h2 _ (by rw [Array.mem_toList_iff]; exact Array.getElem_mem hi))
  exact decide_eq_true (by omega)
/-- new names for old ones: none, or one for each of them -/
structure TblP (kvs : List (Key × V)) (ts : List Str) (xs : List Str) : Prop where
  val : ∀ k v, valV kvs k = some v → ∃ s : Str, v = .str s ∧ nameS s = true ∧ s ∈ ts
  key : ∀ k v, valV kvs k = some v → ∃ x : Str, k = .inr x ∧ x ∈ oldS ++ xlw
  inj : ∀ k k' v, valV kvs k = some v → valV kvs k' = some v → k = k'
  full : ∀ x ∈ xs, ∃ v, valV kvs (.inr x) = some v
structure TblOk (kvs : List (Key × V)) : Prop where
  ex : ∃ ts xs, TblP kvs ts xs ∧ ((kvs = [] ∧ xs = []) ∨ xs = oldS ++ xlw)
theorem TblOk.val {kvs : List (Key × V)} (t : TblOk kvs) : ∀ k v, valV kvs k = some v → ∃ s : Str, v = .str s ∧ nameS s = true := fun k v e => by
  obtain ⟨ts, xs, h, _⟩ := t.ex
  obtain ⟨s, a, b, _⟩ := h.val k v e
  exact ⟨s, a, b⟩
theorem TblP.put {kvs : List (Key × V)} {ts xs : List Str} {x s : Str} (t : TblP kvs ts xs) (hx : x ∈ oldS ++ xlw) (hs : nameS s = true) (hn : s ∉ ts) : TblP (putK kvs (.inr x) (.str s)) (ts ++ [s]) (xs ++ [x]) := by
  refine ⟨fun j v e => ?_, fun j v e => ?_, fun j j' v e e' => ?_, fun y hy => ?_⟩
  · rw [valV_put] at e
    by_cases ej : j = .inr x
    · rw [if_pos ej] at e
      exact ⟨s, (Option.some.inj e).symm, hs, List.mem_append_right _ List.mem_cons_self⟩
    · rw [if_neg ej] at e
      obtain ⟨z, a, b, c⟩ := t.val j v e
      exact ⟨z, a, b, List.mem_append_left _ c⟩
  · rw [valV_put] at e
    by_cases ej : j = .inr x
    · exact ⟨x, ej, hx⟩
    · rw [if_neg ej] at e
      exact t.key j v e
  · rw [valV_put] at e e'
    by_cases ej : j = .inr x
    · by_cases ej' : j' = .inr x
      · rw [ej, ej']
      · rw [if_pos ej] at e
        rw [if_neg ej'] at e'
        obtain ⟨z, a, _, c⟩ := t.val j' v e'
        have e := Option.some.inj e
        rw [a] at e
        injection e with e
        exact absurd (e ▸ c) hn
    · by_cases ej' : j' = .inr x
      · rw [if_pos ej'] at e'
        rw [if_neg ej] at e
        obtain ⟨z, a, _, c⟩ := t.val j v e
        have e' := Option.some.inj e'
        rw [a] at e'
        injection e' with e'
        exact absurd (e' ▸ c) hn
      · rw [if_neg ej] at e
        rw [if_neg ej'] at e'
        exact t.inj j j' v e e'
  · rw [valV_put]
    by_cases ej : (Sum.inr y : Key) = .inr x
    · rw [if_pos ej]
      exact ⟨_, rfl⟩
    · rw [if_neg ej]
      rcases List.mem_append.mp hy with q | q
      · exact t.full y q
      · exact absurd (congrArg Sum.inr (List.mem_singleton.mp q)) ej
theorem putK_len (c : List (Key × V)) (k : Key) (x : V) : (putK c k x).length ≤ c.length + 1 := by
  unfold putK
  by_cases e : (c.any fun kv => decide (kv.1 = k)) = true
  · rw [if_pos e, List.length_map]
    omega
  · rw [if_neg e, List.length_append]
    simp
def spTab : Sp := fun vs H Q _ => ∃ (d g c : Addr) (n : Nat), vs = [.ref d] ∧ StA H d g c n ∧ n ≤ 800000000 ∧
  ∀ (t : Addr) (kvs : List (Key × V)) (H' : Hp), StA H' d g c (n + 400) → Kp d g H H' → H t = none → H' t = some (.dK kvs) → TblOk kvs → Q (.ref t) H'
section
variable {P : Program} {w : World} {K : PySem.W.Frag} {mg : Str → Option Value} {base : Heap}
variable {fShf fTab fNmd fKnd fNam fCbw : Addr}
theorem scTab : FnScope ["state", "old", "table", "taken", "name"] ["state"] (defScope sTab) := ⟨rfl, rfl, rfl, by decide +kernel, rfl, by decide +kernel, by decide +kernel⟩
theorem ok_tab {f fM fD fP fW : Addr} {fd fdD fdNam : FuncData} (F : Fun K "_law_tx_table" "_law_tx_table" sTab f fd) (T : MgS K mg fM fD) (L : MgL K mg fShf fTab fNmd fKnd fNam fCbw)
    (GD : FnOk P w K mg base CX0 2 fD fdD ["state", "room"] spDrw) (bD : L2.Binds K fdD ["state", "room"] [])
    (GN : FnOk P w K mg base CX0 4 fNam fdNam ["state", "taken"] spNam) (bN : L2.Binds K fdNam ["state", "taken"] []) : FnOk P w K mg base CX0 5 f fd ["state"] spTab := by
  refine F.ok scTab (fun vs H Q E h => ?_) (fun cdv A outer s H vs Q E hr h => ?_)
  · obtain ⟨d, g, c, n, rfl, _⟩ := h
    rfl
  · obtain ⟨d, g, c, n, rfl, S, hn, k⟩ := h
    have hr2 : Room 2 _ := hr.mono (by decide)
    have hu := hu_of hr
    refine ⟨_, (pss_cons (ps_set (i := 1) scTab.nd rfl (Or.inl rfl) (pe_lst (pa_cons pe_str (pa_cons pe_str (pa_cons pe_str (pa_cons pe_str (pa_cons pe_str (pa_cons pe_str (pa_cons pe_str (pa_cons pe_str (pa_cons pe_str (pa_cons pe_str (pa_cons pe_str (pa_cons pe_str (pa_cons pe_str (pa_cons pe_str (pa_cons pe_str (pa_cons pe_str (pa_cons pe_str (pa_cons pe_str (pa_cons pe_str (pa_cons pe_str pa_nil))))))))))))))))))))))
      (pss_cons (ps_par (i := 2) (j := 3) (by rfl) scTab.nd rfl rfl (by decide) rfl rfl (pa_cons pe_dnewK (pa_cons (pe_lst (pa_cons pe_str pa_nil)) pa_nil)) (by rfl))
      (pss_cons (ps_for PassesOwn.never rfl (pi_list (pe_weak (pe_ifExp (pt_cmpR op_gt (pe_call GD hr2 (by rfl) T.dr T.kdr bD .nil pass0 (pa_cons (pv 0) (pa_cons pe_int pa_nil))) pe_int (nomark _)) (pe_op op_cat (pv 1) (pe_lst (pa_cons pe_str (pa_cons pe_str (pa_cons pe_str pa_nil))))) (pe_lst pa_nil)))) (pg_name (i := 4) scTab.nd rfl (Or.inl rfl))
          (pss_cons (ps_dput hu (pv 2) (pv 4) (pe_call GN hr (by rfl) L.nam L.knam bN .nil pass0 (pa_cons (pv 0) (pa_cons (pv 3) pa_nil))) rfl)
          (pss_one (ps_expr (qApp (pv 3) (pe_dget hu (pv 2) (pv 4) (fun _ _ => rfl)))))))
      (pss_one (ps_ret (pv 2)))))), ?_⟩
    refine ⟨(by show 20 ≤ sizeLine; decide), fun o ho => ?_⟩
    generalize hHa : upd H o _ = Ha
    obtain ⟨so, eo⟩ := freshF ho hHa
    have eo : Ha o = some (.lst (oldS.map V.str)) := eo
    refine fun t ht => ?_
    generalize hHb : upd Ha t _ = Hb
    obtain ⟨st, et⟩ := freshF ht hHb
    refine ⟨(by show 1 ≤ sizeLine; decide), fun kn hk => ?_⟩
    generalize hHc : upd Hb kn _ = Hc
    obtain ⟨sk, ek⟩ := freshF hk hHc
    have ek : Hc kn = some (.lst ((["main"] : List Str).map V.str)) := ek
    refine ⟨_, _, rfl, ?_⟩
    have S0 := ((S.keep so).keep st).keep sk
    have eo := sk _ _ (st _ _ eo)
    have et := sk _ _ et
    have fo := S.free ho
    have ft := (S.keep so).free ht
    have fk := ((S.keep so).keep st).free hk
    have kp0 : Kp d g H Hc := Kp.of ((so.trans st).trans sk)
    have ht0 : H t = none := so.free ht
    have hk0 : H kn = none := so.free (st.free hk)
    have tk : t ≠ kn := ne_of et ek (by intro z; cases z)
    refine ⟨fun v H3 => ∃ (x : Addr) (xs : List Str), v = .ref x ∧ (xs = [] ∨ xs = oldS ++ xlw) ∧ H3 x = some (.lst (xs.map V.str)) ∧ x ≠ d ∧ x ≠ g ∧ x ≠ t ∧ x ≠ kn ∧ StA H3 d g c (n + 1) ∧ Kp d g H H3 ∧ H3 t = some (.dK []) ∧ H3 kn = some (.lst ((["main"] : List Str).map V.str)), ?_, ?_⟩
    · refine ⟨_, rfl, d, g, c, n, 3, rfl, S0, by omega, by decide, by decide, fun v H2 h0 h1 S2 kp2 => ⟨_, _, rfl, rfl, _, rfl, ?_⟩⟩
      have eo := kp2 _ _ eo fo.1 fo.2.1
      have et := kp2 _ _ et ft.1 ft.2.1
      have ek := kp2 _ _ ek fk.1 fk.2.1
      have kp := kp0.trans kp2
      by_cases hv : v > 0
      · refine ifT (decide_eq_true hv) ?_
        refine ⟨_, rfl, (by show 3 ≤ sizeLine; decide), fun q hq => ?_⟩
        generalize hHd : upd H2 q _ = Hd
        obtain ⟨sq, eq⟩ := freshF hq hHd
        refine ⟨o, q, oldS.map V.str, xlw.map V.str, rfl, rfl, sq _ _ eo, eq, (by show 20 + 3 ≤ sizeLine; decide), fun x hx => ?_⟩
        generalize hHe : upd Hd x _ = He
        obtain ⟨sx, ex⟩ := freshF hx hHe
        have s3 := sq.trans sx
        have fx := S2.free (sq.free hx)
        exact ⟨x, oldS ++ xlw, rfl, .inr rfl, by rw [ex, List.map_append], fx.1, fx.2.1, (ne_of_none et (sq.free hx)).symm, (ne_of_none ek (sq.free hx)).symm, S2.keep s3, kp.trans (Kp.of s3), s3 _ _ et, s3 _ _ ek⟩
      · refine ifF (decide_eq_false hv) ?_
        refine ⟨Nat.zero_le _, fun x hx => ?_⟩
        generalize hHe : upd H2 x _ = He
        obtain ⟨s3, ex⟩ := freshF hx hHe
        have fx := S2.free hx
        exact ⟨x, [], rfl, .inl rfl, ex, fx.1, fx.2.1, (ne_of_none et hx).symm, (ne_of_none ek hx).symm, S2.keep s3, kp.trans (Kp.of s3), s3 _ _ et, s3 _ _ ek⟩
    · rintro _ H3 ⟨x, xs, rfl, hxs, ex, xd, xg, xt, xk, S3, kp3, et3, ek3⟩
      have hlen : xs.length ≤ 23 := by rcases hxs with rfl | rfl <;> decide
      refine ⟨x, rfl, ⟨_, SqL.of ex⟩, for_list (K := K) (a := x) (xs := xs.map V.str)
        (fun i σ H' => ∃ (kvs : List (Key × V)) (ts : List Str) (v : Option V), σ = [some (.ref d), some (.ref o), some (.ref t), some (.ref kn), v] ∧ H' x = some (.lst (xs.map V.str)) ∧ H' t = some (.dK kvs) ∧ H' kn = some (.lst (ts.map V.str)) ∧ TblP kvs ts (xs.take i) ∧ (i = 0 → kvs = []) ∧ kvs.length ≤ i ∧ ts.length ≤ i + 1 ∧ StA H' d g c (n + 1 + 12 * i) ∧ Kp d g H H')
        ⟨[], ["main"], none, rfl, ex, et3, ek3, ⟨fun k v e => (by cases e), fun k v e => (by cases e), fun k k' v e => (by cases e), fun x hx => (by simp at hx)⟩, fun _ => rfl, Nat.le_refl _, Nat.le_refl _, S3, kp3⟩ (fun i σ H' _ ⟨_, _, _, _, h, _⟩ => SqL.of h) ?_ ?_⟩
      · rintro i y σ H4 hi ⟨kvs, ts, v, rfl, ex4, et4, ek4, tb, _, kl, tl4, S4, kp4⟩
        have hil : i < 23 := by
          have := (List.getElem?_eq_some_iff.mp hi).1
          rw [List.length_map] at this
          omega
        rw [List.getElem?_map] at hi
        obtain ⟨nm, hnm, rfl⟩ := Option.map_eq_some_iff.mp hi
        refine ⟨_, rfl, _, rfl, d, g, c, kn, _, ts, rfl, S4, by omega, ek4, by omega, fk.2.1, fun z H5 okz S5 kp5 nmz nz => ?_⟩
        have ex5 := kp5 _ _ ex4 xd xg
        have et5 := kp5 _ _ et4 ft.1 ft.2.1
        have ek5 := kp5 _ _ ek4 fk.1 fk.2.1
        have lz : z.length ≤ 1000 := by have := (okS_to okz).2.2; omega
        refine ⟨_, rfl, _, rfl, t, _, rfl, DPut.k (k := Sum.inr nm) et5 (by rw [sizeLine_eq]; omega), ?_⟩
        have pk : valV (putK kvs (Sum.inr nm) (.str z)) (Sum.inr nm) = some (.str z) := by rw [valV_put, if_pos rfl]
        have dg : DGet (upd H5 t (.dK (putK kvs (Sum.inr nm) (.str z)))) t (.str nm) (some (.str z)) := by
          have e := DGet.k (k := Sum.inr nm) (upd_same (H := H5) (a := t) (o := .dK (putK kvs (Sum.inr nm) (.str z))))
          rw [pk] at e
          exact e
        have ek6 : upd H5 t (.dK (putK kvs (Sum.inr nm) (.str z))) kn = some (.lst (ts.map V.str)) := by rw [upd_ne tk.symm]; exact ek5
        refine ⟨_, rfl, .inl ⟨rfl, _, SqL.of ek6⟩, _, rfl, _, rfl, t, _, rfl, dg, kn, ts.map V.str, _, rfl, rfl, ek6, by rw [List.length_map, sizeLine_eq]; omega, ?_⟩
        have kp6 : Kp d g H H5 := kp4.trans kp5
        have hin : nm ∈ oldS ++ xlw := by
          have := List.mem_of_getElem? hnm
          rcases hxs with rfl | rfl
          · cases this
          · exact this
        have tb2 : TblP (putK kvs (Sum.inr nm) (.str z)) (ts ++ [z]) (xs.take (i + 1)) := by
          rw [List.take_succ, hnm]
          exact tb.put hin nmz nz
        refine ⟨putK kvs (Sum.inr nm) (.str z), ts ++ [z], _, rfl, ?_, ?_, ?_, tb2, (fun z => by omega), ?_, ?_, ?_, (kp6.upF ht0).upF hk0⟩
        · rw [upd_ne xk, upd_ne xt]
          exact ex5
        · rw [upd_ne tk]
          exact upd_same
        · rw [upd_same, List.map_append]
          rfl
        · have := putK_len kvs (Sum.inr nm) (.str z)
          omega
        · rw [List.length_append]
          show ts.length + 1 ≤ _
          omega
        · exact ((S5.upF (o := .dK (putK kvs (Sum.inr nm) (.str z))) ft.1 ft.2.1 ft.2.2).upF fk.1 fk.2.1 fk.2.2).mono (by omega)
      · rintro σ H4 ⟨kvs, ts, v, rfl, ex4, et4, ek4, tb, k0, kl, tl4, S4, kp4⟩
        rw [List.length_map] at S4 tb k0
        rw [List.take_length] at tb
        have tb : TblOk kvs := ⟨⟨ts, xs, tb, by
          rcases hxs with rfl | rfl
          · exact .inl ⟨k0 rfl, rfl⟩
          · exact .inr rfl⟩⟩
        exact ⟨_, rfl, k t kvs H4 (S4.mono (by omega)) kp4 ht0 et4 tb⟩
end
end K1

set_option Elab.async false
set_option linter.all false
set_option pp.maxSteps 700
set_option maxRecDepth 100000
set_option maxHeartbeats 2000000
namespace K1
open PySem PySem.Spec PyProof.Rows L2
open TL (tl)
/-! ### other names -/
mutual
def ren (f : Str → Str) : Dt → Dt
  | .str s => .str (f s)
  | .tup l => .tup (rens f l)
  | d => d
def rens (f : Str → Str) : List Dt → List Dt
  | [] => []
  | d :: l => ren f d :: rens f l
end
theorem rens_map {f : Str → Str} {l : List Dt} : rens f l = l.map (ren f) := by
  induction l with
  | nil => rfl
  | cons x l ih => rw [List.map_cons, ← ih]; rfl
def lookS (kvs : List (Key × V)) (s : Str) : Str := match valV kvs (.inr s) with
  | some (.str z) => z
  | _ => s
theorem TblOk.look {kvs : List (Key × V)} (t : TblOk kvs) {s : Str} (h : s.length ≤ 1000) (hs : PyData.strOk s = true) : (lookS kvs s).length ≤ 1000 ∧ PyData.strOk (lookS kvs s) = true := by
  unfold lookS
  cases e : valV kvs (.inr s) with
  | none => exact ⟨h, hs⟩
  | some v =>
    obtain ⟨z, rfl, hz⟩ := t.val _ _ e
    obtain ⟨_, a, b⟩ := name_parts hz
    exact ⟨(by show z.length ≤ 1000; omega), b⟩
/-- a value with other names -/
def spNmd (n : Nat) : Sp := fun vs H Q _ => ∃ (g : Addr) (v : V) (d : Dt) (t : Addr) (kvs : List (Key × V)), vs = [v, .ref t] ∧ DV g H v d ∧ pur d = true ∧ dep d < n ∧ H t = some (.dK kvs) ∧ TblOk kvs ∧
  ∀ (v' : V) (H' : Hp), DV g H' v' (ren (lookS kvs) d) → pur (ren (lookS kvs) d) = true → Same H H' → Q v' H'
theorem DVs.pick {g : Addr} {H : Hp} {xs : List V} {ds : List Dt} (r : DVs g H xs ds) {v : V} (h : v ∈ xs) : ∃ d, d ∈ ds ∧ DV g H v d := by
  obtain ⟨i, hi, e⟩ := List.mem_iff_getElem.mp h
  obtain ⟨d, h1, h2⟩ := r.at_ (i := i) (v := v) (by rw [List.getElem?_eq_getElem hi, e])
  exact ⟨d, List.mem_of_getElem? h1, h2⟩
theorem DVs.snoc {g : Addr} {H : Hp} {xs : List V} {ds : List Dt} (r : DVs g H xs ds) {v : V} {d : Dt} (h : DV g H v d) : DVs g H (xs ++ [v]) (ds ++ [d]) := r.app (.cons h .nil)
theorem purs_snoc {l : List Dt} {d : Dt} (h : purs l = true) (hd : pur d = true) : purs (l ++ [d]) = true := by
  rw [purs_all] at h ⊢
  rw [List.all_append, h]
  show (true && (pur d && true)) = true
  rw [hd]
  rfl
section
variable {P : Program} {w : World} {K : PySem.W.Frag} {mg : Str → Option Value} {base : Heap}
variable {fShf fTab fNmd fKnd fNam fCbw : Addr} {fdNmd : FuncData}
theorem scNmd : FnScope ["value", "table", "one"] ["value", "table"] (defScope sNmd) := ⟨rfl, rfl, rfl, by decide +kernel, rfl, by decide +kernel, by decide +kernel⟩
theorem ok_nmd (F : Fun K "_law_tx_named" "_law_tx_named" sNmd fNmd fdNmd) (L : MgL K mg fShf fTab fNmd fKnd fNam fCbw) (b : L2.Binds K fdNmd ["value", "table"] []) : ∀ n : Nat, FnOk P w K mg base CX0 (n + 1) fNmd fdNmd ["value", "table"] (spNmd n)
  | 0 => ok_none F scNmd (fun vs H Q E h => by obtain ⟨_, _, _, _, _, _, _, _, h, _⟩ := h; exact absurd h (by omega))
  | n + 1 => by
    have G : FnOk P w K mg base CX0 (n + 1) fNmd fdNmd ["value", "table"] (spNmd n) := ok_nmd F L b n
    refine F.ok scNmd (fun vs H Q E h => ?_) (fun cdv A outer s H vs Q E hr h => ?_)
    · obtain ⟨g, v, d, t, kvs, rfl, _⟩ := h
      rfl
    · obtain ⟨g, v, d, t, kvs, rfl, hd, hp, hn, ht, tb, k⟩ := h
      obtain ⟨ty, hty, k1, k2, k3, k4⟩ := hd.ty (K := K)
      have hu := hu_of hr
      refine ⟨_, (pss_cons (ps_if (pt_val (pe_callB call_isi (by rfl) L.isi (by decide +kernel) (pa_cons (pv 0) (pa_cons (pe_bltn (v := .ty "tuple") (by rfl) L.tpl boot_tuple rfl) pa_nil)))) (pss_one (ps_ret (pe_callTy call_tuple_of (by rfl) L.tpl (by decide +kernel) (pa_cons (pe_lc (own := [("one", 2)]) (g := gName 2) (tt := tYes) (by rfl) scNmd.nd (pi_tup (pv 0)) (blkOk_by (own := [("one", 2)]) (N := ["value", "table", "one"]) (sc := defScope sNmd) (by decide +kernel)) (fun _ _ _ _ _ => (pg_name (i := 2) scNmd.nd rfl (Or.inl rfl))) (fun _ _ _ _ _ => pts_nil) (fun _ _ _ _ _ => (pe_call G hr (by rfl) L.nmd L.knmd b .nil pass0 (pa_cons (pv 2) (pa_cons (pv 1) pa_nil))))) pa_nil)))) pss_nil)
      (pss_one (ps_ret (pe_ifExp (pt_val (pe_callB call_isi (by rfl) L.isi (by decide +kernel) (pa_cons (pv 0) (pa_cons (pe_bltn (v := .ty "str") (by rfl) L.str boot_str rfl) pa_nil)))) (pe_dget2 hu (pv 1) (pv 0) (pv 0) ⟨by rfl, by rfl, by rfl, by rfl⟩) (pv 0))))), ?_⟩
      refine ⟨_, rfl, _, _, _, _, _, rfl, .ty "tuple", hty, k2, _, rfl, ?_⟩
      have other : ren (lookS kvs) d = d → Q v H := fun e => k v H (by rw [e]; exact hd) (by rw [e]; exact hp) (Same.refl H)
      cases hd with
      | @tup a xs ds e hl r =>
        have hp : purs ds = true := hp
        have hn : deps ds + 1 < n + 1 := hn
        have hlen := r.len
        refine iteT ⟨_, rfl, a, rfl, ⟨_, SqT.of e⟩, fun D hD => lc_tup (K := K) (a := a) (xs := xs)
          (fun i H' => ∃ ys es, H' D = some (.lst ys) ∧ DVs g H' ys es ∧ purs es = true ∧ ys.length = i ∧ es = (ds.take i).map (ren (lookS kvs)) ∧ Same H H') ⟨[], [], upd_same, .nil, rfl, rfl, rfl, same_new hD⟩ (fun i H' _ ⟨_, _, _, _, _, _, _, s2⟩ => SqT.of (s2 _ _ e)) ?_ ?_⟩
        · rintro i x H' hi ⟨ys, es, h1, h2, h3, h4, h5, s2⟩
          obtain ⟨p, hp', hx⟩ := r.at_ hi
          have pm := List.mem_of_getElem? hp'
          have hil : i < xs.length := (List.getElem?_eq_some_iff.mp hi).1
          refine ⟨rfl, ?_⟩
          refine ⟨_, rfl, _, rfl, g, x, p, t, kvs, rfl, hx.keep (Kv.of s2), purs_mem hp pm, ?_, s2 _ _ ht, tb, fun v' H2 hv' pd' s3 => ⟨_, s3 _ _ h1, ?_, ?_⟩⟩
          · have := deps_mem pm
            omega
          · rw [h4, sizeLine_eq]
            omega
          · refine ⟨ys ++ [v'], es ++ [ren (lookS kvs) p], upd_same, ?_, purs_snoc h3 pd', by rw [List.length_append, h4]; rfl, by rw [List.take_succ, hp', List.map_append, h5]; rfl, ?_⟩
            · have kt : Kt H2 (upd H2 D (.lst (ys ++ [v']))) := Kt.put (s3 _ _ h1)
              exact ((h2.keep (Kv.of s3)).keepP kt h3).snoc (hv'.keepP kt pd')
            · intro b' o e'
              rw [upd_ne (ne_of_none e' hD)]
              exact s3 _ _ (s2 _ _ e')
        · rintro H2 ⟨ys, es, h1, h2, h3, h4, h5, s2⟩
          rw [hlen, List.take_length] at h5
          have e9 : ren (lookS kvs) (.tup ds) = .tup es := by rw [h5, ← rens_map]; rfl
          refine ⟨D, ys, rfl, .inl ⟨SqL.of h1, fun q hq => ?_⟩⟩
          generalize hHq : upd H2 q _ = Hq
          obtain ⟨sq, eq⟩ := freshF hq hHq
          refine k (.ref q) Hq (by rw [e9]; exact .tup eq (by rw [← h2.len, h4, hlen]; exact hl) (h2.keep (Kv.of sq))) (by rw [e9]; exact h3) (s2.trans sq)
      | @str z hz =>
        refine iteF ⟨_, rfl, _, _, _, _, _, rfl, .ty "str", hty, k1, _, rfl, ?_⟩
        refine iteT ⟨_, rfl, t, rfl, .inl ⟨kvs, .inl ht⟩, _, rfl, _, rfl, _, DGet.k (k := Sum.inr z) ht, ?_⟩
        obtain ⟨l1, l2⟩ := tb.look hz hp
        have e9 : (valV kvs (Sum.inr z)).getD (.str z) = .str (lookS kvs z) := by
          unfold lookS
          cases e : valV kvs (Sum.inr z) with
          | none => rfl
          | some v =>
            obtain ⟨s, rfl, hs⟩ := tb.val _ _ e
            rfl
        show Q ((valV kvs (Sum.inr z)).getD (.str z)) H
        rw [e9]
        exact k _ H (.str l1) l2 (Same.refl H)
      | int i => exact iteF ⟨_, rfl, _, _, _, _, _, rfl, .ty "str", hty, k1, _, rfl, iteF ⟨_, rfl, other rfl⟩⟩
      | bl b => exact iteF ⟨_, rfl, _, _, _, _, _, rfl, .ty "str", hty, k1, _, rfl, iteF ⟨_, rfl, other rfl⟩⟩
      | non => exact iteF ⟨_, rfl, _, _, _, _, _, rfl, .ty "str", hty, k1, _, rfl, iteF ⟨_, rfl, other rfl⟩⟩
      | lst _ _ _ _ => cases hp
      | dic _ => cases hp
end
/-! ### drawn kinds -/
theorem cut_take {ys : List Str} {m : Int} (h0 : 0 ≤ m) (h1 : m ≤ ys.length) : cutV (ys.map V.str) none (some m) = (ys.take m.toNat).map V.str := by
  obtain ⟨k, rfl⟩ := Int.eq_ofNat_of_zero_le h0
  unfold cutV
  rw [HT.sIx_none, List.drop_zero, HT.sIx_nat, List.length_map]
  have e : min k ys.length = k := by omega
  first
    | (rw [e, Nat.sub_zero, List.map_take, Int.toNat_natCast]; done)
    | (rw [List.map_take, Int.toNat_natCast]; congr 1; omega)
theorem deps_one (x y : Dt) : dep (.tup [x, y]) = max (dep x) (max (dep y) 0) + 1 := rfl
theorem sumCons (f : Dt → Int) (l : List Dt) (d : Dt) : ((l ++ [d]).map (sndW f)).sum = (l.map (sndW f)).sum + sndW f d := by
  rw [List.map_append, List.sum_append]
  simp

def bnd : Nat → Nat
  | 0 => 0
  | m + 1 => bnd m + 1000000
theorem bnd_succ (m : Nat) : bnd (m + 1) = bnd m + 1000000 := rfl
def cntK : Nat → Nat
  | 0 => 0
  | m + 1 => 10 + 6 * cntK m
theorem cnt_le {j : Nat} (h : j ≤ 2) : cntK (j + 1) ≤ 100000 := by
  match j, h with
  | 0, _ => decide
  | 1, _ => decide
  | 2, _ => decide
theorem bigA {n b k : Nat} (h : n + b ≤ 700000000) (hk : k ≤ 100000) : n + 1 + k ≤ 1000000000 := by omega
theorem bigB {n b c : Nat} (h : n + (b + 1000000) ≤ 700000000) (hc : c ≤ 100000 * 6) : n + 1 + 1 + 6 + c + b ≤ 700000000 := by omega
def sndD : Dt → Dt
  | .tup [_, z] => z
  | _ => .non
def in2 (nm : Str → Bool) (f : Dt → Bool) : List Dt → Bool
  | [_, .tup l] => l.all (fun p => nm (nmOf p) && f (sndD p))
  | [_, _, z] => f z
  | _ => true
/-- all names of records -/
def inK (nm : Str → Bool) : Nat → Dt → Bool
  | n + 2, .tup l => in2 nm (inK nm (n + 1)) l
  | _, _ => true
theorem inK_str {nm : Str → Bool} (n : Nat) (s : Str) : inK nm n (.str s) = true := by
  cases n with
  | zero => rfl
  | succ n => cases n <;> rfl
def kn6 : List Str := ["a", "b", "x", "q7", "len", "w"]
theorem kn6_ok : ∀ x ∈ kn6, PyData.strOk x = true ∧ nameS x = true ∧ x.length ≤ 1000 := by decide +kernel
theorem kn6_nd : kn6.Nodup := by decide +kernel
/-- m levels are left -/
def spKnd (m : Nat) : Sp := fun vs H Q _ => 1 ≤ m ∧ m ≤ 4 ∧ ∃ (d g c : Addr) (n : Nat) (cap : Int), vs = [.ref d, .int (4 - (m : Nat)), .int cap] ∧ StA H d g c n ∧ n + bnd m ≤ 700000000 ∧ 1 ≤ cap ∧ cap ≤ 400 ∧
  ∀ (v : V) (dt : Dt) (H' : Hp), DV g H' v dt → pur dt = true → formed m dt = true → inK (fun s => decide (s ∈ kn6)) m dt = true → wordsN m dt ≤ cap → dep dt ≤ 3 * m → StA H' d g c (n + cntK m) → Kp d g H H' → Q v H'
section
variable {P : Program} {w : World} {K : PySem.W.Frag} {mg : Str → Option Value} {base : Heap}
variable {fShf fTab fNmd fKnd fNam fCbw fD fP fM fWd fNmr fFlr fFor : Addr} {fdKnd fdD fdP fdShf fdCbw : FuncData}
theorem scKnd : FnScope ["state", "deep", "cap", "way", "inner", "many", "names", "name"] ["state", "deep", "cap"] (defScope sKnd) := ⟨rfl, rfl, rfl, by decide +kernel, rfl, by decide +kernel, by decide +kernel⟩
theorem ok_knd (F : Fun K "_law_cb_kind" "_law_cb_kind" sKnd fKnd fdKnd) (T : MgN K mg fM fD fP fWd) (L : MgL K mg fShf fTab fNmd fKnd fNam fCbw) (b : L2.Binds K fdKnd ["state", "deep", "cap"] [])
    (GD : FnOk P w K mg base CX0 2 fD fdD ["state", "room"] spDrw) (bD : L2.Binds K fdD ["state", "room"] [])
    (GP : FnOk P w K mg base CX0 3 fP fdP ["state", "some"] spPck) (bP : L2.Binds K fdP ["state", "some"] [])
    (GS : FnOk P w K mg base CX0 3 fShf fdShf ["state", "some"] spShf) (bS : L2.Binds K fdShf ["state", "some"] [])
    (GC : ∀ n, FnOk P w K mg base CX0 (n + 1) fCbw fdCbw ["kind"] (spWc n)) (bC : L2.Binds K fdCbw ["kind"] []) : ∀ m : Nat, FnOk P w K mg base CX0 (m + 5) fKnd fdKnd ["state", "deep", "cap"] (spKnd m)
  | 0 => ok_none F scKnd (fun vs H Q E h => absurd h.1 (by omega))
  | m + 1 => by
    have G : FnOk P w K mg base CX0 (m + 5) fKnd fdKnd ["state", "deep", "cap"] (spKnd m) := ok_knd F T L b GD bD GP bP GS bS GC bC m
    refine F.ok scKnd (fun vs H Q E h => ?_) (fun cdv A outer s H vs Q E hr h => ?_)
    · obtain ⟨_, _, d, g, c, n, cap, rfl, _⟩ := h
      rfl
    · obtain ⟨m1, m4, d, g, c, n, cap, rfl, S, hn, c1, c4, k⟩ := h
      have hr2 : Room 2 _ := hr.mono (by omega)
      have hr3 : Room 3 _ := hr.mono (by omega)
      have hrc : Room (m + 1) _ := hr.mono (by omega)
      have GCm : FnOk P w K mg base CX0 (m + 1) fCbw fdCbw ["kind"] (spWc m) := GC m
      refine ⟨_, (pss_cons (ps_set (i := 3) scKnd.nd rfl (Or.inl rfl) (pe_weak (pe_ifExp (pt_cmpR op_lt (pv 1) pe_int (nomark _)) (pe_call GD hr2 (by rfl) T.dr T.kdr bD .nil pass0 (pa_cons (pv 0) (pa_cons pe_int pa_nil))) pe_int)))
      (pss_cons (ps_if (pt_cmpR op_lt (pv 3) pe_int (nomark _)) (pss_one (ps_ret (pe_call GP hr3 (by rfl) T.pk T.kpk bP .nil pass0 (pa_cons (pv 0) (pa_cons (pe_lst (pa_cons pe_str (pa_cons pe_str (pa_cons pe_str pa_nil)))) pa_nil))))) pss_nil)
      (pss_cons (ps_if (pt_cmpR op_eq (pv 3) pe_int (nomark _)) (pss_cons (ps_set (i := 4) scKnd.nd rfl (Or.inl rfl) (pe_call G hr (by rfl) L.knd L.kknd b .nil pass0 (pa_cons (pv 0) (pa_cons (pe_op op_add (pv 1) pe_int) (pa_cons (pv 2) pa_nil)))))
          (pss_one (ps_ret (pe_tup (pa_cons pe_str (pa_cons (pe_callB (call_min2 rfl) (by rfl) L.min PyProof.Rows.boot_min (pa_cons (pe_call GP hr3 (by rfl) T.pk T.kpk bP .nil pass0 (pa_cons (pv 0) (pa_cons (pe_lst (pa_cons pe_int (pa_cons pe_int (pa_cons pe_int (pa_cons pe_int (pa_cons pe_int pa_nil)))))) pa_nil))) (pa_cons (pe_op op_fdivN (pv 2) (pe_call GCm hrc (by rfl) L.cbw L.kcbw bC .nil pass0 (pa_cons (pv 4) pa_nil))) pa_nil))) (pa_cons (pv 4) pa_nil))))))) pss_nil)
      (pss_cons (ps_set (i := 5) scKnd.nd rfl (Or.inr rfl) (pe_callB (call_min2 rfl) (by rfl) L.min PyProof.Rows.boot_min (pa_cons (pe_call GP hr3 (by rfl) T.pk T.kpk bP .nil pass0 (pa_cons (pv 0) (pa_cons (pe_lst (pa_cons pe_int (pa_cons pe_int (pa_cons pe_int (pa_cons pe_int (pa_cons pe_int pa_nil)))))) pa_nil))) (pa_cons (pv 2) pa_nil))))
      (pss_cons (ps_set (i := 6) scKnd.nd rfl (Or.inl rfl) (pe_slice sl_list (pe_call GS hr3 (by rfl) L.shf L.kshf bS .nil pass0 (pa_cons (pv 0) (pa_cons (pe_lst (pa_cons pe_str (pa_cons pe_str (pa_cons pe_str (pa_cons pe_str (pa_cons pe_str (pa_cons pe_str pa_nil))))))) pa_nil))) po_none (po_some (pv 5))))
      (pss_one (ps_ret (pe_tup (pa_cons pe_str (pa_cons (pe_callTy call_tuple_of (by rfl) L.tpl (by decide +kernel) (pa_cons (pe_lc (own := [("name", 7)]) (g := gName 7) (tt := tYes) (by rfl) scKnd.nd (pi_list (pv 6)) (blkOk_by (own := [("name", 7)]) (N := ["state", "deep", "cap", "way", "inner", "many", "names", "name"]) (sc := defScope sKnd) (by decide +kernel)) (fun _ _ _ _ _ => (pg_name (i := 7) scKnd.nd rfl (Or.inl rfl))) (fun _ _ _ _ _ => pts_nil) (fun _ _ _ _ _ => (pe_tup (pa_cons (pv 7) (pa_cons (pe_call G hr (by rfl) L.knd L.kknd b .nil pass0 (pa_cons (pv 0) (pa_cons (pe_op op_add (pv 1) pe_int) (pa_cons (pe_op op_fdivN (pv 2) (pv 5)) pa_nil)))) pa_nil))))) pa_nil)) pa_nil)))))))))), ?_⟩
      have hb := bnd_succ m
      have dp1 : (4 - ((m + 1 : Nat) : Int)) + 1 = 4 - (m : Nat) := by omega
      refine ⟨fun v H' => ∃ w : Int, v = .int w ∧ 0 ≤ w ∧ w < 4 ∧ (m = 0 → w = 0) ∧ StA H' d g c (n + 1) ∧ Kp d g H H', ?_, ?_⟩
      · refine ⟨_, rfl, _, _, rfl, rfl, _, rfl, ?_⟩
        by_cases hm : m = 0
        · refine ifF (decide_eq_false (by omega)) ?_
          exact ⟨0, rfl, by decide, by decide, fun _ => rfl, S.mono (by omega), Kp.refl H⟩
        · refine ifT (decide_eq_true (by omega)) ?_
          refine ⟨_, rfl, d, g, c, n, 4, rfl, S, by omega, by decide, by decide, fun v H' h0 h1 S2 kp2 => ⟨v, rfl, h0, h1, fun z => absurd z hm, S2, kp2⟩⟩
      rintro _ H1 ⟨way, rfl, w0, w4, wm, S1, kp1⟩
      refine ⟨_, rfl, _, _, rfl, rfl, _, rfl, ?_⟩
      by_cases hw2 : way < 2
      · refine ifT (decide_eq_true hw2) ?_
        refine ⟨_, rfl, (by show 3 ≤ sizeLine; decide), fun l hl => ?_⟩
        generalize hHl : upd H1 l _ = Hl
        obtain ⟨sl, el⟩ := freshF hl hHl
        refine ⟨d, g, c, l, n + 1, _, rfl, S1.keep sl, by omega, el, (S1.free hl).2.1, by simp, (by show 3 ≤ 1000000; decide), fun v H2 hv S2 kp2 => ?_⟩
        have e : ∃ z : Str, v = .str z ∧ plainS z = true ∧ z.length ≤ 1000 ∧ PyData.strOk z = true := by
          simp only [List.mem_cons, List.not_mem_nil, or_false] at hv
          rcases hv with rfl | rfl | rfl <;> exact ⟨_, rfl, by decide +kernel, by decide +kernel, by decide +kernel⟩
        obtain ⟨z, rfl, hz, lz, oz⟩ := e
        refine k _ (.str z) H2 (.str lz) oz (by rw [formed_str]; exact hz) (inK_str _ _) (by rw [words_str]; omega) (Nat.zero_le _) (S2.mono ?_) ((kp1.trans (Kp.of sl)).trans kp2)
        show n + 1 + 1 ≤ n + (10 + 6 * cntK m)
        omega
      · refine ifF (decide_eq_false hw2) ?_
        have hm0 : m ≠ 0 := fun z => by have := wm z; omega
        obtain ⟨j, rfl⟩ : ∃ j, m = j + 1 := ⟨m - 1, by omega⟩
        refine ⟨_, rfl, rfl, _, rfl, ?_⟩
        by_cases hw : way = 2
        · refine ifT (by rw [hw]; rfl) ?_
          refine ⟨_, rfl, _, rfl, _, _, rfl, rfl, _, rfl, by omega, by omega, d, g, c, n + 1, cap, ?_, S1, by omega, c1, c4, fun vi di H2 hvi pi fi ki wi de S2 kp2 => ?_⟩
          · show [V.ref d, V.int ((4 - ((j + 1 + 1 : Nat) : Int)) + 1), V.int cap] = _
            rw [dp1]
          obtain ⟨wb, _⟩ := words_bound _ _ fi
          refine ⟨_, rfl, (by show 5 ≤ sizeLine; decide), fun l hl => ?_⟩
          generalize hHl : upd H2 l _ = Hl
          obtain ⟨sl, el⟩ := freshF hl hHl
          refine ⟨d, g, c, l, n + 1 + cntK (j + 1), _, rfl, S2.keep sl, ?_, el, (S2.free hl).2.1, by simp, (by show 5 ≤ 1000000; decide), fun v H3 hv S3 kp3 => ?_⟩
          · exact bigA hn (cnt_le (j := j) (by omega))
          have e : ∃ z : Int, v = .int z ∧ 1 ≤ z ∧ z ≤ 64 := by
            simp only [List.mem_cons, List.not_mem_nil, or_false] at hv
            rcases hv with rfl | rfl | rfl | rfl | rfl <;> exact ⟨_, rfl, by decide, by decide⟩
          obtain ⟨z, rfl, z1, z64⟩ := e
          have hvi3 : DV g H3 vi di := (hvi.keep (Kv.of sl)).keep (Kv.kp (S2.keep sl) kp3)
          refine ⟨_, rfl, _, rfl, by omega, g, vi, di, rfl, hvi3, fi, fun H4 s4 => ?_⟩
          have w400 : wordsN (j + 1) di < 1073741824 := by omega
          refine ⟨_, _, rfl, rfl, ⟨by omega, by omega⟩, _, _, rfl, _, rfl, (by show 3 ≤ sizeLine; decide), fun p hp => ?_⟩
          generalize hHp : upd H4 p _ = Hp
          obtain ⟨sp, ep⟩ := freshF hp hHp
          have q1 : 1 ≤ cap.fdiv (wordsN (j + 1) di) := by
            rw [Int.fdiv_eq_ediv_of_nonneg _ (by omega)]
            exact (Int.le_ediv_iff_mul_le (by omega)).mpr (by omega)
          have q2 : cap.fdiv (wordsN (j + 1) di) * wordsN (j + 1) di ≤ cap := by
            rw [Int.fdiv_eq_ediv_of_nonneg _ (by omega)]
            exact Int.ediv_mul_le _ (by omega)
          generalize hi : (if cap.fdiv (wordsN (j + 1) di) < z then cap.fdiv (wordsN (j + 1) di) else z) = i at ep
          have i1 : 1 ≤ i := by rw [← hi]; split <;> omega
          have i64 : i ≤ 64 := by rw [← hi]; split <;> omega
          have i3 : i ≤ cap.fdiv (wordsN (j + 1) di) := by rw [← hi]; split <;> omega
          have iw : i * wordsN (j + 1) di ≤ cap := Int.le_trans (Int.mul_le_mul_of_nonneg_right i3 (by omega)) q2
          refine k _ (.tup [.str "row", .int i, di]) Hp (.tup ep (by show 3 ≤ 1000; decide) (.cons (.str (by decide +kernel)) (.cons (.int i) (.cons (hvi3.keep (Kv.of (s4.trans sp))) .nil)))) ?_ ?_ ?_ ?_ ?_ ?_ ?_
          · show (PyData.strOk "row" && (true && (pur di && true))) = true
            rw [pi]
            decide +kernel
          · rw [formed_two]
            show (true && ((decide (1 ≤ i) && decide (i ≤ 64)) && formed (j + 1) di)) = true
            rw [decide_eq_true i1, decide_eq_true i64, fi]
            rfl
          · exact ki
          · rw [words_two]
            exact iw
          · show max 0 (max 0 (max (dep di) 0)) + 1 ≤ 3 * (j + 1 + 1)
            omega
          · refine ((S3.keep s4).keep sp).mono ?_
            show n + 1 + cntK (j + 1) + 1 ≤ n + (10 + 6 * cntK (j + 1))
            omega
          · exact ((((kp1.trans kp2).trans (Kp.of sl)).trans kp3).trans (Kp.of s4)).trans (Kp.of sp)
        · refine ifF (decide_eq_false (fun z => hw (by injection z))) ?_
          -- many
          refine ⟨_, rfl, (by show 5 ≤ sizeLine; decide), fun l hl => ?_⟩
          generalize hHl : upd H1 l _ = Hl
          obtain ⟨sl, el⟩ := freshF hl hHl
          refine ⟨d, g, c, l, n + 1, _, rfl, S1.keep sl, by omega, el, (S1.free hl).2.1, by simp, (by show 5 ≤ 1000000; decide), fun v H2 hv S2 kp2 => ?_⟩
          have e : ∃ z : Int, v = .int z ∧ 1 ≤ z ∧ z ≤ 6 := by
            simp only [List.mem_cons, List.not_mem_nil, or_false] at hv
            rcases hv with rfl | rfl | rfl | rfl | rfl <;> exact ⟨_, rfl, by decide, by decide⟩
          obtain ⟨z, rfl, z1, z6⟩ := e
          refine ⟨_, rfl, _, _, rfl, ?_⟩
          generalize hi : (if cap < z then cap else z) = many
          have i1 : 1 ≤ many := by rw [← hi]; split <;> omega
          have i6 : many ≤ 6 := by rw [← hi]; split <;> omega
          have i3 : many ≤ cap := by rw [← hi]; split <;> omega
          -- names
          refine ⟨_, rfl, (by show 6 ≤ sizeLine; decide), fun l2 hl2 => ?_⟩
          generalize hHm : upd H2 l2 _ = Hm
          obtain ⟨sm, em⟩ := freshF hl2 hHm
          have em : Hm l2 = some (.lst (kn6.map V.str)) := em
          refine ⟨d, g, c, l2, n + 1 + 1, kn6, rfl, S2.keep sm, by omega, em, by decide, fun x hx => (kn6_ok x hx).1, fun p ys H3 pm S3 kp3 hp ep => ?_⟩
          have ys6 : ys.length = 6 := pm.length_eq
          refine ⟨_, rfl, _, rfl, p, _, rfl, SqL.of ep, fun q hq => ?_⟩
          rw [cut_take (by omega) (by omega)]
          generalize hHq : upd H3 q _ = Hq
          obtain ⟨sq, eq⟩ := freshF hq hHq
          have S4 := S3.keep sq
          have kpq : Kp d g H Hq := ((((kp1.trans (Kp.of sl)).trans kp2).trans (Kp.of sm)).trans kp3).trans (Kp.of sq)
          have hlN : (ys.take many.toNat).length = many.toNat := by rw [List.length_take]; omega
          have nmsOk : ∀ x ∈ ys.take many.toNat, nameS x = true ∧ x.length ≤ 1000 := fun x hx => (kn6_ok x (pm.mem_iff.mp (List.mem_of_mem_take hx))).2
          have nmsK : ∀ x ∈ ys.take many.toNat, x ∈ kn6 := fun x hx => pm.mem_iff.mp (List.mem_of_mem_take hx)
          have nmsNd : (ys.take many.toNat).Nodup := (pm.nodup_iff.mpr kn6_nd).sublist (List.take_sublist _ _)
          generalize ys.take many.toNat = ns at eq hlN nmsOk nmsNd nmsK
          have qd := (S3.free hq).1
          have qg := (S3.free hq).2.1
          have cb1 : 1 ≤ cap.fdiv many := by
            rw [Int.fdiv_eq_ediv_of_nonneg _ (by omega)]
            exact (Int.le_ediv_iff_mul_le (by omega)).mpr (by omega)
          have cb2 : cap.fdiv many * many ≤ cap := by
            rw [Int.fdiv_eq_ediv_of_nonneg _ (by omega)]
            exact Int.ediv_mul_le _ (by omega)
          have cb3 : cap.fdiv many ≤ 400 := by
            have : cap.fdiv many * 1 ≤ cap.fdiv many * many := Int.mul_le_mul_of_nonneg_left i1 (by omega)
            omega
          generalize hcb : cap.fdiv many = cb at cb1 cb2 cb3
          refine ⟨_, rfl, q, rfl, ⟨_, SqL.of eq⟩, fun D hD => lc_list (K := K) (a := q) (xs := ns.map V.str)
            (fun i H' => ∃ ys es, H' D = some (.lst ys) ∧ DVs g H' ys es ∧ purs es = true ∧ es.length = i ∧ (∀ p ∈ es, pairF (formed (j + 1)) p = true ∧ inK (fun s => decide (s ∈ kn6)) (j + 1) (sndD p) = true) ∧ es.map nmOf = ns.take i ∧ (es.map (sndW (wordsN (j + 1)))).sum ≤ cb * i ∧ deps es ≤ 3 * (j + 1) + 1 ∧ StA H' d g c (n + 1 + 1 + kn6.length + cntK (j + 1) * i) ∧ Kp d g Hq H')
            ⟨[], [], upd_same, .nil, rfl, rfl, (fun p hp => by cases hp), rfl, by simp, Nat.zero_le _, S4.keep (same_new hD), Kp.of (same_new hD)⟩ (fun i H' _ ⟨_, _, _, _, _, _, _, _, _, _, _, kp⟩ => SqL.of (kp _ _ eq qd qg)) ?_ ?_⟩
          · rintro i x H' hi ⟨ys, es, h1, h2, h3, h4, h5, h6, h7, h8, S5, kp5⟩
            have hil : i < ns.length := by
              have := (List.getElem?_eq_some_iff.mp hi).1
              rw [List.length_map] at this
              exact this
            rw [List.getElem?_map] at hi
            obtain ⟨nm, hnm, rfl⟩ := Option.map_eq_some_iff.mp hi
            have hnm' := nmsOk nm (List.mem_of_getElem? hnm)
            refine ⟨rfl, ?_⟩
            refine ⟨_, rfl, _, rfl, _, rfl, _, _, rfl, rfl, _, rfl, _, rfl, _, _, rfl, rfl, ⟨by omega, by omega⟩, by omega, by omega, d, g, c, _, cb, ?_, S5, ?_, cb1, cb3, fun vi di H2 hvi pi fi ki wi de S6 kp6 => ?_⟩
            · show [V.ref d, V.int ((4 - ((j + 1 + 1 : Nat) : Int)) + 1), V.int (cap.fdiv many)] = _
              rw [dp1, hcb]
            · exact bigB hn (Nat.mul_le_mul (cnt_le (j := j) (by omega)) (show i ≤ 6 by omega))
            refine ⟨(by show 2 ≤ sizeLine; decide), fun p hp => ?_⟩
            generalize hHp : upd H2 p _ = Hp
            obtain ⟨sp, ep⟩ := freshF hp hHp
            have hDd : D ≠ d := ((S4.free hD)).1
            have hDg : D ≠ g := ((S4.free hD)).2.1
            have h1' := sp _ _ (kp6 _ _ h1 hDd hDg)
            refine ⟨_, h1', ?_, ys ++ [.ref p], es ++ [.tup [.str nm, di]], upd_same, ?_, ?_, ?_, ?_, ?_, ?_, ?_, ?_, ?_⟩
            · rw [h2.len, h4, sizeLine_eq]
              omega
            · have kt : Kt Hp (upd Hp D (.lst (ys ++ [.ref p]))) := Kt.put h1'
              have a1 := (h2.keepP (g' := g) (Kt.kp S5 kp6) h3).keepP (g' := g) (Kt.of sp) h3
              refine (a1.keepP kt h3).snoc ?_
              refine DV.tup (kt _ _ ep) (by show 2 ≤ 1000; decide) (.cons (.str hnm'.2) (.cons ((hvi.keepP (g' := g) (Kt.of sp) pi).keepP kt pi) .nil))
            · refine purs_snoc h3 ?_
              show (PyData.strOk nm && (pur di && true)) = true
              rw [pi, (name_parts hnm'.1).2.2]
              rfl
            · rw [List.length_append, h4]
              rfl
            · intro p' hp'
              rcases List.mem_append.mp hp' with q | q
              · exact h5 p' q
              · rw [List.mem_singleton.mp q]
                refine ⟨?_, ki⟩
                show (nameS nm && formed (j + 1) di) = true
                rw [hnm'.1, fi]
                rfl
            · rw [List.map_append, h6, List.take_succ, hnm]
              rfl
            · rw [sumCons]
              have e1 : cb * ((i + 1 : Nat) : Int) = cb * i + cb := by
                rw [Int.natCast_add, Int.mul_add]
                simp
              rw [e1]
              have e2 : sndW (wordsN (j + 1)) (.tup [.str nm, di]) = wordsN (j + 1) di := rfl
              rw [e2]
              omega
            · refine deps_le fun d' hd' => ?_
              rcases List.mem_append.mp hd' with q | q
              · exact Nat.le_trans (deps_mem q) h8
              · rw [List.mem_singleton.mp q]
                show max 0 (max (dep di) 0) + 1 ≤ _
                omega
            · refine ((S6.keep sp).upF hDd hDg (S4.free hD).2.2).mono ?_
              rw [Nat.mul_succ]
              omega
            · exact ((kp5.trans kp6).trans (Kp.of sp)).upF hD
          · rintro H5 ⟨ys, es, h1, h2, h3, h4, h5, h6, h7, h8, S5, kp5⟩
            rw [List.length_map] at h4 h6 h7 S5
            rw [List.take_length] at h6
            have hns : ns.length = many.toNat := hlN
            refine ⟨D, ys, rfl, .inl ⟨SqL.of h1, fun t ht => ?_⟩⟩
            generalize hHt : upd H5 t _ = Ht
            obtain ⟨stt, et⟩ := freshF ht hHt
            refine ⟨(by show 2 ≤ sizeLine; decide), fun p hp => ?_⟩
            generalize hHp : upd Ht p _ = Hp
            obtain ⟨sp, ep⟩ := freshF hp hHp
            refine k _ (.tup [.str "record", .tup es]) Hp (.tup ep (by show 2 ≤ 1000; decide) (.cons (.str (by decide +kernel)) (.cons (.tup (sp _ _ et) ?_ ((h2.keep (Kv.of stt)).keep (Kv.of sp))) .nil))) ?_ ?_ ?_ ?_ ?_ ?_ ?_
            · omega
            · show (PyData.strOk "record" && (purs es && true)) = true
              rw [h3]
              decide +kernel
            · rw [formed_two]
              show (true && ((decide (1 ≤ (es.length : Int)) && decide ((es.length : Int) ≤ 6)) && (es.all (pairF (formed (j + 1))) && decide (es.map nmOf).Nodup))) = true
              rw [h6, decide_eq_true nmsNd, List.all_eq_true.mpr (fun p hp => (h5 p hp).1), decide_eq_true (show 1 ≤ (es.length : Int) by omega), decide_eq_true (show (es.length : Int) ≤ 6 by omega)]
              rfl
            · show es.all (fun p => decide (nmOf p ∈ kn6) && inK (fun s => decide (s ∈ kn6)) (j + 1) (sndD p)) = true
              rw [List.all_eq_true]
              intro p hp
              have : nmOf p ∈ ns := by
                rw [← h6]
                exact List.mem_map.mpr ⟨p, hp, rfl⟩
              rw [decide_eq_true (nmsK _ this), (h5 p hp).2]
              rfl
            · rw [words_two]
              show (es.map (sndW (wordsN (j + 1)))).sum ≤ cap
              have e1 : ((ns.length : Nat) : Int) = many := by omega
              rw [e1] at h7
              omega
            · show max 0 (max (deps es + 1) 0) + 1 ≤ 3 * (j + 1 + 1)
              omega
            · refine ((S5.keep stt).keep sp).mono ?_
              have c2 : cntK (j + 1) * ns.length ≤ cntK (j + 1) * 6 := Nat.mul_le_mul_left _ (by omega)
              have c3 : kn6.length = 6 := rfl
              show _ ≤ n + (10 + 6 * cntK (j + 1))
              omega
            · exact ((kpq.trans kp5).trans (Kp.of stt)).trans (Kp.of sp)
end
end K1

set_option Elab.async false
set_option linter.all false
set_option pp.maxSteps 700
set_option maxRecDepth 100000
set_option maxHeartbeats 2000000
namespace K1
open PySem PySem.Spec PyProof.Rows L2
open TL (tl)
/-! ### trails, offsets -/
def T2 (f : Dt → List (List Dt)) : List Dt → List (List Dt)
  | [_, .tup l] => l.flatMap (fun p => (f (sndD p)).map (Dt.str (nmOf p) :: ·))
  | [_, .int i, z] => (List.range i.toNat).flatMap (fun k => (f z).map (Dt.int ((k : Nat) : Int) :: ·))
  | _ => [[]]
def TN : Nat → Dt → List (List Dt)
  | n + 2, .tup l => T2 (TN (n + 1)) l
  | _, _ => [[]]
def FK (w : Dt → Int) : List Dt → Str → Int → Option (Dt × Int)
  | [], _, _ => none
  | p :: r, s, a => if nmOf p = s then some (sndD p, a) else FK w r s (a + w (sndD p))
def ST2 (w : Dt → Int) : List Dt → Dt → Option (Dt × Int)
  | [_, .tup l], .str s => FK w l s 0
  | [_, .int i, z], .int k => if 0 ≤ k ∧ k < i then some (z, k * w z) else none
  | _, _ => none
def ST : Nat → Dt → Dt → Option (Dt × Int)
  | n + 2, .tup l, s => ST2 (wordsN (n + 1)) l s
  | _, _, _ => none
def WK : Nat → Dt → List Dt → Option (Dt × Int)
  | _, d, [] => some (d, 0)
  | 0, _, _ :: _ => none
  | n + 1, d, s :: r => (ST (n + 1) d s).bind fun x => (WK n x.1 r).map fun y => (y.1, x.2 + y.2)
theorem TN_str (n : Nat) (s : Str) : TN n (.str s) = [[]] := by
  cases n with
  | zero => rfl
  | succ n => cases n <;> rfl
theorem TN_two (n : Nat) (l : List Dt) : TN (n + 2) (.tup l) = T2 (TN (n + 1)) l := rfl
theorem ST_two (n : Nat) (l : List Dt) (s : Dt) : ST (n + 2) (.tup l) s = ST2 (wordsN (n + 1)) l s := rfl
theorem ST_str (n : Nat) (z : Str) (s : Dt) : ST n (.str z) s = none := by
  cases n with
  | zero => rfl
  | succ n => cases n <;> rfl
theorem WK_nil (n : Nat) (d : Dt) : WK n d [] = some (d, 0) := by cases n <;> rfl
theorem WK_cons (n : Nat) (d s : Dt) (r : List Dt) : WK (n + 1) d (s :: r) = (ST (n + 1) d s).bind fun x => (WK n x.1 r).map fun y => (y.1, x.2 + y.2) := rfl
theorem pair_snd {f : Dt → Bool} {p : Dt} (h : pairF f p = true) : f (sndD p) = true ∧ ∀ w : Dt → Int, sndW w p = w (sndD p) := by
  obtain ⟨s, y, rfl, _, h2⟩ := pairF_of h
  exact ⟨h2, fun w => rfl⟩
theorem len_flat {α β : Type} (f : α → List β) (g : α → Int) : ∀ l : List α, (∀ x ∈ l, ((f x).length : Int) = g x) → ((l.flatMap f).length : Int) = (l.map g).sum
  | [], _ => rfl
  | x :: l, h => by
    have ih := len_flat f g l fun y hy => h y (List.mem_cons_of_mem _ hy)
    have hx := h x List.mem_cons_self
    rw [List.flatMap_cons, List.length_append, List.map_cons, List.sum_cons]
    omega
theorem sum_const {α : Type} (c : Int) : ∀ l : List α, (l.map (fun _ => c)).sum = l.length * c
  | [] => by simp
  | x :: l => by
    rw [List.map_cons, List.sum_cons, sum_const c l, List.length_cons, Int.natCast_add, Int.add_mul]
    simp
    omega
theorem sum_congr {α : Type} {f g : α → Int} : ∀ {l : List α}, (∀ x ∈ l, f x = g x) → (l.map f).sum = (l.map g).sum
  | [], _ => rfl
  | x :: l, h => by
    rw [List.map_cons, List.map_cons, List.sum_cons, List.sum_cons, h x List.mem_cons_self, sum_congr fun y hy => h y (List.mem_cons_of_mem _ hy)]
theorem TN_len : ∀ (n : Nat) (d : Dt), formed n d = true → ((TN n d).length : Int) = wordsN n d
  | n, d, h => by
    rcases formed_cases h with ⟨s, rfl, _⟩ | ⟨m, rfl, ⟨l, rfl, h1, h2, h3, _⟩ | ⟨i, z, rfl, h1, h2, h3⟩⟩
    · rw [TN_str, words_str]
      rfl
    · rw [TN_two, words_two]
      show ((l.flatMap (fun p => (TN (m + 1) (sndD p)).map (Dt.str (nmOf p) :: ·))).length : Int) = (l.map (sndW (wordsN (m + 1)))).sum
      refine len_flat _ _ l fun p hp => ?_
      obtain ⟨a, b⟩ := pair_snd (h3 p hp)
      rw [List.length_map, b, TN_len (m + 1) _ a]
    · rw [TN_two, words_two]
      show (((List.range i.toNat).flatMap (fun k => (TN (m + 1) z).map (Dt.int ((k : Nat) : Int) :: ·))).length : Int) = i * wordsN (m + 1) z
      rw [len_flat _ (fun _ => wordsN (m + 1) z) _ (fun k _ => by rw [List.length_map, TN_len (m + 1) z h3]), sum_const, List.length_range]
      have : ((i.toNat : Nat) : Int) = i := by omega
      rw [this]
  termination_by n => n
  decreasing_by all_goals omega
theorem FK_some {w : Dt → Int} {s : Str} {z : Dt} : ∀ {l : List Dt} {a b : Int}, FK w l s a = some (z, b) → ∃ l1 p l2, l = l1 ++ p :: l2 ∧ nmOf p = s ∧ sndD p = z ∧ b = a + (l1.map (fun q => w (sndD q))).sum ∧ ∀ q ∈ l1, nmOf q ≠ s
  | [], a, b, h => by cases h
  | p :: r, a, b, h => by
    have h : (if nmOf p = s then some (sndD p, a) else FK w r s (a + w (sndD p))) = some (z, b) := h
    by_cases e : nmOf p = s
    · rw [if_pos e] at h
      injection h with h
      injection h with h1 h2
      exact ⟨[], p, r, rfl, e, h1, by simp [h2], fun q hq => by cases hq⟩
    · rw [if_neg e] at h
      obtain ⟨l1, q, l2, rfl, h1, h2, h3, h4⟩ := FK_some h
      refine ⟨p :: l1, q, l2, rfl, h1, h2, ?_, fun q' hq' => ?_⟩
      · rw [List.map_cons, List.sum_cons, h3]
        omega
      · rcases List.mem_cons.mp hq' with rfl | hq'
        · exact e
        · exact h4 q' hq'
/-- where a walk leads: the trails that go on so stand side by side -/
theorem idx : ∀ (p : List Dt) (n : Nat) (d y : Dt) (a : Int), formed n d = true → WK n d p = some (y, a) → formed (n - p.length) y = true ∧ ∃ A B, TN n d = A ++ ((TN (n - p.length) y).map (p ++ ·) ++ B) ∧ (A.length : Int) = a ∧
    (∀ t ∈ A, t.take p.length ≠ p) ∧ ∀ t ∈ B, t.take p.length ≠ p
  | [], n, d, y, a, hf, h => by
    rw [WK_nil] at h
    injection h with h
    injection h with h1 h2
    subst h1 h2
    refine ⟨hf, [], [], ?_, rfl, (fun t ht => by cases ht), fun t ht => by cases ht⟩
    simp
  | s :: r, 0, d, y, a, hf, h => by cases h
  | s :: r, m + 1, d, y, a, hf, h => by
    rw [WK_cons] at h
    obtain ⟨⟨z, a1⟩, hs, h⟩ := Option.bind_eq_some_iff.mp h
    obtain ⟨⟨y', b⟩, hw, he⟩ := Option.map_eq_some_iff.mp h
    injection he with he1 he2
    have he1 : y' = y := he1
    have he2 : a1 + b = a := he2
    subst he1
    rcases formed_cases hf with ⟨z', rfl, _⟩ | ⟨j, hj, ⟨l, rfl, l1, l2, hp, nd⟩ | ⟨i, z', rfl, i1, i2, hz⟩⟩
    · rw [ST_str] at hs
      cases hs
    · obtain rfl : m = j + 1 := by omega
      rw [ST_two] at hs
      have key : ∃ s', s = .str s' ∧ FK (wordsN (j + 1)) l s' 0 = some (z, a1) := by
        cases s with
        | str s' => exact ⟨s', rfl, hs⟩
        | _ => cases hs
      obtain ⟨s', rfl, hs⟩ := key
      obtain ⟨u1, q, u2, rfl, e1, e2, e3, e4⟩ := FK_some hs
      have hq := hp q (List.mem_append_right _ List.mem_cons_self)
      obtain ⟨fq, _⟩ := pair_snd hq
      rw [e2] at fq
      obtain ⟨fy, A, B, hAB, hA, nA, nB⟩ := idx r (j + 1) z y' b fq hw
      have el : j + 1 + 1 - (Dt.str s' :: r).length = j + 1 - r.length := by
        rw [List.length_cons]
        omega
      rw [el]
      refine ⟨fy, u1.flatMap (fun p => (TN (j + 1) (sndD p)).map (Dt.str (nmOf p) :: ·)) ++ A.map (Dt.str s' :: ·), B.map (Dt.str s' :: ·) ++ u2.flatMap (fun p => (TN (j + 1) (sndD p)).map (Dt.str (nmOf p) :: ·)), ?_, ?_, ?_, ?_⟩
      · rw [TN_two]
        show (u1 ++ q :: u2).flatMap _ = _
        rw [List.flatMap_append, List.flatMap_cons, e2, e1, hAB, List.map_append, List.map_append, List.map_map]
        simp only [List.append_assoc]
        rfl
      · rw [List.length_append, List.length_map]
        have := len_flat (fun p => (TN (j + 1) (sndD p)).map (Dt.str (nmOf p) :: ·)) (fun q => wordsN (j + 1) (sndD q)) u1 (fun p hp' => by
          rw [List.length_map]
          exact TN_len _ _ (pair_snd (hp p (List.mem_append_left _ hp'))).1)
        omega
      · intro t ht
        rcases List.mem_append.mp ht with ht | ht
        · obtain ⟨p', hp', ht⟩ := List.mem_flatMap.mp ht
          obtain ⟨t', _, rfl⟩ := List.mem_map.mp ht
          intro e
          rw [List.length_cons, List.take_succ_cons] at e
          injection e with e _
          injection e with e
          exact e4 p' hp' e
        · obtain ⟨t', ht', rfl⟩ := List.mem_map.mp ht
          intro e
          rw [List.length_cons, List.take_succ_cons] at e
          injection e with _ e
          exact nA t' ht' e
      · intro t ht
        rcases List.mem_append.mp ht with ht | ht
        · obtain ⟨t', ht', rfl⟩ := List.mem_map.mp ht
          intro e
          rw [List.length_cons, List.take_succ_cons] at e
          injection e with _ e
          exact nB t' ht' e
        · obtain ⟨p', hp', ht⟩ := List.mem_flatMap.mp ht
          obtain ⟨t', _, rfl⟩ := List.mem_map.mp ht
          intro e
          rw [List.length_cons, List.take_succ_cons] at e
          injection e with e _
          injection e with e
          rw [List.map_append, List.map_cons, List.nodup_append] at nd
          have := (List.nodup_cons.mp nd.2.1).1
          rw [e1] at this
          exact this (e ▸ List.mem_map.mpr ⟨p', hp', rfl⟩)
    · obtain rfl : m = j + 1 := by omega
      rw [ST_two] at hs
      have key : ∃ k : Int, s = .int k ∧ (if 0 ≤ k ∧ k < i then some (z', k * wordsN (j + 1) z') else none) = some (z, a1) := by
        cases s with
        | int k => exact ⟨k, rfl, hs⟩
        | _ => cases hs
      obtain ⟨k, rfl, hs2⟩ := key
      clear hs
      have hs : (if 0 ≤ k ∧ k < i then some (z', k * wordsN (j + 1) z') else none) = some (z, a1) := hs2
      by_cases hk : 0 ≤ k ∧ k < i
      · rw [if_pos hk] at hs
        injection hs with hs
        injection hs with z1 z2
        subst z1 z2
        obtain ⟨fy, A, B, hAB, hA, nA, nB⟩ := idx r (j + 1) z' y' b hz hw
        have el : j + 1 + 1 - (Dt.int k :: r).length = j + 1 - r.length := by
          rw [List.length_cons]
          omega
        rw [el]
        obtain ⟨c, rfl⟩ := Int.eq_ofNat_of_zero_le hk.1
        obtain ⟨e, he⟩ : ∃ e, i.toNat = c + (1 + e) := ⟨i.toNat - c - 1, by omega⟩
        refine ⟨fy, (List.range c).flatMap (fun k => (TN (j + 1) z').map (Dt.int ((k : Nat) : Int) :: ·)) ++ A.map (Dt.int (c : Nat) :: ·), B.map (Dt.int (c : Nat) :: ·) ++ ((List.range e).map (fun x => c + (1 + x))).flatMap (fun k => (TN (j + 1) z').map (Dt.int ((k : Nat) : Int) :: ·)), ?_, ?_, ?_, ?_⟩
        · rw [TN_two]
          show (List.range i.toNat).flatMap _ = _
          have r1 : List.range 1 = [0] := rfl
          rw [he, List.range_add, List.range_add, r1, List.flatMap_append, List.map_append, List.flatMap_append, List.map_map]
          have e0 : (List.map (fun x => c + x) [0]).flatMap (fun k => (TN (j + 1) z').map (Dt.int ((k : Nat) : Int) :: ·)) = (TN (j + 1) z').map (Dt.int (c : Nat) :: ·) := by
            simp
          rw [e0, hAB, List.map_append, List.map_append, List.map_map]
          simp only [List.append_assoc]
          rfl
        · rw [List.length_append, List.length_map]
          have := len_flat (fun k => (TN (j + 1) z').map (Dt.int ((k : Nat) : Int) :: ·)) (fun _ => wordsN (j + 1) z') (List.range c) (fun p _ => by
            rw [List.length_map]
            exact TN_len _ _ hz)
          rw [sum_const, List.length_range] at this
          omega
        · intro t ht
          rcases List.mem_append.mp ht with ht | ht
          · obtain ⟨p', hp', ht⟩ := List.mem_flatMap.mp ht
            obtain ⟨t', _, rfl⟩ := List.mem_map.mp ht
            intro e
            rw [List.length_cons, List.take_succ_cons] at e
            injection e with e _
            injection e with e
            have := List.mem_range.mp hp'
            omega
          · obtain ⟨t', ht', rfl⟩ := List.mem_map.mp ht
            intro e
            rw [List.length_cons, List.take_succ_cons] at e
            injection e with _ e
            exact nA t' ht' e
        · intro t ht
          rcases List.mem_append.mp ht with ht | ht
          · obtain ⟨t', ht', rfl⟩ := List.mem_map.mp ht
            intro e
            rw [List.length_cons, List.take_succ_cons] at e
            injection e with _ e
            exact nB t' ht' e
          · obtain ⟨p', hp', ht⟩ := List.mem_flatMap.mp ht
            obtain ⟨x, _, rfl⟩ := List.mem_map.mp hp'
            obtain ⟨t', _, rfl⟩ := List.mem_map.mp ht
            intro e
            rw [List.length_cons, List.take_succ_cons] at e
            injection e with e _
            injection e with e
            omega
      · rw [if_neg hk] at hs
        cases hs
theorem WK_app : ∀ (p : List Dt) (n : Nat) (d : Dt) (q : List Dt), WK n d (p ++ q) = (WK n d p).bind fun x => (WK (n - p.length) x.1 q).map fun y => (y.1, x.2 + y.2)
  | [], n, d, q => by
    rw [WK_nil, List.nil_append]
    show WK n d q = (WK n d q).map fun y => (y.1, 0 + y.2)
    cases WK n d q with
    | none => rfl
    | some y => simp
  | s :: r, 0, d, q => rfl
  | s :: r, n + 1, d, q => by
    rw [List.cons_append, WK_cons, WK_cons]
    cases hs : ST (n + 1) d s with
    | none => rfl
    | some x =>
      show ((WK n x.1 (r ++ q)).map fun y => (y.1, x.2 + y.2)) = ((WK n x.1 r).map fun y => (y.1, x.2 + y.2)).bind _
      rw [WK_app r n x.1 q]
      have el : n + 1 - (s :: r).length = n - r.length := by
        rw [List.length_cons]
        omega
      rw [el]
      cases hr : WK n x.1 r with
      | none => rfl
      | some u =>
        show ((WK (n - r.length) u.1 q).map fun y => (y.1, u.2 + y.2)).map (fun y => (y.1, x.2 + y.2)) = (WK (n - r.length) u.1 q).map fun y => (y.1, x.2 + u.2 + y.2)
        rw [Option.map_map]
        congr 1
        funext y
        show (y.1, x.2 + (u.2 + y.2)) = (y.1, x.2 + u.2 + y.2)
        rw [Int.add_assoc]
end K1

set_option Elab.async false
set_option linter.all false
set_option pp.maxSteps 700
set_option maxRecDepth 100000
set_option maxHeartbeats 2000000
namespace K1
open PySem PySem.Spec PyProof.Rows L2
open TL (tl)
abbrev sInn : Stmt := top 25
abbrev sOff : Stmt := top 26
abbrev sTrl : Stmt := top 27
abbrev sFk : Stmt := top 28
abbrev sWlk : Stmt := top 30
abbrev sStp : Stmt := top 31
abbrev sTrs : Stmt := top 32
theorem it_gen {J : It} {n : Nat} {G : Hp → Prop} {Y : Nat → Hp → V → Hp → Prop} (w : Walk J n G Y) {Body : V → Hp → (Hp → Prop) → Prop} {H0 : Hp} {Qd : Hp → Prop} (Pv : Nat → Hp → Prop) (h0 : Pv 0 H0) (hG : ∀ i H, i ≤ n → Pv i H → G H)
    (hs : ∀ i x H H', i < n → Pv i H → Y i H x H' → Body x H' (Pv (i + 1))) (hd : ∀ H, Pv n H → Qd H) :
    ∃ W : Nat → Nat → Hp → Prop, (∃ m, W 0 m H0) ∧ ∀ i m H, W i m H →
      (J.stop i H ∧ Qd H) ∨ (J.go i H ∧ ∃ Nx : Hp → Prop, (∀ H', Nx H' → ∃ m', m' < m ∧ W (i + 1) m' H') ∧ ∀ x H', J.yld i H x H' → Body x H' Nx) := by
  refine ⟨fun i m H => m = n - i ∧ i ≤ n ∧ Pv i H, ⟨n, by simp, Nat.zero_le _, h0⟩, ?_⟩
  rintro i m H ⟨rfl, hi, p⟩
  have q := hG i H hi p
  by_cases hlt : i < n
  · exact .inr ⟨w.goes i H hlt q, Pv (i + 1), fun H' p' => ⟨n - (i + 1), by omega, rfl, hlt, p'⟩, fun x H' y => hs i x H H' hlt p (w.yields i H x H' hlt q y)⟩
  · have e : i = n := by omega
    subst e
    exact .inl ⟨w.stops H q, hd H p⟩
theorem purs_app {a b : List Dt} (ha : purs a = true) (hb : purs b = true) : purs (a ++ b) = true := by
  rw [purs_all] at ha hb ⊢
  rw [List.all_append, ha, hb]
  rfl
/-- the trails are made of numbers and names -/
theorem TN_pur : ∀ (n : Nat) (d : Dt), formed n d = true → ∀ t ∈ TN n d, purs t = true ∧ t.length ≤ n
  | n, d, h, t, ht => by
    rcases formed_cases h with ⟨s, rfl, _⟩ | ⟨m, rfl, ⟨l, rfl, h1, h2, h3, _⟩ | ⟨i, z, rfl, h1, h2, h3⟩⟩
    · rw [TN_str] at ht
      rw [List.mem_singleton.mp ht]
      exact ⟨rfl, Nat.zero_le _⟩
    · rw [TN_two] at ht
      obtain ⟨p, hp, ht⟩ := List.mem_flatMap.mp (show t ∈ l.flatMap _ from ht)
      obtain ⟨t', ht', rfl⟩ := List.mem_map.mp ht
      obtain ⟨s, y, rfl, hs, hy⟩ := pairF_of (h3 p hp)
      obtain ⟨a, b⟩ := TN_pur (m + 1) _ hy t' ht'
      refine ⟨?_, by rw [List.length_cons]; omega⟩
      show (PyData.strOk s && purs t') = true
      rw [(name_parts hs).2.2, a]
      rfl
    · rw [TN_two] at ht
      obtain ⟨p, hp, ht⟩ := List.mem_flatMap.mp (show t ∈ (List.range i.toNat).flatMap _ from ht)
      obtain ⟨t', ht', rfl⟩ := List.mem_map.mp ht
      obtain ⟨a, b⟩ := TN_pur (m + 1) _ h3 t' ht'
      exact ⟨a, by rw [List.length_cons]; omega⟩
  termination_by n => n
  decreasing_by all_goals omega
theorem purs_tups {ts : List (List Dt)} (h : ∀ t ∈ ts, purs t = true) : purs (ts.map Dt.tup) = true := by
  rw [purs_all, List.all_eq_true]
  intro d hd
  obtain ⟨t, ht, rfl⟩ := List.mem_map.mp hd
  exact h t ht
def spTrs (n : Nat) : Sp := fun vs H Q _ => 1 ≤ n ∧ n ≤ 4 ∧ ∃ (g : Addr) (v : V) (d : Dt), vs = [v] ∧ DV g H v d ∧ pur d = true ∧ formed n d = true ∧ wordsN n d ≤ 400 ∧
  ∀ (p : Addr) (ys : List V) (H' : Hp), H p = none → H' p = some (.lst ys) → DVs g H' ys ((TN n d).map Dt.tup) → Same H H' → Q (.ref p) H'
theorem split_at {α : Type} {l : List α} {i : Nat} {p : α} (hp : l[i]? = some p) : l = l.take i ++ p :: l.drop (i + 1) := by
  have z := List.take_append_drop i l
  rw [List.drop_eq_getElem_cons (List.getElem?_eq_some_iff.mp hp).1, (List.getElem?_eq_some_iff.mp hp).2] at z
  exact z.symm
theorem purs_es {ts : List (List Dt)} (h : ∀ t ∈ ts, purs t = true) : purs (ts.map Dt.tup) = true := purs_tups h
/-- one step ahead of a trail -/
theorem one_more {K : PySem.W.Frag} {g D : Addr} {H H5 : Hp} {ys : List V} {es : List (List Dt)} {r : Addr} {t : List Dt} (h1 : H D = some (.lst ys)) (h2 : DVs g H ys (es.map Dt.tup)) (hp : purs (es.map Dt.tup) = true) (s : Same H H5) (hr : DV g H5 (.ref r) (.tup t)) (pt : purs t = true) (hl : es.length ≤ 400) :
    ∃ acc, H5 D = some (.lst acc) ∧ acc.length < sizeLine ∧ (upd H5 D (.lst (acc ++ [.ref r]))) D = some (.lst (ys ++ [.ref r])) ∧ DVs g (upd H5 D (.lst (acc ++ [.ref r]))) (ys ++ [.ref r]) ((es ++ [t]).map Dt.tup) ∧ Kt H5 (upd H5 D (.lst (acc ++ [.ref r]))) := by
  have h5 := s _ _ h1
  refine ⟨ys, h5, ?_, upd_same, ?_, Kt.put h5⟩
  · rw [h2.len, List.length_map, sizeLine_eq]
    omega
  · rw [List.map_append]
    exact ((h2.keep (Kv.of s)).keepP (Kt.put h5) hp).snoc (hr.keepP (Kt.put h5) pt)
structure MgU (K : PySem.W.Frag) (mg : Str → Option Value) (fTrs fPl fNk fWlk fStp fFk fWhl fWc BT : Addr) : Prop where
  trs : mg "_trails" = some (.ref fTrs)
  ktrs : PySem.W.keepIn K (.ref fTrs) = true
  pl : mg "is_plain" = some (.ref fPl)
  kpl : PySem.W.keepIn K (.ref fPl) = true
  nk : mg "_need_kind" = some (.ref fNk)
  knk : PySem.W.keepIn K (.ref fNk) = true
  wlk : mg "_walked" = some (.ref fWlk)
  kwlk : PySem.W.keepIn K (.ref fWlk) = true
  stp : mg "_stepped" = some (.ref fStp)
  kstp : PySem.W.keepIn K (.ref fStp) = true
  fk : mg "field_kind" = some (.ref fFk)
  kfk : PySem.W.keepIn K (.ref fFk) = true
  whl : mg "is_whole" = some (.ref fWhl)
  kwhl : PySem.W.keepIn K (.ref fWhl) = true
  wc : mg "word_count" = some (.ref fWc)
  kwc : PySem.W.keepIn K (.ref fWc) = true
  bt : mg "BadTrail" = some (.ref BT)
  kbt : PySem.W.keepIn K (.ref BT) = true
  exI : PySem.W.excIn K BT excVE "ValueError.__new__" = true
  sub : PySem.W.subIn K (.ref BT) (.type "BaseException") = some true
  ty : PySem.W.typeIn K (.ref BT) = some (.type "type")
  rng : mg "range" = none
  isi : mg "isinstance" = none
  str : mg "str" = none
  tpl : mg "tuple" = none
section
variable {P : Program} {w : World} {K : PySem.W.Frag} {mg : Str → Option Value} {base : Heap}
variable {fTrs fPl fNk fWlk fStp fFk fWhl fWc BT : Addr} {fdTrs fdPl fdNk fdWlk fdStp fdFk fdWhl fdWc : FuncData}
theorem scTrs : FnScope ["kind", "inner", "at", "trail", "name"] ["kind"] (defScope sTrs) := ⟨rfl, rfl, rfl, by decide +kernel, rfl, by decide +kernel, by decide +kernel⟩
theorem ok_trs (F : Fun K "_trails" "_trails" sTrs fTrs fdTrs) (T : MgU K mg fTrs fPl fNk fWlk fStp fFk fWhl fWc BT) (b : L2.Binds K fdTrs ["kind"] [])
    (GPl : FnOk P w K mg base CX0 1 fPl fdPl ["value"] (spAsk plainB)) (bPl : L2.Binds K fdPl ["value"] []) : ∀ n : Nat, FnOk P w K mg base CX0 (n + 1) fTrs fdTrs ["kind"] (spTrs n)
  | 0 => ok_none F scTrs (fun vs H Q E h => absurd h.1 (by omega))
  | n + 1 => by
    have G : FnOk P w K mg base CX0 (n + 1) fTrs fdTrs ["kind"] (spTrs n) := ok_trs F T b GPl bPl n
    refine F.ok scTrs (fun vs H Q E h => ?_) (fun cdv A outer s H vs Q E hr h => ?_)
    · obtain ⟨_, _, g, v, d, rfl, _⟩ := h
      rfl
    · obtain ⟨_, n4, g, v, d, rfl, hd, hp, hf, hw, k⟩ := h
      have hr1 : Room 1 _ := hr.mono (by omega)
      refine ⟨_, (pss_cons (ps_if (pt_val (pe_call GPl hr1 (by rfl) T.pl T.kpl bPl .nil pass0 (pa_cons (pv 0) pa_nil))) (pss_one (ps_ret (pe_lst (pa_cons (pe_tup pa_nil) pa_nil)))) pss_nil)
      (pss_cons (ps_if (pt_cmpR (op_eqS hr.units) (pe_ix ix_tup (pv 0) pe_int (fun _ _ => rfl)) pe_str (nomark _)) (pss_cons (ps_set (i := 1) scTrs.nd rfl (Or.inr rfl) (pe_call G hr (by rfl) T.trs T.ktrs b .nil pass0 (pa_cons (pe_ix ix_tup (pv 0) pe_int (fun _ _ => rfl)) pa_nil)))
          (pss_one (ps_ret (pe_lc2 (own := [("at", 2), ("trail", 3)]) (vs1 := [3]) (g := gName 2) (g1 := gName 3) (tt := tYes) (tt1 := tYes) (by rfl) scTrs.nd (pi_range1 (by rfl) T.rng (pa_cons (pe_ix ix_tup (pv 0) pe_int (fun _ _ => rfl)) pa_nil)) (blkOk_by (own := [("at", 2), ("trail", 3)]) (N := ["kind", "inner", "at", "trail", "name"]) (sc := defScope sTrs) (by decide +kernel)) (by decide) (fun _ _ _ _ _ => (pg_name (i := 2) scTrs.nd rfl (Or.inl rfl))) (fun _ _ _ _ _ => pts_nil) (fun _ _ _ _ _ => (show PI _ _ _ (iList K _) from (pi_list (pv 1)))) (fun _ _ _ _ _ => (pg_name (i := 3) scTrs.nd rfl (Or.inl rfl))) (fun _ _ _ _ _ => pts_nil) (fun _ _ _ _ _ => (pe_op (show OpR _ _ (rCatA K) from op_catA) (pe_tup (pa_cons (pv 2) pa_nil)) (pv 3))))))) pss_nil)
      (pss_one (ps_ret (pe_lc2 (own := [("name", 4), ("inner", 1), ("trail", 3)]) (vs1 := [3]) (g := gTup K 2 (gCons (gName 4) (gCons (gName 1) gNil))) (g1 := gName 3) (tt := tYes) (tt1 := tYes) (by rfl) scTrs.nd (pi_tup (pe_ix ix_tup (pv 0) pe_int (fun _ _ => rfl))) (blkOk_by (own := [("name", 4), ("inner", 1), ("trail", 3)]) (N := ["kind", "inner", "at", "trail", "name"]) (sc := defScope sTrs) (by decide +kernel)) (by decide) (fun _ _ _ _ _ => (pg_tup (by rfl) (pgs_cons (pg_name (i := 4) scTrs.nd rfl (Or.inl rfl)) (pgs_cons (pg_name (i := 1) scTrs.nd rfl (Or.inl rfl)) pgs_nil)))) (fun _ _ _ _ _ => pts_nil) (fun _ _ _ _ _ => (show PI _ _ _ (iList K _) from (pi_list (pe_call G hr (by rfl) T.trs T.ktrs b .nil pass0 (pa_cons (pv 1) pa_nil))))) (fun _ _ _ _ _ => (pg_name (i := 3) scTrs.nd rfl (Or.inl rfl))) (fun _ _ _ _ _ => pts_nil) (fun _ _ _ _ _ => (pe_op (show OpR _ _ (rCatA K) from op_catA) (pe_tup (pa_cons (pv 4) pa_nil)) (pv 3)))))))), ?_⟩
      refine ⟨_, rfl, g, v, d, rfl, hd, fun H1 s1 => ⟨_, rfl, ?_⟩⟩
      have hd1 := hd.keep (Kv.of s1)
      have hlen := TN_len _ _ hf
      rcases formed_cases hf with ⟨s, rfl, hs⟩ | ⟨m, hm, hh⟩
      · refine ifT hs ?_
        refine ⟨Nat.zero_le _, fun p hp => ?_⟩
        generalize hH2 : upd H1 p _ = H2
        obtain ⟨sp, ep⟩ := freshF hp hH2
        refine ⟨(by show 1 ≤ sizeLine; decide), fun q hq => ?_⟩
        generalize hH3 : upd H2 q _ = H3
        obtain ⟨sq, eq⟩ := freshF hq hH3
        refine k q _ H3 (s1.free (sp.free hq)) eq ?_ ((s1.trans sp).trans sq)
        rw [TN_str]
        exact .cons (.tup (sq _ _ ep) (by show 0 ≤ 1000; decide) .nil) .nil
      · obtain rfl : n = m + 1 := by omega
        rcases hh with ⟨l, rfl, l1, l2, all, _⟩ | ⟨i, z, rfl, i1, i2, hz⟩
        · refine iteF ?_
          have tot : ((TN (m + 1 + 1) (.tup [.str "record", .tup l])).length : Int) ≤ 400 := by omega
          have eT : TN (m + 1 + 1) (.tup [.str "record", .tup l]) = l.flatMap (fun p => (TN (m + 1) (sndD p)).map (Dt.str (nmOf p) :: ·)) := rfl
          have hpl : purs l = true := by
            have hp : (PyData.strOk "record" && (purs l && true)) = true := hp
            rw [Bool.and_eq_true, Bool.and_eq_true] at hp
            exact hp.2.1
          have pall := fun t ht => (TN_pur _ _ hf t ht).1
          rw [eT] at tot pall
          rw [eT] at k
          have gpur : ∀ i, purs (((l.take i).flatMap (fun p => (TN (m + 1) (sndD p)).map (Dt.str (nmOf p) :: ·))).map Dt.tup) = true := fun i => purs_tups fun t ht => pall t (by
            obtain ⟨p, hp, ht⟩ := List.mem_flatMap.mp ht
            exact List.mem_flatMap.mpr ⟨p, List.mem_of_mem_take hp, ht⟩)
          obtain ⟨b', vx, vy, rfl, hb, hx, hy⟩ := hd1.tup2
          refine ⟨_, rfl, b', _, 0, vx, rfl, rfl, SqT.of hb, atI_nat (j := 0) rfl, g, .str "record", "row", rfl, hx, _, rfl, ?_⟩
          refine ifF (by decide +kernel) ?_
          obtain ⟨c, xs, rfl, hc, _, r⟩ := hy.tup_inv
          refine ⟨_, rfl, b', _, 1, .ref c, rfl, rfl, SqT.of hb, atI_nat (j := 1) rfl, c, rfl, ⟨_, SqT.of hc⟩, fun D hD => it_gen (walk_tup (K := K) (a := c) (xs := xs))
            (fun i H' => ∃ ys, H' D = some (.lst ys) ∧ DVs g H' ys (((l.take i).flatMap (fun p => (TN (m + 1) (sndD p)).map (Dt.str (nmOf p) :: ·))).map Dt.tup) ∧ Same H1 H') ⟨[], upd_same, .nil, same_new hD⟩ (fun i H' _ ⟨_, _, _, s2⟩ => SqT.of (s2 _ _ hc)) ?_ ?_⟩
          · rintro i x _ H2 hi ⟨ys, h1, h2, s2⟩ ⟨rfl, hxi⟩
            obtain ⟨p, hpi, hx'⟩ := r.at_ hxi
            have hpm := List.mem_of_getElem? hpi
            obtain ⟨s, y, rfl, hs, hfy⟩ := pairF_of (all p hpm)
            have sp := split_at hpi
            have hpy : pur y = true := by
              have q := purs_mem hpl hpm
              have q : (PyData.strOk s && (pur y && true)) = true := q
              rw [Bool.and_eq_true, Bool.and_eq_true] at q
              exact q.2.1
            obtain ⟨e, v1, v2, rfl, he, h3, h4⟩ := (hx'.keep (Kv.of s2)).tup2
            obtain ⟨rfl, _⟩ := h3.str_inv
            have bl : ((l.take i).flatMap (fun p => (TN (m + 1) (sndD p)).map (Dt.str (nmOf p) :: ·))).length + (TN (m + 1) y).length ≤ 400 := by
              rw [sp, List.flatMap_append, List.flatMap_cons, List.length_append, List.length_append, List.length_map] at tot
              have e0 : sndD (.tup [.str s, y]) = y := rfl
              rw [e0] at tot
              omega
            have hly := TN_len _ _ hfy
            refine ⟨e, _, rfl, SqT.of he, rfl, _, _, rfl, _, _, rfl, rfl, rfl, ?_⟩
            refine ⟨_, rfl, by omega, by omega, g, v2, y, rfl, h4, hpy, hfy, by omega, fun p2 ys2 H3 hp2 e2 dv2 s3 => ?_⟩
            have p2D : p2 ≠ D := fun z => by
              rw [z, h1] at hp2
              cases hp2
            have h1' := s3 _ _ h1
            have h2' := h2.keep (Kv.of s3)
            refine ⟨p2, rfl, ⟨_, SqL.of e2⟩, it_gen (walk_list (K := K) (a := p2) (xs := ys2))
              (fun j H' => ∃ zs, H' D = some (.lst zs) ∧ DVs g H' zs (((l.take i).flatMap (fun p => (TN (m + 1) (sndD p)).map (Dt.str (nmOf p) :: ·)) ++ ((TN (m + 1) y).take j).map (Dt.str s :: ·)).map Dt.tup) ∧ Same H1 H' ∧ H' p2 = some (.lst ys2) ∧ Kt H3 H')
              ⟨ys, h1', by rw [List.take_zero, List.map_nil, List.append_nil]; exact h2', s2.trans s3, e2, Kt.of (Same.refl _)⟩ (fun j H' _ ⟨_, _, _, _, h, _⟩ => SqL.of h) ?_ ?_⟩
            · rintro j x2 _ H4 hj ⟨zs, g1, g2, g3, g4, g5⟩ ⟨rfl, hxj⟩
              obtain ⟨dt, hdt, hx2⟩ := dv2.at_ hxj
              rw [List.getElem?_map] at hdt
              obtain ⟨t, htj, rfl⟩ := Option.map_eq_some_iff.mp hdt
              have htm := List.mem_of_getElem? htj
              have ptt := (TN_pur _ _ hfy t htm).1
              obtain ⟨c2, xs2, rfl, hc2, hl2, r2⟩ := (hx2.keepP (g' := g) g5 (show pur (.tup t) = true from ptt)).tup_inv
              have okp : purs (.str s :: t) = true := by
                show (PyData.strOk s && purs t) = true
                rw [(name_parts hs).2.2, ptt]
                rfl
              have jl : j < (TN (m + 1) y).length := (List.getElem?_eq_some_iff.mp htj).1
              have pes : purs (((l.take i).flatMap (fun p => (TN (m + 1) (sndD p)).map (Dt.str (nmOf p) :: ·)) ++ ((TN (m + 1) y).take j).map (Dt.str s :: ·)).map Dt.tup) = true := by
                rw [List.map_append]
                refine purs_app (gpur i) (purs_tups fun t' ht' => ?_)
                obtain ⟨t2, ht2, rfl⟩ := List.mem_map.mp ht'
                show (PyData.strOk s && purs t2) = true
                rw [(name_parts hs).2.2, (TN_pur _ _ hfy t2 (List.mem_of_mem_take ht2)).1]
                rfl
              have les : ((l.take i).flatMap (fun p => (TN (m + 1) (sndD p)).map (Dt.str (nmOf p) :: ·)) ++ ((TN (m + 1) y).take j).map (Dt.str s :: ·)).length ≤ 400 := by
                rw [List.length_append, List.length_map, List.length_take]
                omega
              have fin : ∀ (u : Addr) (H5 : Hp), Same H4 H5 → DV g H5 (.ref u) (.tup (.str s :: t)) → ∃ acc, H5 D = some (.lst acc) ∧ acc.length < sizeLine ∧
                  ∃ zs, (upd H5 D (.lst (acc ++ [.ref u]))) D = some (.lst zs) ∧ DVs g (upd H5 D (.lst (acc ++ [.ref u]))) zs (((l.take i).flatMap (fun p => (TN (m + 1) (sndD p)).map (Dt.str (nmOf p) :: ·)) ++ ((TN (m + 1) y).take (j + 1)).map (Dt.str s :: ·)).map Dt.tup) ∧ Same H1 (upd H5 D (.lst (acc ++ [.ref u]))) ∧ (upd H5 D (.lst (acc ++ [.ref u]))) p2 = some (.lst ys2) ∧ Kt H3 (upd H5 D (.lst (acc ++ [.ref u]))) := by
                intro u H5 s5 hu
                obtain ⟨acc, q1, q2, q3, q4, q5⟩ := one_more (K := K) g1 g2 pes s5 hu okp les
                refine ⟨acc, q1, q2, zs ++ [.ref u], q3, ?_, ?_, ?_, ?_⟩
                · have e9 : ((TN (m + 1) y).take (j + 1)).map (Dt.str s :: ·) = ((TN (m + 1) y).take j).map (Dt.str s :: ·) ++ [Dt.str s :: t] := by
                    rw [List.take_succ, htj, List.map_append]
                    rfl
                  rw [e9, ← List.append_assoc]
                  exact q4
                · intro b o eb
                  rw [upd_ne (ne_of_none eb hD)]
                  exact s5 _ _ (g3 _ _ eb)
                · rw [upd_ne p2D]
                  exact s5 _ _ g4
                · exact (fun b xs' eb => q5 _ _ (s5 _ _ (g5 _ _ eb)))
              refine ⟨rfl, ?_⟩
              refine ⟨_, rfl, (by show 1 ≤ sizeLine; decide), fun u hu => ?_⟩
              generalize hH5 : upd H4 u _ = H5
              obtain ⟨su, eu⟩ := freshF hu hH5
              have r5 := r2.keep (Kv.of su)
              refine ⟨_, rfl, u, c2, [_], xs2, rfl, rfl, SqT.of eu, SqT.of (su _ _ hc2), by rw [r2.len, sizeLine_eq]; show 1 + t.length ≤ _; omega, fun z => (by cases z), fun _ z => ?_, fun _ _ q hq => ?_⟩
              · refine fin u H5 su (.tup eu (by rw [List.length_cons, ← r2.len, z]; decide) (.cons (.str (by have := (name_parts hs).2.1; omega)) ?_))
                rw [z] at r5
                exact r5
              · generalize hH6 : upd H5 q _ = H6
                obtain ⟨sq, eq⟩ := freshF hq hH6
                exact fin q H6 (su.trans sq) (.tup eq (by rw [List.length_cons]; have := (TN_pur _ _ hfy t htm).2; omega) (.cons (.str (by have := (name_parts hs).2.1; omega)) (r5.keep (Kv.of sq))))
            · rintro H4 ⟨zs, g1, g2, g3, _, _⟩
              refine ⟨zs, g1, ?_, g3⟩
              have ly : ys2.length = (TN (m + 1) y).length := by rw [dv2.len, List.length_map]
              rw [ly, List.take_length] at g2
              rw [List.take_succ, hpi, List.flatMap_append]
              have e1 : (some (Dt.tup [.str s, y])).toList.flatMap (fun p => (TN (m + 1) (sndD p)).map (Dt.str (nmOf p) :: ·)) = (TN (m + 1) y).map (Dt.str s :: ·) := by
                show (TN (m + 1) y).map (Dt.str s :: ·) ++ [] = _
                rw [List.append_nil]
              rw [e1]
              exact g2
          · rintro H2 ⟨ys, h1, h2, s2⟩
            rw [r.len, List.take_length] at h2
            exact k D ys H2 (s1.free hD) h1 h2 (s1.trans s2)
        · refine iteF ?_
          have tot : ((TN (m + 1 + 1) (.tup [.str "row", .int i, z])).length : Int) ≤ 400 := by omega
          have eT : TN (m + 1 + 1) (.tup [.str "row", .int i, z]) = (List.range i.toNat).flatMap (fun k => (TN (m + 1) z).map (Dt.int ((k : Nat) : Int) :: ·)) := rfl
          have pall := fun t ht => (TN_pur _ _ hf t ht).1
          rw [eT] at tot pall
          rw [eT] at k
          have hpz : pur z = true := by
            have hp : (PyData.strOk "row" && (true && (pur z && true))) = true := hp
            rw [Bool.and_eq_true, Bool.and_eq_true, Bool.and_eq_true] at hp
            exact hp.2.2.1
          have gpur : ∀ c, c ≤ i.toNat → purs (((List.range c).flatMap (fun k => (TN (m + 1) z).map (Dt.int ((k : Nat) : Int) :: ·))).map Dt.tup) = true := fun c hc => purs_tups fun t ht => pall t (by
            obtain ⟨p, hp, ht⟩ := List.mem_flatMap.mp ht
            exact List.mem_flatMap.mpr ⟨p, List.mem_range.mpr (by have := List.mem_range.mp hp; omega), ht⟩)
          obtain ⟨b', vx, vy, vz, rfl, hb, hx, hy, hz'⟩ := hd1.tup3
          obtain rfl := hy.int_inv
          refine ⟨_, rfl, b', _, 0, vx, rfl, rfl, SqT.of hb, atI_nat (j := 0) rfl, g, .str "row", "row", rfl, hx, _, rfl, ?_⟩
          refine ifT (by decide +kernel) ?_
          have wz := (words_bound _ _ hz).1
          have wle : wordsN (m + 1) z ≤ 400 := by
            have hw : i * wordsN (m + 1) z ≤ 400 := hw
            have : 1 * wordsN (m + 1) z ≤ i * wordsN (m + 1) z := Int.mul_le_mul_of_nonneg_right i1 (by omega)
            omega
          have hlz := TN_len _ _ hz
          refine ⟨_, rfl, b', _, 2, vz, rfl, rfl, SqT.of hb, atI_nat (j := 2) rfl, by omega, by omega, g, vz, z, rfl, hz', hpz, hz, wle, fun p2 ys2 H3 hp2 e2 dv2 s3 => ?_⟩
          have hb3 := s3 _ _ hb
          refine ⟨_, rfl, b', _, 1, _, rfl, rfl, SqT.of hb3, atI_nat (j := 1) rfl, i, rfl, by omega, by omega, fun D hD => it_gen (walk_range (lo := 0) (n := i.toNat))
            (fun c H' => ∃ ys, H' D = some (.lst ys) ∧ DVs g H' ys (((List.range c).flatMap (fun k => (TN (m + 1) z).map (Dt.int ((k : Nat) : Int) :: ·))).map Dt.tup) ∧ Same H3 H') ⟨[], upd_same, .nil, same_new hD⟩ (fun _ _ _ _ => True.intro) ?_ ?_⟩
          · rintro c x _ H2 hi ⟨ys, h1, h2, s2⟩ ⟨rfl, hxc⟩
            have bl : ((List.range c).flatMap (fun k => (TN (m + 1) z).map (Dt.int ((k : Nat) : Int) :: ·))).length + (TN (m + 1) z).length ≤ 400 := by
              have q1 := len_flat (fun k => (TN (m + 1) z).map (Dt.int ((k : Nat) : Int) :: ·)) (fun _ => wordsN (m + 1) z) (List.range c) (fun p _ => by
                rw [List.length_map]
                exact hlz)
              rw [sum_const, List.length_range] at q1
              have hw : i * wordsN (m + 1) z ≤ 400 := hw
              have q2 : ((c : Nat) + 1 : Int) * wordsN (m + 1) z ≤ i * wordsN (m + 1) z := Int.mul_le_mul_of_nonneg_right (by omega) (by omega)
              rw [Int.add_mul] at q2
              omega
            have e2' := s2 _ _ e2
            have p2D : p2 ≠ D := ne_of_none e2 hD
            have e0 : (0 : Int) + (c : Nat) = (c : Nat) := Int.zero_add _
            obtain rfl : x = .int ((c : Nat) : Int) := by
              rw [hxc]
              show V.int (0 + (c : Nat)) = _
              rw [e0]
            refine ⟨rfl, ?_⟩
            refine ⟨_, rfl, p2, rfl, ⟨_, SqL.of e2'⟩, it_gen (walk_list (K := K) (a := p2) (xs := ys2))
              (fun j H' => ∃ zs, H' D = some (.lst zs) ∧ DVs g H' zs (((List.range c).flatMap (fun k => (TN (m + 1) z).map (Dt.int ((k : Nat) : Int) :: ·)) ++ ((TN (m + 1) z).take j).map (Dt.int ((c : Nat) : Int) :: ·)).map Dt.tup) ∧ Same H3 H')
              ⟨ys, h1, by rw [List.take_zero, List.map_nil, List.append_nil]; exact h2, s2⟩ (fun j H' _ ⟨_, _, _, h⟩ => SqL.of (h _ _ e2)) ?_ ?_⟩
            · rintro j x2 _ H4 hj ⟨zs, g1, g2, g3⟩ ⟨rfl, hxj⟩
              obtain ⟨dt, hdt, hx2⟩ := dv2.at_ hxj
              rw [List.getElem?_map] at hdt
              obtain ⟨t, htj, rfl⟩ := Option.map_eq_some_iff.mp hdt
              have htm := List.mem_of_getElem? htj
              have ptt := (TN_pur _ _ hz t htm).1
              obtain ⟨c2, xs2, rfl, hc2, hl2, r2⟩ := (hx2.keep (Kv.of g3)).tup_inv
              have okp : purs (.int ((c : Nat) : Int) :: t) = true := ptt
              have jl : j < (TN (m + 1) z).length := (List.getElem?_eq_some_iff.mp htj).1
              have pes : purs (((List.range c).flatMap (fun k => (TN (m + 1) z).map (Dt.int ((k : Nat) : Int) :: ·)) ++ ((TN (m + 1) z).take j).map (Dt.int ((c : Nat) : Int) :: ·)).map Dt.tup) = true := by
                rw [List.map_append]
                refine purs_app (gpur c (by omega)) (purs_tups fun t' ht' => ?_)
                obtain ⟨t2, ht2, rfl⟩ := List.mem_map.mp ht'
                exact (TN_pur _ _ hz t2 (List.mem_of_mem_take ht2)).1
              have les : ((List.range c).flatMap (fun k => (TN (m + 1) z).map (Dt.int ((k : Nat) : Int) :: ·)) ++ ((TN (m + 1) z).take j).map (Dt.int ((c : Nat) : Int) :: ·)).length ≤ 400 := by
                rw [List.length_append, List.length_map, List.length_take]
                omega
              have fin : ∀ (u : Addr) (H5 : Hp), Same H4 H5 → DV g H5 (.ref u) (.tup (.int ((c : Nat) : Int) :: t)) → ∃ acc, H5 D = some (.lst acc) ∧ acc.length < sizeLine ∧
                  ∃ zs, (upd H5 D (.lst (acc ++ [.ref u]))) D = some (.lst zs) ∧ DVs g (upd H5 D (.lst (acc ++ [.ref u]))) zs (((List.range c).flatMap (fun k => (TN (m + 1) z).map (Dt.int ((k : Nat) : Int) :: ·)) ++ ((TN (m + 1) z).take (j + 1)).map (Dt.int ((c : Nat) : Int) :: ·)).map Dt.tup) ∧ Same H3 (upd H5 D (.lst (acc ++ [.ref u]))) := by
                intro u H5 s5 hu
                obtain ⟨acc, q1, q2, q3, q4, q5⟩ := one_more (K := K) g1 g2 pes s5 hu okp les
                refine ⟨acc, q1, q2, zs ++ [.ref u], q3, ?_, ?_⟩
                · have e9 : ((TN (m + 1) z).take (j + 1)).map (Dt.int ((c : Nat) : Int) :: ·) = ((TN (m + 1) z).take j).map (Dt.int ((c : Nat) : Int) :: ·) ++ [Dt.int ((c : Nat) : Int) :: t] := by
                    rw [List.take_succ, htj, List.map_append]
                    rfl
                  rw [e9, ← List.append_assoc]
                  exact q4
                · intro b o eb
                  rw [upd_ne (ne_of_none eb hD)]
                  exact s5 _ _ (g3 _ _ eb)
              refine ⟨rfl, ?_⟩
              refine ⟨_, rfl, (by show 1 ≤ sizeLine; decide), fun u hu => ?_⟩
              generalize hH5 : upd H4 u _ = H5
              obtain ⟨su, eu⟩ := freshF hu hH5
              have r5 := r2.keep (Kv.of su)
              refine ⟨_, rfl, u, c2, [_], xs2, rfl, rfl, SqT.of eu, SqT.of (su _ _ hc2), by rw [r2.len, sizeLine_eq]; show 1 + t.length ≤ _; omega, fun z => (by cases z), fun _ z => ?_, fun _ _ q hq => ?_⟩
              · refine fin u H5 su (.tup eu (by rw [List.length_cons, ← r2.len, z]; decide) (.cons (.int _) ?_))
                rw [z] at r5
                exact r5
              · generalize hH6 : upd H5 q _ = H6
                obtain ⟨sq, eq⟩ := freshF hq hH6
                exact fin q H6 (su.trans sq) (.tup eq (by rw [List.length_cons]; have := (TN_pur _ _ hz t htm).2; omega) (.cons (.int _) (r5.keep (Kv.of sq))))
            · rintro H4 ⟨zs, g1, g2, g3⟩
              refine ⟨zs, g1, ?_, g3⟩
              have ly : ys2.length = (TN (m + 1) z).length := by rw [dv2.len, List.length_map]
              rw [ly, List.take_length] at g2
              rw [List.range_succ, List.flatMap_append]
              have e1 : ([c] : List Nat).flatMap (fun k => (TN (m + 1) z).map (Dt.int ((k : Nat) : Int) :: ·)) = (TN (m + 1) z).map (Dt.int ((c : Nat) : Int) :: ·) := by
                show (TN (m + 1) z).map (Dt.int ((c : Nat) : Int) :: ·) ++ [] = _
                rw [List.append_nil]
              rw [e1]
              exact g2
          · rintro H2 ⟨ys, h1, h2, s2⟩
            exact k D ys H2 (s1.free (s3.free hD)) h1 h2 ((s1.trans s3).trans s2)
end
end K1

set_option Elab.async false
set_option linter.all false
set_option pp.maxSteps 700
set_option maxRecDepth 100000
set_option maxHeartbeats 2000000
namespace K1
open PySem PySem.Spec PyProof.Rows L2
open TL (tl)
theorem fn_or {P : Program} {w : World} {K : PySem.W.Frag} {mg : Str → Option Value} {base : Heap} {CX : CXT} {k N : Nat} {f : Addr} {fd : FuncData} {ps : List Str} {spf : Nat → Sp} (F : ∀ n, n ≤ N → FnOk P w K mg base CX k f fd ps (spf n)) :
    FnOk P w K mg base CX k f fd ps (fun vs H Q E => ∃ n, n ≤ N ∧ spf n vs H Q E) :=
  ⟨fun vs H Q E ⟨n, hn, h⟩ => (F n hn).len vs H Q E h, fun A outer s H args us vs Q E hr he hb hv ⟨n, hn, h⟩ => (F n hn).run A outer s H args us vs Q E hr he hb hv h⟩
/-- what a step leads to: None, or a kind and the words ahead -/
def Told (g : Addr) (o : Option (Dt × Int)) (H : Hp) (Q : VK) : Prop := match o with
  | none => ∀ H', Same H H' → Q .non H'
  | some (z, a) => ∀ (p : Addr) (v : V) (H' : Hp), Same H H' → H' p = some (.tup [v, .int a]) → DV g H' v z → Q (.ref p) H'
def spWcA : Sp := fun vs H Q E => ∃ n, n ≤ 4 ∧ spWc n vs H Q E
def spFk : Sp := fun vs H Q _ => ∃ n, n ≤ 4 ∧ ∃ (g : Addr) (v : V) (l : List Dt) (s : Str), vs = [v, .str s] ∧ DV g H v (.tup [.str "record", .tup l]) ∧ 1 ≤ n ∧ (∀ p ∈ l, pairF (formed n) p = true) ∧ Told g (FK (wordsN n) l s 0) H Q
def spStp : Sp := fun vs H Q _ => ∃ n, n ≤ 4 ∧ ∃ (g : Addr) (v u : V) (d s : Dt), vs = [v, u] ∧ DV g H v d ∧ DV g H u s ∧ formed n d = true ∧ Told g (ST n d s) H Q
def spWlk (BT : Addr) : Sp := fun vs H Q E => ∃ n, n ≤ 4 ∧ ∃ (g : Addr) (v u : V) (d t : Dt), vs = [v, u] ∧ DV g H v d ∧ DV g H u t ∧ formed n d = true ∧
  ((∃ l y a, t = .tup l ∧ WK n d l = some (y, a) ∧ ∀ (p : Addr) (v' : V) (H' : Hp), Same H H' → H' p = some (.tup [v', .int a]) → DV g H' v' y → Q (.ref p) H') ∨
   ((∀ l, t = .tup l → WK n d l = none) ∧ ∀ H', Same H H' → E (.ref BT) none H'))
section
variable {P : Program} {w : World} {K : PySem.W.Frag} {mg : Str → Option Value} {base : Heap}
variable {fTrs fPl fNk fWlk fStp fFk fWhl fWc BT : Addr} {fdTrs fdPl fdNk fdWlk fdStp fdFk fdWhl fdWc : FuncData}
theorem scFk : FnScope ["kind", "field", "ahead", "name", "inner"] ["kind", "field"] (defScope sFk) := ⟨rfl, rfl, rfl, by decide +kernel, rfl, by decide +kernel, by decide +kernel⟩
theorem ok_fk (F : Fun K "field_kind" "field_kind" sFk fFk fdFk) (T : MgU K mg fTrs fPl fNk fWlk fStp fFk fWhl fWc BT)
    (GW : FnOk P w K mg base CX0 5 fWc fdWc ["kind"] spWcA) (bW : L2.Binds K fdWc ["kind"] []) : FnOk P w K mg base CX0 6 fFk fdFk ["kind", "field"] spFk := by
  refine F.ok scFk (fun vs H Q E h => ?_) (fun cdv A outer s H vs Q E hr h => ?_)
  · obtain ⟨_, _, g, v, l, s, rfl, _⟩ := h
    rfl
  · obtain ⟨n, n4, g, v, l, s, rfl, hd, n1, all, k⟩ := h
    refine ⟨_, (pss_cons (ps_set (i := 2) scFk.nd rfl (Or.inl rfl) pe_int)
      (pss_cons (ps_for PassesOwn.never rfl (pi_tup (pe_ix ix_tup (pv 0) pe_int (fun _ _ => rfl))) (pg_tup (by rfl) (pgs_cons (pg_name (i := 3) scFk.nd rfl (Or.inl rfl)) (pgs_cons (pg_name (i := 4) scFk.nd rfl (Or.inl rfl)) pgs_nil)))
          (pss_cons (ps_if (pt_cmpR op_eq (pv 3) (pv 1) (nomark _)) (pss_one (ps_ret (pe_tup (pa_cons (pv 4) (pa_cons (pv 2) pa_nil))))) pss_nil)
          (pss_one (ps_aug (i := 2) scFk.nd rfl (Or.inl rfl) (pe_call GW hr (by rfl) T.wc T.kwc bW .nil pass0 (pa_cons (pv 4) pa_nil)) ip_add))))
      (pss_one (ps_ret pe_non)))), ?_⟩
    obtain ⟨b, vx, vy, rfl, hb, hx, hy⟩ := hd.tup2
    obtain ⟨c, xs, rfl, hc, _, r⟩ := hy.tup_inv
    refine ⟨_, rfl, b, _, 1, .ref c, rfl, rfl, SqT.of hb, atI_nat (j := 1) rfl, c, rfl, ⟨_, SqT.of hc⟩, for_tup (K := K) (a := c) (xs := xs)
      (fun i σ H' => ∃ (a : Int) (nv iv : Option V), σ = [some (.ref b), some (.str s), some (.int a), nv, iv] ∧ FK (wordsN n) l s 0 = FK (wordsN n) (l.drop i) s a ∧ Same H H')
      ⟨0, none, none, rfl, rfl, Same.refl H⟩ (fun i σ H' _ ⟨_, _, _, _, _, s2⟩ => SqT.of (s2 _ _ hc)) ?_ ?_⟩
    · rintro i x σ H1 hi ⟨a, nv, iv, rfl, ha, s1⟩
      obtain ⟨p, hpi, hx'⟩ := r.at_ hi
      have hpm := List.mem_of_getElem? hpi
      obtain ⟨nm, y, rfl, hs, hfy⟩ := pairF_of (all p hpm)
      obtain ⟨e, v1, v2, rfl, he, h3, h4⟩ := (hx'.keep (Kv.of s1)).tup2
      obtain ⟨rfl, _⟩ := h3.str_inv
      have dr : l.drop i = .tup [.str nm, y] :: l.drop (i + 1) := by
        rw [List.drop_eq_getElem_cons (List.getElem?_eq_some_iff.mp hpi).1, (List.getElem?_eq_some_iff.mp hpi).2]
      rw [dr] at ha
      have fk : FK (wordsN n) (.tup [.str nm, y] :: l.drop (i + 1)) s a = if nm = s then some (y, a) else FK (wordsN n) (l.drop (i + 1)) s (a + wordsN n y) := rfl
      rw [fk] at ha
      refine ⟨e, _, rfl, SqT.of he, rfl, _, _, rfl, _, _, rfl, rfl, ?_⟩
      refine ⟨_, rfl, _, rfl, rfl, _, rfl, ?_⟩
      by_cases hn : nm = s
      · refine ifT (decide_eq_true (by rw [hn])) ?_
        rw [if_pos hn] at ha
        refine ⟨_, rfl, _, rfl, (by show 2 ≤ sizeLine; decide), fun q hq => ?_⟩
        generalize hH2 : upd H1 q _ = H2
        obtain ⟨sq, eq⟩ := freshF hq hH2
        rw [ha] at k
        exact k q v2 H2 (s1.trans sq) eq (h4.keep (Kv.of sq))
      · refine ifF (decide_eq_false (fun z => hn (V.str.inj z))) ?_
        rw [if_neg hn] at ha
        refine ⟨_, rfl, _, rfl, n, n4, n1, g, v2, y, rfl, h4, hfy, fun H2 s2 => ?_⟩
        exact ⟨_, _, rfl, rfl, _, _, _, rfl, ha, s1.trans s2⟩
    · rintro σ H1 ⟨a, nv, iv, rfl, ha, s1⟩
      rw [r.len, List.drop_length] at ha
      rw [ha] at k
      exact k H1 s1
theorem scStp : FnScope ["kind", "step"] ["kind", "step"] (defScope sStp) := ⟨rfl, rfl, rfl, by decide +kernel, rfl, by decide +kernel, by decide +kernel⟩
theorem ok_stp (F : Fun K "_stepped" "_stepped" sStp fStp fdStp) (T : MgU K mg fTrs fPl fNk fWlk fStp fFk fWhl fWc BT)
    (GW : FnOk P w K mg base CX0 5 fWc fdWc ["kind"] spWcA) (bW : L2.Binds K fdWc ["kind"] []) (GF : FnOk P w K mg base CX0 6 fFk fdFk ["kind", "field"] spFk) (bF : L2.Binds K fdFk ["kind", "field"] [])
    (GPl : FnOk P w K mg base CX0 1 fPl fdPl ["value"] (spAsk plainB)) (bPl : L2.Binds K fdPl ["value"] []) (GH : FnOk P w K mg base CX0 1 fWhl fdWhl ["value"] (spAsk isInt)) (bH : L2.Binds K fdWhl ["value"] []) :
    FnOk P w K mg base CX0 7 fStp fdStp ["kind", "step"] spStp := by
  refine F.ok scStp (fun vs H Q E h => ?_) (fun cdv A outer s H vs Q E hr h => ?_)
  · obtain ⟨_, _, g, v, u, d, s, rfl, _⟩ := h
    rfl
  · obtain ⟨n, n4, g, v, u, d, st, rfl, hd, hu, hf, k⟩ := h
    have hr1 : Room 1 _ := hr.mono (by decide)
    have hr5 : Room 5 _ := hr.mono (by decide)
    refine ⟨_, (pss_cons (ps_if (pt_val (pe_call GPl hr1 (by rfl) T.pl T.kpl bPl .nil pass0 (pa_cons (pv 0) pa_nil))) (pss_one (ps_ret pe_non)) pss_nil)
      (pss_cons (ps_if (pt_cmpR (op_eqS hr.units) (pe_ix ix_tup (pv 0) pe_int (fun _ _ => rfl)) pe_str (nomark _)) (pss_one (ps_ret (pe_ifExp (pt_val (pe_callB call_isi (by rfl) T.isi (by decide +kernel) (pa_cons (pv 1) (pa_cons (pe_bltn (v := .ty "str") (by rfl) T.str boot_str rfl) pa_nil)))) (pe_call GF hr (by rfl) T.fk T.kfk bF .nil pass0 (pa_cons (pv 0) (pa_cons (pv 1) pa_nil))) pe_non))) pss_nil)
      (pss_cons (ps_if (PW.pt (pw_and (pt_val (pe_call GH hr1 (by rfl) T.whl T.kwhl bH .nil pass0 (pa_cons (pv 1) pa_nil))) (pw_and1 (pt_chain op_le op_lt pe_int (pv 1) (pe_ix ix_tup (pv 0) pe_int (fun _ _ => rfl)))))) (pss_one (ps_ret (pe_tup (pa_cons (pe_ix ix_tup (pv 0) pe_int (fun _ _ => rfl)) (pa_cons (pe_op op_mul (pv 1) (pe_call GW hr5 (by rfl) T.wc T.kwc bW .nil pass0 (pa_cons (pe_ix ix_tup (pv 0) pe_int (fun _ _ => rfl)) pa_nil))) pa_nil))))) pss_nil)
      (pss_one (ps_ret pe_non))))), ?_⟩
    refine ⟨_, rfl, g, v, d, rfl, hd, fun H1 s1 => ⟨_, rfl, ?_⟩⟩
    have hd1 := hd.keep (Kv.of s1)
    have hu1 := hu.keep (Kv.of s1)
    have told : ∀ {o : Option (Dt × Int)}, Told g o H Q → Told g o H1 Q := fun {o} h => by
      cases o with
      | none => exact fun H' s => h H' (s1.trans s)
      | some x => exact fun p v H' s => h p v H' (s1.trans s)
    have k := told k
    rcases formed_cases hf with ⟨s, rfl, hs⟩ | ⟨m, hm, hh⟩
    · refine ifT hs ?_
      rw [ST_str] at k
      exact k H1 (Same.refl H1)
    · obtain rfl : n = m + 2 := hm
      rcases hh with ⟨l, rfl, l1, l2, all, _⟩ | ⟨i, z, rfl, i1, i2, hz⟩
      · refine iteF ?_
        obtain ⟨b, vx, vy, rfl, hb, hx, hy⟩ := hd1.tup2
        refine ⟨_, rfl, b, _, 0, vx, rfl, rfl, SqT.of hb, atI_nat (j := 0) rfl, g, .str "record", "record", rfl, hx, _, rfl, ?_⟩
        refine ifT (by decide +kernel) ?_
        obtain ⟨t, ht, k1, _⟩ := hu1.ty (K := K)
        refine ⟨_, rfl, _, _, _, _, _, rfl, .ty "str", ht, k1, _, rfl, ?_⟩
        cases st with
        | str s' =>
          obtain ⟨rfl, _⟩ := hu1.str_inv
          refine iteT ⟨_, rfl, _, rfl, m + 1, by omega, g, .ref b, l, s', rfl, hd1, by omega, all, ?_⟩
          exact k
        | int _ => exact iteF (k H1 (Same.refl H1))
        | bl _ => exact iteF (k H1 (Same.refl H1))
        | non => exact iteF (k H1 (Same.refl H1))
        | lst _ => exact iteF (k H1 (Same.refl H1))
        | tup _ => exact iteF (k H1 (Same.refl H1))
        | dic => exact iteF (k H1 (Same.refl H1))
      · refine iteF ?_
        obtain ⟨b, vx, vy, vz, rfl, hb, hx, hy, hz'⟩ := hd1.tup3
        obtain rfl := hy.int_inv
        refine ⟨_, rfl, b, _, 0, vx, rfl, rfl, SqT.of hb, atI_nat (j := 0) rfl, g, .str "row", "record", rfl, hx, _, rfl, ?_⟩
        refine ifF (by decide +kernel) ?_
        refine ⟨_, rfl, g, u, st, rfl, hu1, fun H2 s2 => ⟨_, rfl, ?_⟩⟩
        have hb2 := s2 _ _ hb
        cases st with
        | int c =>
          obtain rfl := hu1.int_inv
          refine iteT ⟨_, rfl, _, _, rfl, rfl, _, rfl, ?_⟩
          have e0 : ST (m + 2) (.tup [.str "row", .int i, z]) (.int c) = if 0 ≤ c ∧ c < i then some (z, c * wordsN (m + 1) z) else none := rfl
          rw [e0] at k
          by_cases h0 : 0 ≤ c
          · refine ifT (decide_eq_true h0) ?_
            refine ⟨_, rfl, b, _, 1, _, rfl, rfl, SqT.of hb2, atI_nat (j := 1) rfl, _, _, rfl, rfl, _, rfl, ?_⟩
            by_cases h1 : c < i
            · refine ifT (decide_eq_true h1) ?_
              rw [if_pos ⟨h0, h1⟩] at k
              refine ⟨_, rfl, b, _, 2, _, rfl, rfl, SqT.of hb2, atI_nat (j := 2) rfl, _, rfl, _, rfl, b, _, 2, vz, rfl, rfl, SqT.of hb2, atI_nat (j := 2) rfl, m + 1, by omega, by omega, g, vz, z, rfl, hz'.keep (Kv.of s2), hz, fun H3 s3 => ?_⟩
              refine ⟨_, _, rfl, rfl, .inl ⟨by omega, by omega⟩, (by show 2 ≤ sizeLine; decide), fun q hq => ?_⟩
              generalize hH4 : upd H3 q _ = H4
              obtain ⟨sq, eq⟩ := freshF hq hH4
              exact k q vz H4 ((s2.trans s3).trans sq) eq (hz'.keep (Kv.of ((s2.trans s3).trans sq)))
            · refine ifF (decide_eq_false h1) ?_
              rw [if_neg (fun z => h1 z.2)] at k
              exact k H2 s2
          · refine ifF (decide_eq_false h0) ?_
            rw [if_neg (fun z => h0 z.1)] at k
            exact ⟨_, rfl, iteF (k H2 s2)⟩
        | str _ => exact iteF (k H2 s2)
        | bl _ => exact iteF (k H2 s2)
        | non => exact iteF (k H2 s2)
        | lst _ => exact iteF (k H2 s2)
        | tup _ => exact iteF (k H2 s2)
        | dic => exact iteF (k H2 s2)
end
end K1

set_option Elab.async false
set_option linter.all false
set_option pp.maxSteps 700
set_option maxRecDepth 100000
set_option maxHeartbeats 2000000
namespace K1
open PySem PySem.Spec PyProof.Rows L2
open TL (tl)
theorem take_snoc {α : Type} {l : List α} {i : Nat} {x : α} (h : l[i]? = some x) : l.take (i + 1) = l.take i ++ [x] := by
  rw [List.take_succ, h]
  rfl
theorem WK_snoc (n : Nat) (d : Dt) (p : List Dt) (s : Dt) : WK n d (p ++ [s]) = (WK n d p).bind fun x => (ST (n - p.length) x.1 s).map fun y => (y.1, x.2 + y.2) := by
  rw [WK_app]
  cases WK n d p with
  | none => rfl
  | some x =>
    show (WK (n - p.length) x.1 [s]).map _ = (ST (n - p.length) x.1 s).map _
    cases h : n - p.length with
    | zero =>
      have : ST 0 x.1 s = none := rfl
      rw [this]
      rfl
    | succ m =>
      rw [WK_cons]
      cases ST (m + 1) x.1 s with
      | none => rfl
      | some y =>
        show ((WK m y.1 []).map fun z => (z.1, y.2 + z.2)).map (fun z => (z.1, x.2 + z.2)) = some (y.1, x.2 + y.2)
        rw [WK_nil]
        show some (y.1, x.2 + (y.2 + 0)) = _
        rw [Int.add_zero]
theorem WK_none {n : Nat} {d : Dt} {p : List Dt} (q : List Dt) (h : WK n d p = none) : WK n d (p ++ q) = none := by
  rw [WK_app, h]
  rfl
theorem ST_formed {n : Nat} {d s z : Dt} {a : Int} (hf : formed n d = true) (h : ST n d s = some (z, a)) : formed (n - 1) z = true := by
  cases n with
  | zero => cases h
  | succ m =>
    have hw : WK (m + 1) d [s] = some (z, a) := by
      rw [WK_cons, h]
      show (WK m z []).map _ = _
      rw [WK_nil]
      show some (z, a + 0) = _
      rw [Int.add_zero]
    exact (idx [s] (m + 1) d z a hf hw).1
def spTr (C : Addr) : Sp := fun vs H Q E => ∃ (g : Addr) (v : V) (d : Dt), vs = [v] ∧ DV g H v d ∧ ((kindB d = true ∧ pur d = true ∧ ∀ (p : Addr) (ys : List V) (H' : Hp), H p = none → H' p = some (.lst ys) → DVs g H' ys ((TN 4 d).map Dt.tup) → Same H H' → Q (.ref p) H') ∨ (kindB d = false ∧ ∀ H', Same H H' → E (.ref C) none H'))
/-- inner_kind, offset_of: a kind, a trail -/
def spAt (C BT : Addr) (ans : Addr → Dt → Int → Hp → Hp → VK → Prop) : Sp := fun vs H Q E => ∃ (g : Addr) (v u : V) (d t : Dt), vs = [v, u] ∧ DV g H v d ∧ DV g H u t ∧
  ((kindB d = false ∧ ∀ H', Same H H' → E (.ref C) none H') ∨
   (kindB d = true ∧ (∀ l, t = .tup l → WK 4 d l = none) ∧ ∀ H', Same H H' → E (.ref BT) none H') ∨
   (kindB d = true ∧ ∃ l y a, t = .tup l ∧ WK 4 d l = some (y, a) ∧ ∀ H', Same H H' → ans g y a H H' Q))
def ansI (g : Addr) (y : Dt) (a : Int) (H H' : Hp) (Q : VK) : Prop := ∀ v', DV g H' v' y → Q v' H'
def ansO (g : Addr) (y : Dt) (a : Int) (H H' : Hp) (Q : VK) : Prop := Q (.int a) H'
section
variable {P : Program} {w : World} {K : PySem.W.Frag} {mg : Str → Option Value} {base : Heap}
variable {fTrs fPl fNk fWlk fStp fFk fWhl fWc BT C : Addr} {fdTrs fdPl fdNk fdWlk fdStp fdFk fdWhl fdWc : FuncData}
theorem scWlk : FnScope ["kind", "trail", "offset", "step", "found"] ["kind", "trail"] (defScope sWlk) := ⟨rfl, rfl, rfl, by decide +kernel, rfl, by decide +kernel, by decide +kernel⟩
theorem ok_wlk (F : Fun K "_walked" "_walked" sWlk fWlk fdWlk) (T : MgU K mg fTrs fPl fNk fWlk fStp fFk fWhl fWc BT)
    (GS : FnOk P w K mg base CX0 7 fStp fdStp ["kind", "step"] spStp) (bS : L2.Binds K fdStp ["kind", "step"] []) :
    FnOk P w K mg base (L2.CX P w) 8 fWlk fdWlk ["kind", "trail"] (spWlk BT) := by
  refine F.okX scWlk (fun vs H Q E h => ?_) (fun cdv A outer s H vs Q E hr h => ?_)
  · obtain ⟨_, _, g, v, u, d, t, rfl, _⟩ := h
    rfl
  · obtain ⟨n, n4, g, v, u, d, t, rfl, hd, hu, hf, k⟩ := h
    refine ⟨_, (pss_cons (ps_if (pt_not (pt_val (pe_callB call_isi (by rfl) T.isi (by decide +kernel) (pa_cons (pv 1) (pa_cons (pe_bltn (v := .ty "tuple") (by rfl) T.tpl boot_tuple rfl) pa_nil))))) (pss_one (ps_raise rfl (takes_of rfl rfl rfl rfl) (pmk_own PySem.F.excBase_ValueError T.exI T.bt T.kbt (raises_own T.sub T.ty) (by rfl)))) pss_nil)
      (pss_cons (ps_set (i := 2) scWlk.nd rfl (Or.inl rfl) pe_int)
      (pss_cons (ps_for (passes_of rfl) rfl (pi_tup (pv 1)) (pg_name (i := 3) scWlk.nd rfl (Or.inl rfl))
          (pss_cons (ps_set (i := 4) scWlk.nd rfl (Or.inl rfl) (pe_call GS hr (by rfl) T.stp T.kstp bS .nil pass0 (pa_cons (pv 0) (pa_cons (pv 3) pa_nil))))
          (pss_cons (ps_if (pt_cmpR op_isN (pv 4) pe_non (nomark _)) (pss_one (ps_raise rfl (takes_of rfl rfl rfl rfl) (pmk_own PySem.F.excBase_ValueError T.exI T.bt T.kbt (raises_own T.sub T.ty) (by rfl)))) pss_nil)
          (pss_cons (ps_set (i := 0) scWlk.nd rfl (Or.inl rfl) (pe_ix ix_tup (pv 4) pe_int (fun _ _ => rfl)))
          (pss_one (ps_aug (i := 2) scWlk.nd rfl (Or.inl rfl) (pe_ix ix_tup (pv 4) pe_int (fun _ _ => rfl)) ip_add))))))
      (pss_one (ps_ret (pe_tup (pa_cons (pv 0) (pa_cons (pv 2) pa_nil)))))))), ?_⟩
    obtain ⟨ty, ht, k1, k2, _⟩ := hu.ty (K := K)
    refine ⟨_, rfl, _, _, _, _, _, rfl, .ty "tuple", ht, k2, _, rfl, ?_⟩
    have out : isTup t = false → E (.ref BT) none H := fun z => by
      rcases k with ⟨l, y, a, rfl, _⟩ | ⟨_, k⟩
      · cases z
      · exact k H (Same.refl H)
    cases hu with
    | @tup b xs l hb hl r =>
      refine iteF ?_
      refine ⟨_, rfl, b, rfl, ⟨_, SqT.of hb⟩, for_tup (K := K) (a := b) (xs := xs)
        (fun i σ H' => ∃ (vk : V) (y : Dt) (a : Int) (sv fv : Option V), σ = [some vk, some (.ref b), some (.int a), sv, fv] ∧ DV g H' vk y ∧ WK n d (l.take i) = some (y, a) ∧ formed (n - i) y = true ∧ Same H H')
        ⟨v, d, 0, none, none, rfl, hd, WK_nil _ _, hf, Same.refl H⟩ (fun i σ H' _ ⟨_, _, _, _, _, _, _, _, _, s2⟩ => SqT.of (s2 _ _ hb)) ?_ ?_⟩
      · rintro i x σ H1 hi ⟨vk, y, a, sv, fv, rfl, hy, hw, fy, s1⟩
        obtain ⟨st, hst, hx⟩ := r.at_ hi
        have il : i < l.length := (List.getElem?_eq_some_iff.mp hst).1
        have e1 := WK_snoc n d (l.take i) st
        have e2 : (l.take i).length = i := by rw [List.length_take]; omega
        rw [← take_snoc hst, hw, e2] at e1
        have e1 : WK n d (l.take (i + 1)) = (ST (n - i) y st).map fun u => (u.1, a + u.2) := e1
        refine ⟨_, rfl, _, rfl, n - i, by omega, g, vk, x, y, st, rfl, hy, hx.keep (Kv.of s1), fy, ?_⟩
        cases hs : ST (n - i) y st with
        | none =>
          intro H2 s2
          rw [hs] at e1
          have e3 : WK n d l = none := by
            have := WK_none (l.drop (i + 1)) e1
            rw [List.take_append_drop] at this
            exact this
          refine ⟨_, rfl, rfl, _, rfl, ifT (by decide) ?_⟩
          rcases k with ⟨l', y', a', e, h, _⟩ | ⟨_, k⟩
          · injection e with e
            rw [← e, e3] at h
            cases h
          · exact k H2 (s1.trans s2)
        | some za =>
          obtain ⟨z, c⟩ := za
          intro p v' H2 s2 hp hv'
          rw [hs] at e1
          refine ⟨_, rfl, rfl, _, rfl, ifF (by rfl) ?_⟩
          refine ⟨_, rfl, p, _, 0, v', rfl, rfl, SqT.of hp, atI_nat (j := 0) rfl, ?_⟩
          refine ⟨_, rfl, _, rfl, p, _, 1, _, rfl, rfl, SqT.of hp, atI_nat (j := 1) rfl, ?_⟩
          refine ⟨_, _, rfl, rfl, _, _, _, _, _, rfl, hv', e1, ?_, s1.trans s2⟩
          have q := ST_formed fy hs
          have e3 : n - i - 1 = n - (i + 1) := by omega
          rw [e3] at q
          exact q
      · rintro σ H1 ⟨vk, y, a, sv, fv, rfl, hy, hw, fy, s1⟩
        rw [r.len, List.take_length] at hw
        refine ⟨_, rfl, _, rfl, (by show 2 ≤ sizeLine; decide), fun p hp => ?_⟩
        generalize hH2 : upd H1 p _ = H2
        obtain ⟨sp, ep⟩ := freshF hp hH2
        rcases k with ⟨l', y', a', e, h, k⟩ | ⟨k0, _⟩
        · injection e with e
          rw [← e, hw] at h
          injection h with h
          injection h with h1 h2
          rw [← h1, ← h2] at k
          exact k p vk H2 (s1.trans sp) ep (hy.keep (Kv.of sp))
        · rw [k0 l rfl] at hw
          cases hw
    | int _ => exact iteT (out rfl)
    | bl _ => exact iteT (out rfl)
    | non => exact iteT (out rfl)
    | str _ => exact iteT (out rfl)
    | lst _ _ _ _ => exact iteT (out rfl)
    | dic _ => exact iteT (out rfl)
theorem scInn : FnScope ["kind", "trail"] ["kind", "trail"] (defScope sInn) := ⟨rfl, rfl, rfl, by decide +kernel, rfl, by decide +kernel, by decide +kernel⟩
theorem scOff : FnScope ["kind", "trail"] ["kind", "trail"] (defScope sOff) := ⟨rfl, rfl, rfl, by decide +kernel, rfl, by decide +kernel, by decide +kernel⟩
theorem scTrl : FnScope ["kind"] ["kind"] (defScope sTrl) := ⟨rfl, rfl, rfl, by decide +kernel, rfl, by decide +kernel, by decide +kernel⟩
variable (GN : FnOk P w K mg base (L2.CX P w) 11 fNk fdNk ["kind"] (spNk C)) (bN : L2.Binds K fdNk ["kind"] []) (T : MgU K mg fTrs fPl fNk fWlk fStp fFk fWhl fWc BT)
include GN bN T
theorem ok_inn {f : Addr} {fd : FuncData} (F : Fun K "inner_kind" "inner_kind" sInn f fd) (GW : FnOk P w K mg base (L2.CX P w) 8 fWlk fdWlk ["kind", "trail"] (spWlk BT)) (bW : L2.Binds K fdWlk ["kind", "trail"] []) :
    FnOk P w K mg base (L2.CX P w) 12 f fd ["kind", "trail"] (spAt C BT ansI) := by
  refine F.okX scInn (fun vs H Q E h => ?_) (fun cdv A outer s H vs Q E hr h => ?_)
  · obtain ⟨g, v, u, d, t, rfl, _⟩ := h
    rfl
  · obtain ⟨g, v, u, d, t, rfl, hd, hu, k⟩ := h
    have hr8 : Room 8 _ := hr.mono (by decide)
    refine ⟨_, (pss_cons (ps_expr (pe_call GN hr (by rfl) T.nk T.knk bN .nil (passes_call (takes_of rfl rfl rfl rfl) (fun _ _ _ _ h => h)) (pa_cons (pv 0) pa_nil)))
      (pss_one (ps_ret (pe_ix ix_tup (pe_call GW hr8 (by rfl) T.wlk T.kwlk bW .nil (passes_call (takes_of rfl rfl rfl rfl) (fun _ _ _ _ h => h)) (pa_cons (pv 0) (pa_cons (pv 1) pa_nil))) pe_int (fun _ _ => rfl))))), ?_⟩
    refine ⟨_, rfl, g, v, d, rfl, hd, ?_⟩
    rcases k with ⟨e, k⟩ | ⟨e, e2, k⟩ | ⟨e, l, y, a, rfl, h, k⟩
    · exact .inr ⟨e, k⟩
    · refine .inl ⟨e, fun H1 s1 => ?_⟩
      have hf : formed 4 d = true := by
        unfold kindB at e
        rw [Bool.and_eq_true] at e
        exact e.1
      exact ⟨_, rfl, _, rfl, 4, Nat.le_refl _, g, v, u, d, t, rfl, hd.keep (Kv.of s1), hu.keep (Kv.of s1), hf, .inr ⟨e2, fun H' s' => k H' (s1.trans s')⟩⟩
    · refine .inl ⟨e, fun H1 s1 => ?_⟩
      have hf : formed 4 d = true := by
        unfold kindB at e
        rw [Bool.and_eq_true] at e
        exact e.1
      refine ⟨_, rfl, _, rfl, 4, Nat.le_refl _, g, v, u, d, .tup l, rfl, hd.keep (Kv.of s1), hu.keep (Kv.of s1), hf, .inl ⟨l, y, a, rfl, h, fun p v' H2 s2 hp hv' => ?_⟩⟩
      exact ⟨p, _, 0, v', rfl, rfl, SqT.of hp, atI_nat (j := 0) rfl, k H2 (s1.trans s2) v' hv'⟩
theorem ok_off {f : Addr} {fd : FuncData} (F : Fun K "offset_of" "offset_of" sOff f fd) (GW : FnOk P w K mg base (L2.CX P w) 8 fWlk fdWlk ["kind", "trail"] (spWlk BT)) (bW : L2.Binds K fdWlk ["kind", "trail"] []) :
    FnOk P w K mg base (L2.CX P w) 12 f fd ["kind", "trail"] (spAt C BT ansO) := by
  refine F.okX scOff (fun vs H Q E h => ?_) (fun cdv A outer s H vs Q E hr h => ?_)
  · obtain ⟨g, v, u, d, t, rfl, _⟩ := h
    rfl
  · obtain ⟨g, v, u, d, t, rfl, hd, hu, k⟩ := h
    have hr8 : Room 8 _ := hr.mono (by decide)
    refine ⟨_, (pss_cons (ps_expr (pe_call GN hr (by rfl) T.nk T.knk bN .nil (passes_call (takes_of rfl rfl rfl rfl) (fun _ _ _ _ h => h)) (pa_cons (pv 0) pa_nil)))
      (pss_one (ps_ret (pe_ix ix_tup (pe_call GW hr8 (by rfl) T.wlk T.kwlk bW .nil (passes_call (takes_of rfl rfl rfl rfl) (fun _ _ _ _ h => h)) (pa_cons (pv 0) (pa_cons (pv 1) pa_nil))) pe_int (fun _ _ => rfl))))), ?_⟩
    refine ⟨_, rfl, g, v, d, rfl, hd, ?_⟩
    rcases k with ⟨e, k⟩ | ⟨e, e2, k⟩ | ⟨e, l, y, a, rfl, h, k⟩
    · exact .inr ⟨e, k⟩
    · refine .inl ⟨e, fun H1 s1 => ?_⟩
      have hf : formed 4 d = true := by
        unfold kindB at e
        rw [Bool.and_eq_true] at e
        exact e.1
      exact ⟨_, rfl, _, rfl, 4, Nat.le_refl _, g, v, u, d, t, rfl, hd.keep (Kv.of s1), hu.keep (Kv.of s1), hf, .inr ⟨e2, fun H' s' => k H' (s1.trans s')⟩⟩
    · refine .inl ⟨e, fun H1 s1 => ?_⟩
      have hf : formed 4 d = true := by
        unfold kindB at e
        rw [Bool.and_eq_true] at e
        exact e.1
      refine ⟨_, rfl, _, rfl, 4, Nat.le_refl _, g, v, u, d, .tup l, rfl, hd.keep (Kv.of s1), hu.keep (Kv.of s1), hf, .inl ⟨l, y, a, rfl, h, fun p v' H2 s2 hp hv' => ?_⟩⟩
      exact ⟨p, _, 1, _, rfl, rfl, SqT.of hp, atI_nat (j := 1) rfl, k H2 (s1.trans s2)⟩
theorem ok_trl {f : Addr} {fd : FuncData} (F : Fun K "trails" "trails" sTrl f fd) (GT : FnOk P w K mg base CX0 5 fTrs fdTrs ["kind"] (spTrs 4)) (bT : L2.Binds K fdTrs ["kind"] []) :
    FnOk P w K mg base (L2.CX P w) 12 f fd ["kind"] (spTr C) := by
  refine F.okX scTrl (fun vs H Q E h => ?_) (fun cdv A outer s H vs Q E hr h => ?_)
  · obtain ⟨g, v, d, rfl, _⟩ := h
    rfl
  · obtain ⟨g, v, d, rfl, hd, k⟩ := h
    have hr5 : Room 5 _ := hr.mono (by decide)
    refine ⟨_, (pss_cons (ps_expr (pe_call GN hr (by rfl) T.nk T.knk bN .nil (passes_call (takes_of rfl rfl rfl rfl) (fun _ _ _ _ h => h)) (pa_cons (pv 0) pa_nil)))
      (pss_one (ps_ret (pe_call GT hr5 (by rfl) T.trs T.ktrs bT .nil pass0 (pa_cons (pv 0) pa_nil))))), ?_⟩
    refine ⟨_, rfl, g, v, d, rfl, hd, ?_⟩
    rcases k with ⟨e, p, k⟩ | ⟨e, k⟩
    · refine .inl ⟨e, fun H1 s1 => ?_⟩
      have e2 := e
      unfold kindB at e2
      rw [Bool.and_eq_true, decide_eq_true_eq] at e2
      exact ⟨_, rfl, by decide, by decide, g, v, d, rfl, hd.keep (Kv.of s1), p, e2.1, e2.2, fun q ys H2 hq eq dv s2 => k q ys H2 (s1.free hq) eq dv (s1.trans s2)⟩
    · exact .inr ⟨e, k⟩
end
end K1

set_option Elab.async false
set_option linter.all false
set_option pp.maxSteps 700
set_option maxRecDepth 100000
set_option maxHeartbeats 4000000
namespace K1
open PySem PySem.Spec PyProof.Rows L2
open TL (tl)
abbrev sAll : Stmt := top 46
abbrev sLat : Stmt := top 47
section
variable {X : Cx} {o e : Expr} {to te : TE} {apos cpos : Pos}
theorem qExt (ho : PE X o to) (he : PE X e te) (hbase : attributeBase o "extend" X.env (eval o X.env) = eval o X.env := by rfl)
    (hfew : ((backTo cpos (starEach (e :: []) X.env)).all (fun x => !x.1) && (backToKw cpos (keywordEach [] X.env)).all (fun x => x.1.isSome)
      && decide ((e :: ([] : List Expr)).length + ([] : List Keyword).length + (if ([] : List Keyword).isEmpty then 0 else 1) < 30)) = true := by rfl)
    (hline : (apos.endLine == cpos.line) = true := by rfl) (hs : starEach (e :: []) X.env = (false, eval e X.env) :: starEach [] X.env := by rfl) (hplain : (backTo cpos (starEach [] X.env)).any (·.1) = false := by rfl) :
    PE X (.Call (.Attribute o "extend" apos) [e] [] cpos) (tBM X.K "list" rExtend to (tCons te tNil)) :=
  pe_bm PySem.F.plainAttrs_list PySem.F.slot_list_extend PySem.F.type_list_extend mt_extend ho (pa_cons he pa_nil hs) hbase hfew hline hs hplain
end
theorem putF {H H1 : Hp} {p : Addr} {o : HO} {l : List V} (h : H p = some (.lst l)) (e : upd H p o = H1) : Kt H H1 ∧ H1 p = some o ∧ ∀ b, b ≠ p → H1 b = H b := by
  subst e
  exact ⟨Kt.put h, upd_same, fun b hb => upd_ne hb⟩
theorem Same.putN {H H1 H2 : Hp} {p : Addr} (s : Same H H1) (hp : H p = none) (n : ∀ b, b ≠ p → H2 b = H1 b) : Same H H2 := fun b o e => by
  rw [n b (ne_of_none e hp)]
  exact s b o e
/-! ### the law's own trails -/
abbrev PD := List Dt × Dt
def prD (x : PD) : Dt := .tup [.tup x.1, x.2]
def TNx (n : Nat) (x : PD) : List (List Dt) := (TN n x.2).map (x.1 ++ ·)
def exR (t : List Dt) (i : Int) (z : Dt) : List PD := (List.range i.toNat).map (fun k => (t ++ [.int ((k : Nat) : Int)], z))
def exF (t : List Dt) (l : List Dt) : List PD := l.map (fun p => (t ++ [.str (nmOf p)], sndD p))
def ex1 : PD → List PD
  | (t, .tup [_, .tup l]) => exF t l
  | (t, .tup [_, .int i, z]) => exR t i z
  | x => [x]
theorem ex1_str (t : List Dt) (s : Str) : ex1 (t, .str s) = [(t, .str s)] := rfl
theorem ex_inv {m : Nat} {x : PD} (hf : formed (m + 1) x.2 = true) : (ex1 x).flatMap (TNx m) = TNx (m + 1) x ∧ ∀ y ∈ ex1 x, formed m y.2 = true := by
  obtain ⟨t, d⟩ := x
  rcases formed_cases hf with ⟨s, e, hs⟩ | ⟨j, hj, ⟨l, e, l1, l2, hp, nd⟩ | ⟨i, z, e, i1, i2, hz⟩⟩
  · have e : d = .str s := e
    subst e
    rw [ex1_str]
    refine ⟨?_, fun y hy => ?_⟩
    · show TNx m (t, .str s) ++ [] = _
      unfold TNx
      rw [TN_str, TN_str, List.append_nil]
    · rw [List.mem_singleton.mp hy, formed_str]
      exact hs
  · have e : d = _ := e
    subst e
    obtain rfl : m = j + 1 := by omega
    refine ⟨?_, fun y hy => ?_⟩
    · show (exF t l).flatMap _ = (l.flatMap _).map _
      unfold exF
      rw [List.flatMap_map, List.map_flatMap]
      congr 1
      funext p
      show (TN (j + 1) (sndD p)).map ((t ++ [.str (nmOf p)]) ++ ·) = ((TN (j + 1) (sndD p)).map (Dt.str (nmOf p) :: ·)).map (t ++ ·)
      rw [List.map_map]
      congr 1
      funext q
      simp
    · obtain ⟨p, hp', rfl⟩ := List.mem_map.mp (show y ∈ exF t l from hy)
      exact (pair_snd (hp p hp')).1
  · have e : d = _ := e
    subst e
    obtain rfl : m = j + 1 := by omega
    refine ⟨?_, fun y hy => ?_⟩
    · show (exR t i z).flatMap _ = ((List.range i.toNat).flatMap _).map _
      unfold exR
      rw [List.flatMap_map, List.map_flatMap]
      congr 1
      funext k
      show (TN (j + 1) z).map ((t ++ [.int ((k : Nat) : Int)]) ++ ·) = ((TN (j + 1) z).map (Dt.int ((k : Nat) : Int) :: ·)).map (t ++ ·)
      rw [List.map_map]
      congr 1
      funext q
      simp
    · obtain ⟨k, _, rfl⟩ := List.mem_map.mp (show y ∈ exR t i z from hy)
      exact hz
theorem TNx_pos {n : Nat} {x : PD} (hf : formed n x.2 = true) : 1 ≤ (TNx n x).length := by
  have h1 := TN_len n x.2 hf
  have h2 := (words_bound n x.2 hf).1
  unfold TNx
  rw [List.length_map]
  omega
theorem flat_len {n : Nat} : ∀ {S : List PD}, (∀ x ∈ S, formed n x.2 = true) → S.length ≤ (S.flatMap (TNx n)).length
  | [], _ => Nat.zero_le _
  | x :: S, h => by
    have ih := flat_len (S := S) fun y hy => h y (List.mem_cons_of_mem _ hy)
    have := TNx_pos (h x List.mem_cons_self)
    rw [List.flatMap_cons, List.length_append, List.length_cons]
    omega
theorem flat_take {α β : Type} (f : α → List β) (l : List α) (i : Nat) : ((l.take i).flatMap f).length ≤ (l.flatMap f).length := by
  have e := List.take_append_drop i l
  have : (l.flatMap f).length = ((l.take i).flatMap f).length + ((l.drop i).flatMap f).length := by
    rw [← List.length_append, ← List.flatMap_append, e]
  omega
theorem ex_flat {m : Nat} {S : List PD} (h : ∀ x ∈ S, formed (m + 1) x.2 = true) : (S.flatMap ex1).flatMap (TNx m) = S.flatMap (TNx (m + 1)) := by
  induction S with
  | nil => rfl
  | cons x S ih =>
    rw [List.flatMap_cons, List.flatMap_append, List.flatMap_cons, (ex_inv (h x List.mem_cons_self)).1, ih fun y hy => h y (List.mem_cons_of_mem _ hy)]
theorem flat0 : ∀ S : List PD, (S.flatMap (TNx 0)).map Dt.tup = S.map (fun x => Dt.tup x.1)
  | [] => rfl
  | x :: S => by
    have e : TNx 0 x = [x.1] := by
      show ([[]] : List (List Dt)).map (x.1 ++ ·) = _
      simp
    rw [List.flatMap_cons, e, List.map_append, flat0 S]
    rfl
/-- trails of numbers and names, their kinds -/
def okP (x : PD) : Prop := purs x.1 = true ∧ x.1.length ≤ 1000 ∧ pur x.2 = true
theorem okP_pur {x : PD} (h : okP x) : pur (prD x) = true := by
  show (purs x.1 && (pur x.2 && true)) = true
  rw [h.1, h.2.2]
  rfl
theorem purs_pr {S : List PD} (h : ∀ x ∈ S, okP x) : purs (S.map prD) = true := by
  rw [purs_all, List.all_eq_true]
  intro d hd
  obtain ⟨x, hx, rfl⟩ := List.mem_map.mp hd
  exact okP_pur (h x hx)
def okL (n : Nat) (x : PD) : Prop := okP x ∧ x.1.length + n ≤ 4 ∧ formed n x.2 = true
theorem ex_ok {m : Nat} {x : PD} (h : okL (m + 1) x) : ∀ y ∈ ex1 x, okL m y := by
  obtain ⟨t, d⟩ := x
  obtain ⟨⟨h1, h2, h3⟩, h4, h5⟩ := h
  have h1 : purs t = true := h1
  have h3 : pur d = true := h3
  have h4 : t.length + (m + 1) ≤ 4 := h4
  have hf : formed (m + 1) d = true := h5
  intro y hy
  have ef := (ex_inv (x := (t, d)) h5).2 y hy
  rcases formed_cases hf with ⟨s, e, hs⟩ | ⟨j, hj, ⟨l, e, l1, l2, hp, nd⟩ | ⟨i, z, e, i1, i2, hz⟩⟩
  · subst e
    rw [ex1_str] at hy
    rw [List.mem_singleton.mp hy] at ef ⊢
    exact ⟨⟨h1, by show t.length ≤ 1000; omega, h3⟩, by show t.length + m ≤ 4; omega, ef⟩
  · subst e
    obtain ⟨p, hp', rfl⟩ := List.mem_map.mp (show y ∈ exF t l from hy)
    obtain ⟨s, q, rfl, hs, hq⟩ := pairF_of (hp p hp')
    have hpl : purs l = true := by
      have hp : (PyData.strOk "record" && (purs l && true)) = true := h3
      rw [Bool.and_eq_true, Bool.and_eq_true] at hp
      exact hp.2.1
    have hq2 : (PyData.strOk s && (pur q && true)) = true := purs_mem hpl hp'
    rw [Bool.and_eq_true, Bool.and_eq_true] at hq2
    refine ⟨⟨purs_snoc h1 (show PyData.strOk s = true from hq2.1), ?_, hq2.2.1⟩, ?_, ef⟩
    · show (t ++ [_]).length ≤ 1000
      rw [List.length_append]
      show t.length + 1 ≤ 1000
      omega
    · show (t ++ [_]).length + m ≤ 4
      rw [List.length_append]
      show t.length + 1 + m ≤ 4
      omega
  · subst e
    obtain ⟨k, _, rfl⟩ := List.mem_map.mp (show y ∈ exR t i z from hy)
    have hp : (PyData.strOk "row" && (true && (pur z && true))) = true := h3
    rw [Bool.and_eq_true, Bool.and_eq_true, Bool.and_eq_true] at hp
    refine ⟨⟨purs_snoc h1 rfl, ?_, hp.2.2.1⟩, ?_, ef⟩
    · show (t ++ [_]).length ≤ 1000
      rw [List.length_append]
      show t.length + 1 ≤ 1000
      omega
    · show (t ++ [_]).length + m ≤ 4
      rw [List.length_append]
      show t.length + 1 + m ≤ 4
      omega
structure MgA (mg : Str → Option Value) : Prop where
  rng : mg "range" = none
  isi : mg "isinstance" = none
  str : mg "str" = none
  int : mg "int" = none
  bol : mg "bool" = none
def spAll : Sp := fun vs H Q _ => ∃ (g : Addr) (v : V) (d : Dt), vs = [v] ∧ DV g H v d ∧ pur d = true ∧ kindB d = true ∧
  ∀ (p : Addr) (ys : List V) (H' : Hp), H p = none → H' p = some (.lst ys) → DVs g H' ys ((TN 4 d).map Dt.tup) → Same H H' → Q (.ref p) H'
section
variable {P : Program} {w : World} {K : PySem.W.Frag} {mg : Str → Option Value} {base : Heap}
theorem scAll : FnScope ["kind", "found", "lap", "line", "trail", "inner", "at", "name", "part"] ["kind"] (defScope sAll) := ⟨rfl, rfl, rfl, by decide +kernel, rfl, by decide +kernel, by decide +kernel⟩
theorem ok_all {f : Addr} {fd : FuncData} (F : Fun K "_law_all" "_law_all" sAll f fd) (T : MgA mg) : FnOk P w K mg base CX0 1 f fd ["kind"] spAll := by
  refine F.ok scAll (fun vs H Q E h => ?_) (fun cdv A outer s H vs Q E hr h => ?_)
  · obtain ⟨g, v, d, rfl, _⟩ := h
    rfl
  · obtain ⟨g, v, d, rfl, hd, hp, hk, k⟩ := h
    have hk2 := hk
    unfold kindB at hk2
    rw [Bool.and_eq_true, decide_eq_true_eq] at hk2
    have tot : (TN 4 d).length ≤ 400 := by
      have := TN_len 4 d hk2.1
      omega
    refine ⟨_, (pss_cons (ps_set (i := 1) scAll.nd rfl (Or.inl rfl) (pe_lst (pa_cons (pe_tup (pa_cons (pe_tup pa_nil) (pa_cons (pv 0) pa_nil))) pa_nil)))
      (pss_cons (ps_for PassesOwn.never rfl (pi_range1 (by rfl) T.rng (pa_cons pe_int pa_nil)) (pg_name (i := 2) scAll.nd rfl (Or.inl rfl))
          (pss_cons (ps_par (i := 3) (j := 1) (by rfl) scAll.nd rfl rfl (by decide) rfl rfl (pa_cons (pv 1) (pa_cons (pe_lst pa_nil) pa_nil)) (by rfl))
          (pss_one (ps_for PassesOwn.never rfl (pi_list (pv 3)) (pg_tup (by rfl) (pgs_cons (pg_name (i := 4) scAll.nd rfl (Or.inr rfl)) (pgs_cons (pg_name (i := 5) scAll.nd rfl (Or.inr rfl)) pgs_nil)))
              (pss_one (ps_if (pt_val (pe_callB call_isi (by rfl) T.isi (by decide +kernel) (pa_cons (pv 5) (pa_cons (pe_bltn (v := .ty "str") (by rfl) T.str boot_str rfl) pa_nil)))) (pss_one (ps_expr (qApp (pv 1) (pe_tup (pa_cons (pv 4) (pa_cons (pv 5) pa_nil)))))) (pss_one (ps_if (pt_cmpR (op_eqS hr.units) (pe_ix ix_tup (pv 5) pe_int (fun _ _ => rfl)) pe_str (nomark _)) (pss_one (ps_expr (qExt (pv 1) (pe_lc (own := [("at", 6)]) (g := gName 6) (tt := tYes) (by rfl) scAll.nd (pi_range1 (by rfl) T.rng (pa_cons (pe_ix ix_tup (pv 5) pe_int (fun _ _ => rfl)) pa_nil)) (blkOk_by (own := [("at", 6)]) (N := ["kind", "found", "lap", "line", "trail", "inner", "at", "name", "part"]) (sc := defScope sAll) (by decide +kernel)) (fun _ _ _ _ _ => (pg_name (i := 6) scAll.nd rfl (Or.inl rfl))) (fun _ _ _ _ _ => pts_nil) (fun _ _ _ _ _ => (pe_tup (pa_cons (pe_weak (pe_op (show OpR _ _ (rCatA K) from op_catA) (pv 4) (pe_tup (pa_cons (pv 6) pa_nil)))) (pa_cons (pe_ix (show IxR _ (rIxT K) from ix_tup) (pv 5) pe_int (fun _ _ => rfl)) pa_nil)))))))) (pss_one (ps_expr (qExt (pv 1) (pe_lc (own := [("name", 7), ("part", 8)]) (g := gTup K 2 (gCons (gName 7) (gCons (gName 8) gNil))) (tt := tYes) (by rfl) scAll.nd (pi_tup (pe_ix ix_tup (pv 5) pe_int (fun _ _ => rfl))) (blkOk_by (own := [("name", 7), ("part", 8)]) (N := ["kind", "found", "lap", "line", "trail", "inner", "at", "name", "part"]) (sc := defScope sAll) (by decide +kernel)) (fun _ _ _ _ _ => (pg_tup (by rfl) (pgs_cons (pg_name (i := 7) scAll.nd rfl (Or.inl rfl)) (pgs_cons (pg_name (i := 8) scAll.nd rfl (Or.inl rfl)) pgs_nil)))) (fun _ _ _ _ _ => pts_nil) (fun _ _ _ _ _ => (pe_tup (pa_cons (pe_weak (pe_op (show OpR _ _ (rCatA K) from op_catA) (pv 4) (pe_tup (pa_cons (pv 7) pa_nil)))) (pa_cons (pv 8) pa_nil))))))))))))))))
      (pss_one (ps_ret (pe_lc (own := [("trail", 4), ("inner", 5)]) (g := gTup K 2 (gCons (gName 4) (gCons (gName 5) gNil))) (tt := tYes) (by rfl) scAll.nd (pi_list (pv 1)) (blkOk_by (own := [("trail", 4), ("inner", 5)]) (N := ["kind", "found", "lap", "line", "trail", "inner", "at", "name", "part"]) (sc := defScope sAll) (by decide +kernel)) (fun _ _ _ _ _ => (pg_tup (by rfl) (pgs_cons (pg_name (i := 4) scAll.nd rfl (Or.inl rfl)) (pgs_cons (pg_name (i := 5) scAll.nd rfl (Or.inl rfl)) pgs_nil)))) (fun _ _ _ _ _ => pts_nil) (fun _ _ _ _ _ => (pv 4))))))), ?_⟩
    refine ⟨Nat.zero_le _, fun p0 hp0 => ?_⟩
    generalize hHa : upd H p0 _ = Ha
    obtain ⟨sp0, ep0⟩ := freshF hp0 hHa
    refine ⟨_, rfl, (by show 2 ≤ sizeLine; decide), fun p1 hp1 => ?_⟩
    generalize hHb : upd Ha p1 _ = Hb
    obtain ⟨sp1, ep1⟩ := freshF hp1 hHb
    refine ⟨(by show 1 ≤ sizeLine; decide), fun fa hfa => ?_⟩
    generalize hHc : upd Hb fa _ = Hc
    obtain ⟨sfa, efa⟩ := freshF hfa hHc
    have sc := (sp0.trans sp1).trans sfa
    refine ⟨4, rfl, by decide, by decide, for_range (lo := 0) (n := 4)
      (fun i σ H' => ∃ (fa : Addr) (ys : List V) (S : List PD) (lv a1 a2 a3 : Option V), σ = [some v, some (.ref fa), lv, a1, a2, a3, none, none, none] ∧ H fa = none ∧ H' fa = some (.lst ys) ∧ DVs g H' ys (S.map prD) ∧ (∀ x ∈ S, okL (4 - i) x) ∧ S.flatMap (TNx (4 - i)) = TN 4 d ∧ Same H H')
      ⟨fa, _, [([], d)], none, none, none, none, rfl, (sp0.trans sp1).free hfa, efa, .cons (.tup (sfa _ _ ep1) (by show 2 ≤ 1000; decide) (.cons (.tup (sfa _ _ (sp1 _ _ ep0)) (by show 0 ≤ 1000; decide) .nil) (.cons (hd.keep (Kv.of sc)) .nil))) .nil, ?_, ?_, sc⟩ ?_ ?_⟩
    · intro x hx
      rw [List.mem_singleton.mp hx]
      exact ⟨⟨rfl, by show 0 ≤ 1000; decide, hp⟩, by show 0 + 4 ≤ 4; decide, hk2.1⟩
    · show TNx 4 ([], d) ++ [] = _
      unfold TNx
      rw [List.append_nil]
      show (TN 4 d).map ([] ++ ·) = _
      simp
    · rintro i σ H1 hi ⟨fa, ys, S, lv, a1, a2, a3, rfl, hfa0, hF, dv, okS, fl, s1⟩
      obtain ⟨m, hm⟩ : ∃ m, 4 - i = m + 1 := ⟨4 - i - 1, by omega⟩
      have hm2 : 4 - (i + 1) = m := by omega
      rw [hm] at okS fl
      rw [hm2]
      have hflat := ex_flat fun x hx => (okS x hx).2.2
      have okE : ∀ x ∈ S.flatMap ex1, okL m x := fun x hx => by
        obtain ⟨y, hy, hx⟩ := List.mem_flatMap.mp hx
        exact ex_ok (okS y hy) x hx
      have lE : (S.flatMap ex1).length ≤ 400 := by
        have := flat_len fun x hx => (okE x hx).2.2
        rw [hflat, fl] at this
        omega
      refine ⟨_, rfl, Nat.zero_le _, fun fb hfb => ?_⟩
      generalize hH2 : upd H1 fb _ = H2
      obtain ⟨sfb, efb⟩ := freshF hfb hH2
      refine ⟨_, _, rfl, ?_⟩
      have fb0 : H fb = none := s1.free hfb
      have dv2 := dv.keep (Kv.of sfb)
      have pS : purs (S.map prD) = true := purs_pr fun x hx => (okS x hx).1
      have pE : ∀ j, purs (((S.take j).flatMap ex1).map prD) = true := fun j => purs_pr fun x hx => by
        obtain ⟨y, hy, hx⟩ := List.mem_flatMap.mp hx
        exact (okE x (List.mem_flatMap.mpr ⟨y, List.mem_of_mem_take hy, hx⟩)).1
      have ab : fa ≠ fb := ne_of_none hF hfb
      refine ⟨_, rfl, fa, rfl, ⟨_, SqL.of (sfb _ _ hF)⟩, for_list (K := K) (a := fa) (xs := ys)
        (fun j σ H' => ∃ (zs : List V) (a2 a3 : Option V), σ = [some v, some (.ref fb), some (.int (0 + (i : Int))), some (.ref fa), a2, a3, none, none, none] ∧ H' fa = some (.lst ys) ∧ DVs g H' ys (S.map prD) ∧ H' fb = some (.lst zs) ∧ DVs g H' zs (((S.take j).flatMap ex1).map prD) ∧ Same H H')
        ⟨[], a2, a3, rfl, sfb _ _ hF, dv2, efb, .nil, s1.trans sfb⟩ (fun j σ H' _ ⟨_, _, _, _, h, _⟩ => SqL.of h) ?_ ?_⟩
      · rintro j x σ H3 hj ⟨zs, a2, a3, rfl, hF3, dv3, hB3, dz3, s3⟩
        obtain ⟨dx, hdx, hx⟩ := dv3.at_ hj
        rw [List.getElem?_map] at hdx
        obtain ⟨⟨t, dk⟩, hxj, rfl⟩ := Option.map_eq_some_iff.mp hdx
        have okx := okS _ (List.mem_of_getElem? hxj)
        have hxx : DV g H3 x (.tup [.tup t, dk]) := hx
        obtain ⟨e, v1, v2, rfl, he, h1, h2⟩ := hxx.tup2
        obtain ⟨ct, ts, rfl, hct, ctl, rt⟩ := h1.tup_inv
        have okt : purs t = true := okx.1.1
        have okd : pur dk = true := okx.1.2.2
        have tlen : t.length + (m + 1) ≤ 4 := okx.2.1
        have fdk : formed (m + 1) dk = true := okx.2.2
        have nx : (S.take (j + 1)).flatMap ex1 = (S.take j).flatMap ex1 ++ ex1 (t, dk) := by
          rw [take_snoc hxj, List.flatMap_append]
          show _ ++ (ex1 (t, dk) ++ []) = _
          rw [List.append_nil]
        have lj := flat_take ex1 S j
        have lj1 := flat_take ex1 S (j + 1)
        rw [nx, List.length_append] at lj1
        -- what is added
        have fin : ∀ (us : List V) (H5 : Hp), Same H3 H5 → DVs g H5 us ((ex1 (t, dk)).map prD) → ∃ (zs' : List V) (a2' a3' : Option V), ([some v, some (.ref fb), some (.int (0 + (i : Int))), some (.ref fa), some (.ref ct), some v2, none, none, none] : L2.St) = [some v, some (.ref fb), some (.int (0 + (i : Int))), some (.ref fa), a2', a3', none, none, none] ∧
            (upd H5 fb (.lst (zs ++ us))) fa = some (.lst ys) ∧ DVs g (upd H5 fb (.lst (zs ++ us))) ys (S.map prD) ∧ (upd H5 fb (.lst (zs ++ us))) fb = some (.lst zs') ∧ DVs g (upd H5 fb (.lst (zs ++ us))) zs' (((S.take (j + 1)).flatMap ex1).map prD) ∧ Same H (upd H5 fb (.lst (zs ++ us))) := by
          intro us H5 s5 du
          have hB5 := s5 _ _ hB3
          have kt : Kt H5 (upd H5 fb (.lst (zs ++ us))) := Kt.put hB5
          have pU : purs ((ex1 (t, dk)).map prD) = true := purs_pr fun x hx => (okE x (List.mem_flatMap.mpr ⟨_, List.mem_of_getElem? hxj, hx⟩)).1
          refine ⟨zs ++ us, _, _, rfl, ?_, (dv3.keep (Kv.of s5)).keepP kt pS, upd_same, ?_, ?_⟩
          · rw [upd_ne ab]
            exact s5 _ _ hF3
          · rw [nx, List.map_append]
            exact ((dz3.keep (Kv.of s5)).keepP kt (pE j)).app (du.keepP kt pU)
          · exact Same.putN (s3.trans s5) fb0 fun b hb => upd_ne hb
        refine ⟨e, _, rfl, SqT.of he, rfl, _, _, rfl, _, _, rfl, rfl, ?_⟩
        obtain ⟨ty, hty, k1, _⟩ := h2.ty (K := K)
        refine ⟨_, rfl, _, _, _, _, _, rfl, .ty "str", hty, k1, _, rfl, ?_⟩
        rcases formed_cases fdk with ⟨s, rfl, hs⟩ | ⟨n, hn, ⟨l, rfl, l1, l2, all, nd⟩ | ⟨ii, z, rfl, i1, i2, hz⟩⟩
        · refine iteT ?_
          refine ⟨_, rfl, .inl ⟨rfl, _, SqL.of hB3⟩, _, rfl, _, rfl, (by show 2 ≤ sizeLine; decide), fun q hq => ?_⟩
          generalize hH4 : upd H3 q _ = H4
          obtain ⟨sq, eq⟩ := freshF hq hH4
          refine ⟨fb, zs, _, rfl, rfl, sq _ _ hB3, by rw [dz3.len, List.length_map, sizeLine_eq]; omega, ?_⟩
          exact fin [.ref q] H4 sq (.cons (.tup eq (by show 2 ≤ 1000; decide) (.cons ((DV.tup hct ctl rt).keep (Kv.of sq)) (.cons (h2.keep (Kv.of sq)) .nil))) .nil)
        · refine iteF ?_
          obtain ⟨b', vx, vy, rfl, hb, hx', hy⟩ := h2.tup2
          refine ⟨_, rfl, b', _, 0, vx, rfl, rfl, SqT.of hb, atI_nat (j := 0) rfl, g, .str "record", "row", rfl, hx', _, rfl, ?_⟩
          refine ifF (by decide +kernel) ?_
          obtain ⟨c, xs, rfl, hc, _, r⟩ := hy.tup_inv
          have okA : ∀ x ∈ exF t l, okL m x := ex_ok (x := (t, .tup [.str "record", .tup l])) okx
          have ll : (exF t l).length ≤ 400 := by
            have : ex1 (t, .tup [.str "record", .tup l]) = exF t l := rfl
            rw [this] at lj1
            omega
          refine ⟨_, rfl, .inl ⟨rfl, _, SqL.of hB3⟩, _, rfl, b', _, 1, .ref c, rfl, rfl, SqT.of hb, atI_nat (j := 1) rfl, c, rfl, ⟨_, SqT.of hc⟩, fun D hD => lc_tup (K := K) (a := c) (xs := xs)
            (fun q H' => ∃ us, H' D = some (.lst us) ∧ DVs g H' us ((exF t (l.take q)).map prD) ∧ Same H3 H') ⟨[], upd_same, .nil, same_new hD⟩ (fun q H' _ ⟨_, _, _, s⟩ => SqT.of (s _ _ hc)) ?_ ?_⟩
          · rintro q y H4 hq ⟨us, g1, g2, g3⟩
            obtain ⟨p, hpi, hy'⟩ := r.at_ hq
            obtain ⟨s, y, rfl, hs, hfy⟩ := pairF_of (all p (List.mem_of_getElem? hpi))
            obtain ⟨e4, w1, w2, rfl, he4, h3, h4⟩ := (hy'.keep (Kv.of g3)).tup2
            obtain ⟨rfl, _⟩ := h3.str_inv
            have ct4 := g3 _ _ hct
            have rt4 := rt.keep (Kv.of g3)
            refine ⟨e4, _, rfl, SqT.of he4, rfl, _, _, rfl, _, _, rfl, rfl, rfl, ?_⟩
            refine ⟨fun x H' => ∃ u, x = .ref u ∧ DV g H' (.ref u) (.tup (t ++ [.str s])) ∧ Same H4 H', ?_, ?_⟩
            · refine ⟨_, rfl, _, rfl, (by show 1 ≤ sizeLine; decide), fun u hu => ?_⟩
              generalize hH5 : upd H4 u _ = H5
              obtain ⟨su, eu⟩ := freshF hu hH5
              have sl : s.length ≤ 1000 := by have := (name_parts hs).2.1; omega
              refine ⟨ct, u, ts, [_], rfl, rfl, SqT.of (su _ _ ct4), SqT.of eu, by rw [rt.len, sizeLine_eq]; show t.length + 1 ≤ _; omega, fun z => ?_, fun _ z => (by cases z), fun _ _ w hw => ?_⟩
              · refine ⟨u, rfl, ?_, su⟩
                have : t = [] := by
                  have := rt.len
                  rw [z] at this
                  exact List.length_eq_zero_iff.mp this.symm
                rw [this]
                exact .tup eu (by show 1 ≤ 1000; decide) (.cons (.str sl) .nil)
              · generalize hH6 : upd H5 w _ = H6
                obtain ⟨sw, ew⟩ := freshF hw hH6
                exact ⟨w, rfl, .tup ew (by rw [List.length_append]; show t.length + 1 ≤ 1000; omega) ((rt4.keep (Kv.of (su.trans sw))).snoc (.str sl)), su.trans sw⟩
            rintro _ H5 ⟨u, rfl, hu, su⟩
            refine ⟨_, rfl, (by show 2 ≤ sizeLine; decide), fun w hw => ?_⟩
            generalize hH6 : upd H5 w _ = H6
            obtain ⟨sw, ew⟩ := freshF hw hH6
            have s6 := su.trans sw
            have hD6 := s6 _ _ g1
            have eq1 : exF t (l.take (q + 1)) = exF t (l.take q) ++ [(t ++ [.str s], y)] := by
              unfold exF
              rw [take_snoc hpi, List.map_append]
              rfl
            have kt : Kt H6 (upd H6 D (.lst (us ++ [.ref w]))) := Kt.put hD6
            have pq : ∀ q, purs ((exF t (l.take q)).map prD) = true := fun q => purs_pr fun x hx => by
              obtain ⟨p', hp', rfl⟩ := List.mem_map.mp hx
              exact (okA _ (List.mem_map.mpr ⟨p', List.mem_of_mem_take hp', rfl⟩)).1
            have p1 : pur (prD (t ++ [.str s], y)) = true := by
              have := pq (q + 1)
              rw [eq1, List.map_append, purs_all, List.all_append] at this
              simp only [Bool.and_eq_true] at this
              have := this.2
              simpa using this
            refine ⟨us, hD6, ?_, us ++ [.ref w], upd_same, ?_, ?_⟩
            · rw [g2.len, List.length_map, sizeLine_eq]
              unfold exF at ll ⊢
              rw [List.length_map] at ll
              rw [List.length_map, List.length_take]
              omega
            · rw [eq1, List.map_append]
              refine ((g2.keep (Kv.of s6)).keepP kt (pq q)).snoc (DV.keepP kt p1 (g := g) ?_)
              exact .tup ew (by show 2 ≤ 1000; decide) (.cons (hu.keep (Kv.of sw)) (.cons (h4.keep (Kv.of s6)) .nil))
            · intro b o eb
              rw [upd_ne (ne_of_none eb hD)]
              exact s6 _ _ (g3 _ _ eb)
          · rintro H4 ⟨us, g1, g2, g3⟩
            rw [r.len, List.take_length] at g2
            refine ⟨fb, D, zs, us, rfl, rfl, g3 _ _ hB3, g1, ?_, fin us H4 g3 g2⟩
            rw [dz3.len, g2.len, List.length_map, List.length_map, sizeLine_eq]
            omega
        · refine iteF ?_
          obtain ⟨b', vx, vy, vz, rfl, hb, hx', hy, hz'⟩ := h2.tup3
          obtain rfl := hy.int_inv
          refine ⟨_, rfl, b', _, 0, vx, rfl, rfl, SqT.of hb, atI_nat (j := 0) rfl, g, .str "row", "row", rfl, hx', _, rfl, ?_⟩
          refine ifT (by decide +kernel) ?_
          have okA : ∀ x ∈ exR t ii z, okL m x := ex_ok (x := (t, .tup [.str "row", .int ii, z])) okx
          have ll : (exR t ii z).length ≤ 400 := by
            have : ex1 (t, .tup [.str "row", .int ii, z]) = exR t ii z := rfl
            rw [this] at lj1
            omega
          refine ⟨_, rfl, .inl ⟨rfl, _, SqL.of hB3⟩, _, rfl, b', _, 1, _, rfl, rfl, SqT.of hb, atI_nat (j := 1) rfl, ii, rfl, by omega, by omega, fun D hD => lc_range (lo := 0) (n := ii.toNat)
            (fun q H' => ∃ us, H' D = some (.lst us) ∧ DVs g H' us (((List.range q).map (fun k => ((t ++ [.int ((k : Nat) : Int)], z) : PD))).map prD) ∧ Same H3 H') ⟨[], upd_same, .nil, same_new hD⟩ ?_ ?_⟩
          · rintro q H4 hq ⟨us, g1, g2, g3⟩
            refine ⟨rfl, ?_⟩
            have e0 : (0 : Int) + (q : Nat) = (q : Nat) := Int.zero_add _
            rw [e0]
            have ct4 := g3 _ _ hct
            have rt4 := rt.keep (Kv.of g3)
            refine ⟨fun x H' => ∃ u, x = .ref u ∧ DV g H' (.ref u) (.tup (t ++ [.int (q : Nat)])) ∧ Same H4 H', ?_, ?_⟩
            · refine ⟨_, rfl, _, rfl, (by show 1 ≤ sizeLine; decide), fun u hu => ?_⟩
              generalize hH5 : upd H4 u _ = H5
              obtain ⟨su, eu⟩ := freshF hu hH5
              refine ⟨ct, u, ts, [_], rfl, rfl, SqT.of (su _ _ ct4), SqT.of eu, by rw [rt.len, sizeLine_eq]; show t.length + 1 ≤ _; omega, fun z => ?_, fun _ z => (by cases z), fun _ _ w hw => ?_⟩
              · refine ⟨u, rfl, ?_, su⟩
                have : t = [] := by
                  have := rt.len
                  rw [z] at this
                  exact List.length_eq_zero_iff.mp this.symm
                rw [this]
                exact .tup eu (by show 1 ≤ 1000; decide) (.cons (.int _) .nil)
              · generalize hH6 : upd H5 w _ = H6
                obtain ⟨sw, ew⟩ := freshF hw hH6
                exact ⟨w, rfl, .tup ew (by rw [List.length_append]; show t.length + 1 ≤ 1000; omega) ((rt4.keep (Kv.of (su.trans sw))).snoc (.int _)), su.trans sw⟩
            rintro _ H5 ⟨u, rfl, hu, su⟩
            have hb5 := su _ _ (g3 _ _ hb)
            refine ⟨_, rfl, b', _, 2, vz, rfl, rfl, SqT.of hb5, atI_nat (j := 2) rfl, (by show 2 ≤ sizeLine; decide), fun w hw => ?_⟩
            generalize hH6 : upd H5 w _ = H6
            obtain ⟨sw, ew⟩ := freshF hw hH6
            have s6 := su.trans sw
            have hD6 := s6 _ _ g1
            have kt : Kt H6 (upd H6 D (.lst (us ++ [.ref w]))) := Kt.put hD6
            have pq : ∀ q, q ≤ ii.toNat → purs (((List.range q).map (fun k => ((t ++ [.int ((k : Nat) : Int)], z) : PD))).map prD) = true := fun q hq => purs_pr fun x hx => by
              obtain ⟨p', hp', rfl⟩ := List.mem_map.mp hx
              exact (okA _ (List.mem_map.mpr ⟨p', List.mem_range.mpr (by have := List.mem_range.mp hp'; omega), rfl⟩)).1
            have p1 : pur (prD (t ++ [.int (q : Nat)], z)) = true := okP_pur (okA _ (List.mem_map.mpr ⟨q, List.mem_range.mpr hq, rfl⟩)).1
            refine ⟨us, hD6, ?_, us ++ [.ref w], upd_same, ?_, ?_⟩
            · rw [g2.len, List.length_map, sizeLine_eq]
              unfold exR at ll
              rw [List.length_map, List.length_range] at ll
              rw [List.length_map, List.length_range]
              omega
            · rw [List.range_succ, List.map_append, List.map_append]
              refine ((g2.keep (Kv.of s6)).keepP kt (pq q (by omega))).snoc (DV.keepP kt p1 (g := g) ?_)
              exact .tup ew (by show 2 ≤ 1000; decide) (.cons (hu.keep (Kv.of sw)) (.cons ((hz'.keep (Kv.of g3)).keep (Kv.of s6)) .nil))
            · intro b o eb
              rw [upd_ne (ne_of_none eb hD)]
              exact s6 _ _ (g3 _ _ eb)
          · rintro H4 ⟨us, g1, g2, g3⟩
            refine ⟨fb, D, zs, us, rfl, rfl, g3 _ _ hB3, g1, ?_, fin us H4 g3 g2⟩
            unfold exR at ll
            rw [List.length_map] at ll
            rw [dz3.len, g2.len, List.length_map, List.length_map, List.length_map, sizeLine_eq]
            omega
      · rintro σ H3 ⟨zs, a2, a3, rfl, hF3, dv3, hB3, dz3, s3⟩
        have e9 : S.take ys.length = S := by
          rw [dv.len, List.length_map, List.take_length]
        rw [e9] at dz3
        exact ⟨fb, zs, S.flatMap ex1, _, _, _, _, rfl, fb0, hB3, dz3, okE, hflat.trans fl, s3⟩
    · rintro σ H1 ⟨fa, ys, S, lv, a1, a2, a3, rfl, hfa0, hF, dv, okS, fl, s1⟩
      have fl : S.flatMap (TNx 0) = TN 4 d := fl
      have e9 : S.map (fun x => Dt.tup x.1) = (TN 4 d).map Dt.tup := by rw [← fl, flat0]
      have lS : S.length ≤ 400 := by
        have := congrArg List.length e9
        rw [List.length_map, List.length_map] at this
        omega
      refine ⟨_, rfl, fa, rfl, ⟨_, SqL.of hF⟩, fun D hD => lc_list (K := K) (a := fa) (xs := ys)
        (fun q H' => ∃ us, H' D = some (.lst us) ∧ DVs g H' us ((S.take q).map (fun x => Dt.tup x.1)) ∧ Same H1 H') ⟨[], upd_same, .nil, same_new hD⟩ (fun q H' _ ⟨_, _, _, s⟩ => SqL.of (s _ _ hF)) ?_ ?_⟩
      · rintro q y H2 hq ⟨us, g1, g2, g3⟩
        obtain ⟨dx, hdx, hx⟩ := dv.at_ hq
        rw [List.getElem?_map] at hdx
        obtain ⟨⟨t, dk⟩, hxj, rfl⟩ := Option.map_eq_some_iff.mp hdx
        have okx := okS _ (List.mem_of_getElem? hxj)
        have hxx : DV g H1 y (.tup [.tup t, dk]) := hx
        obtain ⟨e, v1, v2, rfl, he, h1, h2⟩ := (hxx.keep (Kv.of g3)).tup2
        refine ⟨e, _, rfl, SqT.of he, rfl, _, _, rfl, _, _, rfl, rfl, rfl, ?_⟩
        have kt : Kt H2 (upd H2 D (.lst (us ++ [v1]))) := Kt.put g1
        have pS : ∀ q, purs ((S.take q).map (fun x => Dt.tup x.1)) = true := fun q => by
          rw [purs_all, List.all_eq_true]
          intro d' hd'
          obtain ⟨x, hx, rfl⟩ := List.mem_map.mp hd'
          exact (okS x (List.mem_of_mem_take hx)).1.1
        refine ⟨_, rfl, us, g1, ?_, us ++ [v1], upd_same, ?_, ?_⟩
        · rw [g2.len, List.length_map, List.length_take, sizeLine_eq]
          omega
        · rw [take_snoc hxj, List.map_append]
          exact (g2.keepP kt (pS q)).snoc (h1.keepP kt (show purs t = true from okx.1.1))
        · intro b o eb
          rw [upd_ne (ne_of_none eb hD)]
          exact g3 _ _ eb
      · rintro H2 ⟨us, g1, g2, g3⟩
        have e8 : S.take ys.length = S := by
          rw [dv.len, List.length_map, List.take_length]
        rw [e8, e9] at g2
        exact k D us H2 (s1.free hD) g1 g2 (s1.trans g3)
end
end K1

set_option Elab.async false
set_option linter.all false
set_option pp.maxSteps 700
set_option maxRecDepth 100000
set_option maxHeartbeats 4000000
namespace K1
open PySem PySem.Spec PyProof.Rows L2
open TL (tl)
abbrev sNkd : Stmt := top 48
abbrev sOth : Stmt := top 49
/-! ### values as data to be compared -/
mutual
def toPy : Dt → PyData
  | .non => .none
  | .bl b => .bool b
  | .int i => .int i
  | .str s => .str s
  | .lst l => .list (toPys l)
  | .tup l => .tuple (toPys l)
  | .dic => .dict []
def toPys : List Dt → List PyData
  | [] => []
  | d :: l => toPy d :: toPys l
end
theorem toPys_map {l : List Dt} : toPys l = l.map toPy := by
  induction l with
  | nil => rfl
  | cons x l ih => rw [List.map_cons, ← ih]; rfl
mutual
theorem dv_dp {K : PySem.W.Frag} {g : Addr} {H : Hp} : ∀ {v : V} {d : Dt}, pur d = true → DV g H v d → Dp K H v (toPy d)
  | _, _, _, .non => .non
  | _, _, _, .bl b => .bl b
  | _, _, _, .int i => .int i
  | _, _, _, .str h => .str _
  | _, _, p, .lst e n h r => by cases p
  | _, _, p, .tup e h r => .tup (SqT.of e) (dvs_dp (by exact p) r)
  | _, _, p, .dic e => by cases p
theorem dvs_dp {K : PySem.W.Frag} {g : Addr} {H : Hp} : ∀ {v : List V} {d : List Dt}, purs d = true → DVs g H v d → DpAll K H v (toPys d)
  | _, _, _, .nil => .nil
  | _, _, p, .cons h r => by
    have p : (pur _ && purs _) = true := p
    rw [Bool.and_eq_true] at p
    exact .cons (dv_dp p.1 h) (dvs_dp p.2 r)
end
mutual
theorem pur_lay : ∀ {d : Dt}, pur d = true → (toPy d).canLay0 = true ∧ (toPy d).depth = dep d
  | .non, _ => ⟨rfl, rfl⟩
  | .bl _, _ => ⟨rfl, rfl⟩
  | .int _, _ => ⟨rfl, rfl⟩
  | .str s, p => ⟨p, rfl⟩
  | .lst _, p => by cases p
  | .tup l, p => by
    obtain ⟨a, b⟩ := purs_lay (l := l) p
    refine ⟨a, ?_⟩
    show PyData.depthAll (toPys l) + 1 = deps l + 1
    rw [b]
  | .dic, p => by cases p
theorem purs_lay : ∀ {l : List Dt}, purs l = true → PyData.canLayAll0 (toPys l) = true ∧ PyData.depthAll (toPys l) = deps l
  | [], _ => ⟨rfl, rfl⟩
  | d :: l, p => by
    have p : (pur d && purs l) = true := p
    rw [Bool.and_eq_true] at p
    obtain ⟨a, b⟩ := pur_lay p.1
    obtain ⟨c, e⟩ := purs_lay p.2
    refine ⟨?_, ?_⟩
    · show ((toPy d).canLay0 && PyData.canLayAll0 (toPys l)) = true
      rw [a, c]
      rfl
    · show max (toPy d).depth (PyData.depthAll (toPys l)) = max (dep d) (deps l)
      rw [b, e]
end
theorem shaped_of {d : Dt} (p : pur d = true) (h : dep d ≤ 64) : SeqAt.shaped (toPy d) = true := by
  obtain ⟨a, b⟩ := pur_lay p
  unfold SeqAt.shaped
  rw [a, b, decide_eq_true h]
  rfl
theorem shaped_lst {l : List Dt} (p : purs l = true) (h : deps l ≤ 63) : SeqAt.shaped (.list (toPys l)) = true := by
  obtain ⟨a, b⟩ := purs_lay p
  unfold SeqAt.shaped
  show (PyData.canLayAll0 (toPys l) && decide (PyData.depthAll (toPys l) + 1 ≤ 64)) = true
  rw [a, b, decide_eq_true (by omega)]
  rfl
theorem eqv_self {d : Dt} (p : pur d = true) : PyData.eqv (toPy d) (toPy d) = true := PySem.SeqAt.eqv_refl _ (pur_lay p).1
theorem eqv_lst {l : List Dt} (p : purs l = true) : PyData.eqv (.list (toPys l)) (.list (toPys l)) = true := PySem.SeqAt.eqv_refl _ (purs_lay p).1
theorem formed_dep : ∀ (n : Nat) (d : Dt), formed n d = true → dep d ≤ 3 * n
  | n, d, h => by
    rcases formed_cases h with ⟨s, rfl, _⟩ | ⟨m, rfl, ⟨l, rfl, h1, h2, h3, _⟩ | ⟨i, z, rfl, h1, h2, h3⟩⟩
    · exact Nat.zero_le _
    · have : deps l ≤ 3 * (m + 1) + 1 := deps_le fun p hp => by
        obtain ⟨s, y, rfl, _, hy⟩ := pairF_of (h3 p hp)
        have := formed_dep (m + 1) _ hy
        show max 0 (max (dep y) 0) + 1 ≤ _
        omega
      show max 0 (max (deps l + 1) 0) + 1 ≤ _
      omega
    · have := formed_dep (m + 1) _ h3
      show max 0 (max 0 (max (dep z) 0)) + 1 ≤ _
      omega
  termination_by n => n
  decreasing_by all_goals omega
def isStep : Dt → Bool
  | .int _ => true
  | .str _ => true
  | _ => false
theorem TN_steps : ∀ (n : Nat) (d : Dt), formed n d = true → ∀ t ∈ TN n d, ∀ s ∈ t, isStep s = true
  | n, d, h, t, ht, s, hs => by
    rcases formed_cases h with ⟨s, rfl, _⟩ | ⟨m, rfl, ⟨l, rfl, h1, h2, h3, _⟩ | ⟨i, z, rfl, h1, h2, h3⟩⟩
    · rw [TN_str] at ht
      rw [List.mem_singleton.mp ht] at hs
      cases hs
    · rw [TN_two] at ht
      obtain ⟨p, hp, ht⟩ := List.mem_flatMap.mp (show t ∈ l.flatMap _ from ht)
      obtain ⟨t', ht', rfl⟩ := List.mem_map.mp ht
      rcases List.mem_cons.mp hs with rfl | hs
      · rfl
      · exact TN_steps (m + 1) _ (pair_snd (h3 p hp)).1 t' ht' s hs
    · rw [TN_two] at ht
      obtain ⟨p, hp, ht⟩ := List.mem_flatMap.mp (show t ∈ (List.range i.toNat).flatMap _ from ht)
      obtain ⟨t', ht', rfl⟩ := List.mem_map.mp ht
      rcases List.mem_cons.mp hs with rfl | hs
      · rfl
      · exact TN_steps (m + 1) _ h3 t' ht' s hs
  termination_by n => n
  decreasing_by all_goals omega
theorem step_eq {a b : Dt} (ha : isStep a = true) (hb : isStep b = true) : PyData.eqv (toPy a) (toPy b) = true → a = b := by
  intro e
  cases a with
  | int i =>
    cases b with
    | int j =>
      have e : (i == j) = true := e
      rw [eq_of_beq e]
    | str _ => cases e
    | _ => cases hb
  | str i =>
    cases b with
    | str j =>
      have e : (i == j) = true := e
      rw [eq_of_beq e]
    | int _ => cases e
    | _ => cases hb
  | _ => cases ha
theorem steps_eq : ∀ {a b : List Dt}, (∀ s ∈ a, isStep s = true) → (∀ s ∈ b, isStep s = true) → PyData.eqvAll (toPys a) (toPys b) = true → a = b
  | [], [], _, _, _ => rfl
  | [], _ :: _, _, _, h => by cases h
  | _ :: _, [], _, _, h => by cases h
  | x :: a, y :: b, ha, hb, h => by
    have h : (PyData.eqv (toPy x) (toPy y) && PyData.eqvAll (toPys a) (toPys b)) = true := h
    rw [Bool.and_eq_true] at h
    rw [step_eq (ha x List.mem_cons_self) (hb y List.mem_cons_self) h.1, steps_eq (fun s hs => ha s (List.mem_cons_of_mem _ hs)) (fun s hs => hb s (List.mem_cons_of_mem _ hs)) h.2]
def okQ (st : Dt) (p : Dt) : Bool := match st with
  | .str s' => decide (nmOf p = s')
  | _ => false
theorem not_non {n : Nat} {g : Addr} {H : Hp} {v : V} {d : Dt} (hf : formed n d = true) (h : DV g H v d) : v ≠ .non := by
  intro e
  subst e
  cases h
  rw [formed_other rfl rfl] at hf
  cases hf
/-- what the law's walk tells -/
def spLat : Sp := fun vs H Q _ => ∃ (n : Nat) (g : Addr) (v u : V) (d : Dt) (l : List Dt), vs = [v, u] ∧ DV g H v d ∧ DV g H u (.tup l) ∧ pur d = true ∧ formed n d = true ∧ n ≤ 4 ∧
  ((WK n d l = none ∧ ∀ H', Same H H' → Q .non H') ∨ ∃ y a, WK n d l = some (y, a) ∧ ∀ v' H', DV g H' v' y → Same H H' → Q v' H')
theorem FK_head {w : Dt → Int} {s : Str} : ∀ {l : List Dt} {a : Int}, (FK w l s a).map (·.1) = ((l.filter (fun p => decide (nmOf p = s))).map sndD).head?
  | [], a => rfl
  | p :: r, a => by
    have e : FK w (p :: r) s a = if nmOf p = s then some (sndD p, a) else FK w r s (a + w (sndD p)) := rfl
    rw [e, List.filter_cons]
    by_cases h : nmOf p = s
    · rw [if_pos h, decide_eq_true h]
      rfl
    · rw [if_neg h, decide_eq_false h]
      exact FK_head
theorem filter_no {fl : List Dt} : fl.filter (fun _ => false) = [] := List.filter_eq_nil_iff.mpr fun _ _ h => by cases h
theorem okQ_head {m : Nat} {fl : List Dt} {st : Dt} : (ST (m + 2) (.tup [.str "record", .tup fl]) st).map (·.1) = ((fl.filter (okQ st)).map sndD).head? := by
  cases st with
  | str s => exact FK_head
  | _ =>
    show none = ((fl.filter (fun _ => false)).map sndD).head?
    rw [filter_no]
    rfl
theorem pur_sub {n : Nat} {d s z : Dt} {a : Int} (hp : pur d = true) (hf : formed n d = true) (h : ST n d s = some (z, a)) : pur z = true := by
  rcases formed_cases hf with ⟨s', rfl, _⟩ | ⟨j, rfl, ⟨l, rfl, l1, l2, all, nd⟩ | ⟨i, z', rfl, i1, i2, hz⟩⟩
  · rw [ST_str] at h
    cases h
  · have hpl : purs l = true := by
      have hp : (PyData.strOk "record" && (purs l && true)) = true := hp
      rw [Bool.and_eq_true, Bool.and_eq_true] at hp
      exact hp.2.1
    cases s with
    | str s' =>
      obtain ⟨u1, q, u2, e0, e1, e2, _⟩ := FK_some (show FK (wordsN (j + 1)) l s' 0 = some (z, a) from h)
      have hq : q ∈ l := by rw [e0]; exact List.mem_append_right _ List.mem_cons_self
      obtain ⟨nm, y, rfl, _, _⟩ := pairF_of (all q hq)
      have q2 : (PyData.strOk nm && (pur y && true)) = true := purs_mem hpl hq
      rw [Bool.and_eq_true, Bool.and_eq_true] at q2
      rw [← e2]
      exact q2.2.1
    | _ => cases h
  · have hp : (PyData.strOk "row" && (true && (pur z' && true))) = true := hp
    rw [Bool.and_eq_true, Bool.and_eq_true, Bool.and_eq_true] at hp
    cases s with
    | int k =>
      have h : (if 0 ≤ k ∧ k < i then some (z', k * wordsN (j + 1) z') else none) = some (z, a) := h
      by_cases hk : 0 ≤ k ∧ k < i
      · rw [if_pos hk] at h
        injection h with h
        injection h with h1 _
        rw [← h1]
        exact hp.2.2.1
      · rw [if_neg hk] at h
        cases h
    | _ => cases h
section
variable {P : Program} {w : World} {K : PySem.W.Frag} {mg : Str → Option Value} {base : Heap}
theorem scLat : FnScope ["kind", "trail", "step", "right", "some", "name", "part"] ["kind", "trail"] (defScope sLat) := ⟨rfl, rfl, rfl, by decide +kernel, rfl, by decide +kernel, by decide +kernel⟩
theorem ok_lat {f : Addr} {fd : FuncData} (F : Fun K "_law_at" "_law_at" sLat f fd) (T : MgA mg) : FnOk P w K mg base CX0 1 f fd ["kind", "trail"] spLat := by
  refine F.ok scLat (fun vs H Q E h => ?_) (fun cdv A outer s H vs Q E hr h => ?_)
  · obtain ⟨_, g, v, u, d, l, rfl, _⟩ := h
    rfl
  · obtain ⟨n, g, v, u, d, l, rfl, hd, hu, hp, hf, n4, k⟩ := h
    obtain ⟨b, xs, rfl, hb, hl, r⟩ := hu.tup_inv
    refine ⟨_, (pss_cons (ps_for PassesOwn.never rfl (pi_tup (pv 1)) (pg_name (i := 2) scLat.nd rfl (Or.inr rfl))
          (pss_cons (ps_if (pt_val (pe_callB call_isi (by rfl) T.isi (by decide +kernel) (pa_cons (pv 0) (pa_cons (pe_bltn (v := .ty "str") (by rfl) T.str boot_str rfl) pa_nil)))) (pss_one (ps_ret pe_non)) pss_nil)
          (pss_mid (ps_if (pt_cmpR (op_eqS hr.units) (pe_ix ix_tup (pv 0) pe_int (fun _ _ => rfl)) pe_str (nomark _)) (pss_cons (ps_set (i := 3) scLat.nd rfl (Or.inl rfl) (pe_and (pe_callB call_isi (by rfl) T.isi (by decide +kernel) (pa_cons (pv 2) (pa_cons (pe_bltn (v := .ty "int") (by rfl) T.int boot_int rfl) pa_nil))) (pe_and (pe_not (pe_callB call_isi (by rfl) T.isi (by decide +kernel) (pa_cons (pv 2) (pa_cons (pe_bltn (v := .ty "bool") (by rfl) T.bol boot_bool rfl) pa_nil)))) (pe_one (pe_chain op_le op_lt pe_int (pv 2) (pe_ix ix_tup (pv 0) pe_int (fun _ _ => rfl)))))))
              (pss_one (ps_set (i := 0) scLat.nd rfl (Or.inl rfl) (pe_ifExp (pt_val (pv 3)) (pe_ix ix_tup (pv 0) pe_int (fun _ _ => rfl)) pe_non)))) (pss_cons (ps_setLc (i := 4) (own := [("name", 5), ("part", 6)]) (g := gTup K 2 (gCons (gName 5) (gCons (gName 6) gNil))) (by rfl) scLat.nd rfl rfl (sw_true rfl rfl rfl (by decide +kernel)) (pi_tup (pe_ix ix_tup (pv 0) pe_int (fun _ _ => rfl))) (blkOk_by (own := [("name", 5), ("part", 6)]) (N := ["kind", "trail", "step", "right", "some", "name", "part"]) (sc := defScope sLat) (by decide +kernel)) (fun _ _ _ _ _ => (pg_tup (by rfl) (pgs_cons (pg_name (i := 5) scLat.nd rfl (Or.inl rfl)) (pgs_cons (pg_name (i := 6) scLat.nd rfl (Or.inl rfl)) pgs_nil)))) (fun _ _ _ _ _ => (pts_one (PW.pt (pw_and (pt_val (pe_callB (show CallR _ _ (rIsi K) from call_isi) (by rfl) T.isi (by decide +kernel) (pa_cons (pv 2) (pa_cons (pe_bltn (v := .ty "str") (by rfl) T.str boot_str rfl) pa_nil)))) (pw_and1 (pt_cmpR op_eq (pv 5) (pv 2) (nomark _))))))) (fun _ _ _ _ _ => (pv 6)))
              (pss_one (ps_set (i := 0) scLat.nd rfl (Or.inl rfl) (pe_ifExp (pt_cmpR (op_neD hr.units) (pv 4) (pe_lst pa_nil) (nomark _)) (pe_ix ix_list (pv 4) pe_int (fun _ _ => rfl)) pe_non)))))
          (pss_one (ps_if (pt_cmpR op_isN (pv 0) pe_non (nomark _)) (pss_one (ps_ret pe_non)) pss_nil)))))
      (pss_one (ps_ret (pv 0)))), ?_⟩
    refine ⟨_, rfl, b, rfl, ⟨_, SqT.of hb⟩, for_tup (K := K) (a := b) (xs := xs)
      (fun i σ H' => ∃ (vk : V) (y : Dt) (a : Int) (sv rv ov : Option V), σ = [some vk, some (.ref b), sv, rv, ov, none, none] ∧ DV g H' vk y ∧ pur y = true ∧ WK n d (l.take i) = some (y, a) ∧ formed (n - i) y = true ∧ Same H H')
      ⟨v, d, 0, none, none, none, rfl, hd, hp, WK_nil _ _, hf, Same.refl H⟩ (fun i σ H' _ ⟨_, _, _, _, _, _, _, _, _, _, _, s2⟩ => SqT.of (s2 _ _ hb)) ?_ ?_⟩
    · rintro i x σ H1 hi ⟨vk, y, a, sv, rv, ov, rfl, hy, py, hw, fy, s1⟩
      obtain ⟨st, hst, hx⟩ := r.at_ hi
      have hx1 := hx.keep (Kv.of s1)
      have il : i < l.length := (List.getElem?_eq_some_iff.mp hst).1
      have e1 := WK_snoc n d (l.take i) st
      have e2 : (l.take i).length = i := by rw [List.length_take]; omega
      rw [← take_snoc hst, hw, e2] at e1
      have e1 : WK n d (l.take (i + 1)) = (ST (n - i) y st).map fun u => (u.1, a + u.2) := e1
      -- nothing there
      have none_ : ST (n - i) y st = none → ∀ H2, Same H1 H2 → Q .non H2 := fun hs H2 s2 => by
        rw [hs] at e1
        have e3 : WK n d l = none := by
          have := WK_none (l.drop (i + 1)) e1
          rw [List.take_append_drop] at this
          exact this
        rcases k with ⟨_, k⟩ | ⟨y', a', h, _⟩
        · exact k H2 (s1.trans s2)
        · rw [e3] at h
          cases h
      have some_ : ∀ z c, ST (n - i) y st = some (z, c) → WK n d (l.take (i + 1)) = some (z, a + c) ∧ formed (n - (i + 1)) z = true ∧ pur z = true := fun z c hs => by
        rw [hs] at e1
        have q := ST_formed fy hs
        have e3 : n - i - 1 = n - (i + 1) := by omega
        rw [e3] at q
        exact ⟨e1, q, pur_sub py fy hs⟩
      obtain ⟨ty, hty, k1, _⟩ := hy.ty (K := K)
      refine ⟨_, rfl, _, _, _, _, _, rfl, .ty "str", hty, k1, _, rfl, ?_⟩
      cases hstr : isStr y with
      | true =>
        refine iteT (none_ ?_ H1 (Same.refl H1))
        obtain ⟨s, rfl⟩ : ∃ s, y = .str s := by
          cases y with
          | str s => exact ⟨s, rfl⟩
          | _ => cases hstr
        exact ST_str _ _ _
      | false =>
        refine iteF ⟨fun σ' H' => ∃ (vk' : V) (rv' ov' : Option V), σ' = [some vk', some (.ref b), some x, rv', ov', none, none] ∧ Same H1 H' ∧ ((ST (n - i) y st = none ∧ vk' = .non) ∨ ∃ z c, ST (n - i) y st = some (z, c) ∧ DV g H' vk' z ∧ vk' ≠ .non), ?_, ?_⟩
        · rcases formed_cases fy with ⟨s, rfl, hs⟩ | ⟨m, hm, ⟨fl, rfl, l1, l2, all, nd⟩ | ⟨ii, z, rfl, i1, i2, hz⟩⟩
          · cases hstr
          · obtain ⟨b', vx, vy, rfl, hb', hx', hy'⟩ := hy.tup2
            refine ⟨_, rfl, b', _, 0, vx, rfl, rfl, SqT.of hb', atI_nat (j := 0) rfl, g, .str "record", "row", rfl, hx', _, rfl, ?_⟩
            refine ifF (by decide +kernel) ?_
            obtain ⟨c, fs, rfl, hc, _, rf⟩ := hy'.tup_inv
            have hpl : purs fl = true := by
              have hp : (PyData.strOk "record" && (purs fl && true)) = true := py
              rw [Bool.and_eq_true, Bool.and_eq_true] at hp
              exact hp.2.1
            have psub : ∀ q ∈ fl, pur (sndD q) = true := fun q hq => by
              obtain ⟨nm, y, rfl, _, _⟩ := pairF_of (all q hq)
              have q2 : (PyData.strOk nm && (pur y && true)) = true := purs_mem hpl hq
              rw [Bool.and_eq_true, Bool.and_eq_true] at q2
              exact q2.2.1
            rw [hm]
            have head := okQ_head (m := m) (fl := fl) (st := st)
            refine ⟨_, rfl, b', _, 1, .ref c, rfl, rfl, SqT.of hb', atI_nat (j := 1) rfl, c, rfl, ⟨_, SqT.of hc⟩, fun D hD => lc_tup (K := K) (a := c) (xs := fs)
              (fun q H' => ∃ us, H' D = some (.lst us) ∧ DVs g H' us (((fl.take q).filter (okQ st)).map sndD) ∧ Same H1 H') ⟨[], upd_same, .nil, same_new hD⟩ (fun q H' _ ⟨_, _, _, s⟩ => SqT.of (s _ _ hc)) ?_ ?_⟩
            · rintro q w H2 hq ⟨us, g1, g2, g3⟩
              obtain ⟨p, hpi, hw'⟩ := rf.at_ hq
              have hqf : q < fl.length := (List.getElem?_eq_some_iff.mp hpi).1
              obtain ⟨nm, z, rfl, hs, hfz⟩ := pairF_of (all p (List.mem_of_getElem? hpi))
              obtain ⟨e4, w1, w2, rfl, he4, h3, h4⟩ := (hw'.keep (Kv.of g3)).tup2
              obtain ⟨rfl, _⟩ := h3.str_inv
              have stp : (fl.take (q + 1)).filter (okQ st) = (fl.take q).filter (okQ st) ++ (if okQ st (.tup [.str nm, z]) = true then [.tup [.str nm, z]] else []) := by
                rw [take_snoc hpi, List.filter_append, List.filter_cons, List.filter_nil]
              have skip : okQ st (.tup [.str nm, z]) = false → ∃ us, H2 D = some (.lst us) ∧ DVs g H2 us (((fl.take (q + 1)).filter (okQ st)).map sndD) ∧ Same H1 H2 := fun e => by
                rw [stp, e, if_neg Bool.false_ne_true, List.append_nil]
                exact ⟨us, g1, g2, g3⟩
              have hx2 := hx1.keep (Kv.of g3)
              obtain ⟨tx, htx, kx1, _⟩ := hx2.ty (K := K)
              refine ⟨e4, _, rfl, SqT.of he4, rfl, _, _, rfl, _, _, rfl, rfl, rfl, ?_⟩
              refine ⟨_, rfl, _, _, _, _, _, rfl, .ty "str", htx, kx1, _, rfl, ?_⟩
              cases st with
              | str s' =>
                obtain ⟨rfl, _⟩ := hx2.str_inv
                refine iteT ⟨_, rfl, _, rfl, rfl, _, rfl, ?_⟩
                by_cases hn : nm = s'
                · refine ifT (decide_eq_true (by rw [hn])) ?_
                  have okz : okQ (.str s') (.tup [.str nm, z]) = true := decide_eq_true hn
                  rw [okz, if_pos rfl] at stp
                  have hz2 : pur z = true := psub _ (List.mem_of_getElem? hpi)
                  have kt : Kt H2 (upd H2 D (.lst (us ++ [w2]))) := Kt.put g1
                  have pF : ∀ q, purs (((fl.take q).filter (okQ (.str s'))).map sndD) = true := fun q => by
                    rw [purs_all, List.all_eq_true]
                    intro d' hd'
                    obtain ⟨x, hx, rfl⟩ := List.mem_map.mp hd'
                    exact psub x (List.mem_of_mem_take (List.mem_filter.mp hx).1)
                  refine ⟨_, rfl, us, g1, ?_, us ++ [w2], upd_same, ?_, ?_⟩
                  · have h7 := g2.len
                    have h8 := List.length_filter_le (okQ (.str s')) (fl.take q)
                    rw [List.length_map] at h7
                    rw [List.length_take] at h8
                    rw [h7, sizeLine_eq]
                    omega
                  · rw [stp, List.map_append]
                    exact (g2.keepP kt (pF q)).snoc (h4.keepP kt hz2)
                  · intro b o eb
                    rw [upd_ne (ne_of_none eb hD)]
                    exact g3 _ _ eb
                · refine ifF (decide_eq_false (fun z => hn (V.str.inj z))) ?_
                  exact skip (decide_eq_false hn)
              | int _ => exact iteF (skip rfl)
              | bl _ => exact iteF (skip rfl)
              | non => exact iteF (skip rfl)
              | lst _ => exact iteF (skip rfl)
              | tup _ => exact iteF (skip rfl)
              | dic => exact iteF (skip rfl)
            · rintro H2 ⟨us, g1, g2, g3⟩
              rw [rf.len, List.take_length] at g2
              have pF : purs ((fl.filter (okQ st)).map sndD) = true := by
                rw [purs_all, List.all_eq_true]
                intro d' hd'
                obtain ⟨x, hx, rfl⟩ := List.mem_map.mp hd'
                exact psub x (List.mem_filter.mp hx).1
              have dF : deps ((fl.filter (okQ st)).map sndD) ≤ 63 := deps_le fun d' hd' => by
                obtain ⟨x, hx, rfl⟩ := List.mem_map.mp hd'
                have := formed_dep _ _ (pair_snd (all x (List.mem_filter.mp hx).1)).1
                omega
              refine ⟨_, rfl, Nat.zero_le _, fun e he => ?_⟩
              generalize hH3 : upd H2 e _ = H3
              obtain ⟨se, ee⟩ := freshF he hH3
              refine ⟨_, .list [], .lst (SqL.of (se _ _ g1)) (dvs_dp pF (g2.keep (Kv.of se))), .lst (SqL.of ee) .nil, shaped_lst pF dF, by decide +kernel, _, rfl, ?_⟩
              have fF : ∀ z ∈ (fl.filter (okQ st)).map sndD, formed (m + 1) z = true := fun z hz => by
                obtain ⟨x, hx, rfl⟩ := List.mem_map.mp hz
                exact (pair_snd (all x (List.mem_filter.mp hx).1)).1
              generalize (fl.filter (okQ st)).map sndD = F at g2 head fF
              cases g2 with
              | nil =>
                refine ifF rfl ?_
                have hs : ST (m + 2) (.tup [.str "record", .tup fl]) st = none := by
                  cases hs : ST (m + 2) (.tup [.str "record", .tup fl]) st with
                  | none => rfl
                  | some q =>
                    rw [hs] at head
                    cases head
                exact ⟨_, _, _, rfl, g3.trans se, .inl ⟨hs, rfl⟩⟩
              | @cons vz vr dz dr hvz hr2 =>
                refine ifT rfl ?_
                refine ⟨_, rfl, D, _, 0, vz, rfl, rfl, SqL.of (se _ _ g1), atI_nat (j := 0) rfl, ?_⟩
                refine ⟨_, _, _, rfl, g3.trans se, .inr ?_⟩
                cases hs : ST (m + 2) (.tup [.str "record", .tup fl]) st with
                | none => rw [hs] at head; cases head
                | some q =>
                  obtain ⟨z, c⟩ := q
                  rw [hs] at head
                  have ez : z = dz := Option.some.inj head
                  refine ⟨z, c, rfl, ?_, ?_⟩
                  · rw [ez]
                    exact hvz.keep (Kv.of se)
                  · exact not_non (fF dz List.mem_cons_self) hvz
          · obtain ⟨b', vx, vy, vz, rfl, hb', hx', hy', hz'⟩ := hy.tup3
            obtain rfl := hy'.int_inv
            refine ⟨_, rfl, b', _, 0, vx, rfl, rfl, SqT.of hb', atI_nat (j := 0) rfl, g, .str "row", "row", rfl, hx', _, rfl, ?_⟩
            refine ifT (by decide +kernel) ?_
            rw [hm]
            obtain ⟨tx, htx, _, _, kx3, kx4⟩ := hx1.ty (K := K)
            refine ⟨_, rfl, _, _, _, _, _, rfl, .ty "int", htx, kx4, _, rfl, ?_⟩
            have no : ∀ rv', ST (m + 2) (.tup [.str "row", .int ii, z]) st = none → ∃ (vk' : V) (rv'' ov' : Option V), ([some .non, some (.ref b), some x, rv', ov, none, none] : L2.St) = [some vk', some (.ref b), some x, rv'', ov', none, none] ∧ Same H1 H1 ∧ ((ST (m + 2) (.tup [.str "row", .int ii, z]) st = none ∧ vk' = .non) ∨ ∃ z' c, ST (m + 2) (.tup [.str "row", .int ii, z]) st = some (z', c) ∧ DV g H1 vk' z' ∧ vk' ≠ .non) := fun rv' e => ⟨_, _, _, rfl, Same.refl _, .inl ⟨e, rfl⟩⟩
            cases st with
            | int c =>
              obtain rfl := hx1.int_inv
              have e0 : ST (m + 2) (.tup [.str "row", .int ii, z]) (.int c) = if 0 ≤ c ∧ c < ii then some (z, c * wordsN (m + 1) z) else none := rfl
              refine iteT ⟨_, rfl, _, _, _, _, _, rfl, .ty "bool", htx, kx3, _, rfl, _, rfl, iteT ?_⟩
              refine ⟨_, rfl, _, _, rfl, rfl, _, rfl, ?_⟩
              by_cases h0 : 0 ≤ c
              · refine ifT (decide_eq_true h0) ?_
                refine ⟨_, rfl, b', _, 1, _, rfl, rfl, SqT.of hb', atI_nat (j := 1) rfl, _, _, rfl, rfl, ?_⟩
                by_cases h1 : c < ii
                · refine ⟨_, rfl, _, rfl, ifT (decide_eq_true h1) ?_⟩
                  refine ⟨_, rfl, b', _, 2, vz, rfl, rfl, SqT.of hb', atI_nat (j := 2) rfl, ?_⟩
                  refine ⟨_, _, _, rfl, Same.refl _, .inr ⟨z, c * wordsN (m + 1) z, ?_, hz', not_non hz hz'⟩⟩
                  rw [e0, if_pos ⟨h0, h1⟩]
                · refine ⟨_, rfl, _, rfl, ifF (decide_eq_false h1) ?_⟩
                  exact no _ (by rw [e0, if_neg (fun z => h1 z.2)])
              · refine ifF (decide_eq_false h0) ?_
                exact ⟨_, rfl, _, rfl, iteF (no _ (by rw [e0, if_neg (fun z => h0 z.1)]))⟩
            | bl c => exact iteT ⟨_, rfl, _, _, _, _, _, rfl, .ty "bool", htx, kx3, _, rfl, _, rfl, iteF ⟨_, rfl, _, rfl, iteF (no _ rfl)⟩⟩
            | str _ => exact iteF ⟨_, rfl, _, rfl, iteF (no _ rfl)⟩
            | non => exact iteF ⟨_, rfl, _, rfl, iteF (no _ rfl)⟩
            | lst _ => exact iteF ⟨_, rfl, _, rfl, iteF (no _ rfl)⟩
            | tup _ => exact iteF ⟨_, rfl, _, rfl, iteF (no _ rfl)⟩
            | dic => exact iteF ⟨_, rfl, _, rfl, iteF (no _ rfl)⟩
        · rintro _ H2 ⟨vk', rv', ov', rfl, s2, hM⟩
          refine ⟨_, rfl, rfl, _, rfl, ?_⟩
          rcases hM with ⟨e, rfl⟩ | ⟨z, c, e, hz, ne⟩
          · exact ifT (by decide) (none_ e H2 s2)
          · refine ifF (decide_eq_false ne) ?_
            obtain ⟨q1, q2, q3⟩ := some_ z c e
            exact ⟨_, _, _, _, _, _, rfl, hz, q3, q1, q2, s1.trans s2⟩
    · rintro σ H1 ⟨vk, y, a, sv, rv, ov, rfl, hy, py, hw, fy, s1⟩
      rw [r.len, List.take_length] at hw
      rcases k with ⟨h, _⟩ | ⟨y', a', h, k⟩
      · rw [h] at hw
        cases hw
      · rw [h] at hw
        injection hw with hw
        injection hw with e1 _
        rw [← e1] at hy
        exact ⟨_, rfl, k vk H1 hy s1⟩
end
end K1

set_option Elab.async false
set_option linter.all false
set_option pp.maxSteps 700
set_option maxRecDepth 100000
set_option maxHeartbeats 4000000
namespace K1
open PySem PySem.Spec PyProof.Rows L2
open TL (tl)
section
variable {X : Cx}
/-- t == (), t any tuple -/
theorem op_eqNilT (hu : X.A.units + 64 < cLine) : OpR X (compareOp .Eq) (fun x y H Q => ∃ (a b : Addr) (xs : List V), x = .ref a ∧ y = .ref b ∧ SqT X.K H a xs ∧ SqT X.K H b [] ∧ Q (.bl xs.isEmpty) H) := by
  intro pins s σ H x y v u Q I rx ry h
  obtain ⟨a, b, xs, rfl, rfl, ha, hb, q⟩ := h
  cases (show v = Value.ref a from rx)
  cases (show u = Value.ref b from ry)
  obtain ⟨us, r1, p1, _⟩ := I.tuple ha
  obtain ⟨ws, r2, p2, _⟩ := I.tuple hb
  cases r2
  refine SeqAt.eq_tupleAt (e := fun _ => true) p1 p2 (by omega) (fun j _ h2 => absurd h2 (by simp)) (fin_bl I q ?_)
  cases r1 with
  | nil => rfl
  | cons h t => simp
theorem pt_weak {e : Expr} {t : TT} (he : PT X e t) : PT X e (fun σ H Q => ∃ Qc : Bool → Hp → Prop, t σ H Qc ∧ ∀ b H1, Qc b H1 → Q b H1) := by
  refine ⟨fun pins s σ H Q I h => ?_⟩
  obtain ⟨Qc, h, k⟩ := h
  exact thn (he.run pins s σ H Qc I h) fun b s1 ⟨H1, I1, q⟩ => ⟨H1, I1, k b H1 q⟩
end
theorem cutV_take (xs : List V) {k : Nat} (h : k ≤ xs.length) : cutV xs none (some ((k : Nat) : Int)) = xs.take k := by
  unfold cutV
  rw [HT.sIx_none, List.drop_zero, HT.sIx_nat]
  congr 1
  omega
theorem cutV_drop (xs : List V) {k : Nat} (h : k ≤ xs.length) : cutV xs (some ((k : Nat) : Int)) none = xs.drop k := by
  unfold cutV
  rw [HT.sIx_none, HT.sIx_nat]
  have e : min k xs.length = k := by omega
  rw [e, List.take_of_length_le]
  rw [List.length_drop]
  omega
theorem DVs.take {g : Addr} {H : Hp} : ∀ {xs : List V} {ds : List Dt}, DVs g H xs ds → ∀ k, DVs g H (xs.take k) (ds.take k)
  | _, _, .nil, k => by
    rw [List.take_nil, List.take_nil]
    exact .nil
  | _, _, .cons h r, 0 => .nil
  | _, _, .cons h r, k + 1 => .cons h (r.take k)
theorem DVs.drop {g : Addr} {H : Hp} : ∀ {xs : List V} {ds : List Dt}, DVs g H xs ds → ∀ k, DVs g H (xs.drop k) (ds.drop k)
  | _, _, .nil, k => by
    rw [List.drop_nil, List.drop_nil]
    exact .nil
  | _, _, .cons h r, 0 => .cons h r
  | _, _, .cons h r, k + 1 => r.drop k
theorem catA_of {K : PySem.W.Frag} {g : Addr} {H : Hp} {a b : Addr} {xs ys : List V} {ds es : List Dt} {Q : VK} (ha : H a = some (.tup xs)) (hb : H b = some (.tup ys)) (da : DVs g H xs ds) (db : DVs g H ys es) (hl : ds.length + es.length ≤ 1000)
    (k : ∀ (r : Addr) (zs : List V) (H' : Hp), Same H H' → H' r = some (.tup zs) → DVs g H' zs (ds ++ es) → Q (.ref r) H') : rCatA K (.ref a) (.ref b) H Q := by
  refine ⟨a, b, xs, ys, rfl, rfl, SqT.of ha, SqT.of hb, by rw [da.len, db.len, sizeLine_eq]; omega, fun z => ?_, fun _ z => ?_, fun _ _ p hp => ?_⟩
  · subst z
    cases da
    exact k b ys H (Same.refl H) hb db
  · subst z
    cases db
    exact k a xs H (Same.refl H) ha (by rw [List.append_nil]; exact da)
  · exact k p _ _ (same_new hp) upd_same ((da.app db).keep (Kv.of (same_new hp)))
theorem slA_take {K : PySem.W.Frag} {g : Addr} {H : Hp} {a : Addr} {xs : List V} {ds : List Dt} {Q : VK} {q : Nat} (ha : H a = some (.tup xs)) (da : DVs g H xs ds) (hq : True)
    (k : ∀ (r : Addr) (zs : List V) (H' : Hp), Same H H' → H' r = some (.tup zs) → DVs g H' zs (ds.take q) → Q (.ref r) H') : rSlA K (.ref a) none (some ((q : Nat) : Int)) H Q := by
  have hl := da.len
  refine ⟨a, xs, rfl, SqT.of ha, fun hw => ?_, fun hw p hp => ?_⟩
  · have e : ds.length ≤ q := by
      have := hw.2
      rw [HT.sIx_nat] at this
      omega
    refine k a xs H (Same.refl H) ha ?_
    rw [List.take_of_length_le e]
    exact da
  · have e : q ≤ xs.length := by
      rw [HT.sIx_nat, HT.sIx_none] at hw
      omega
    rw [cutV_take xs e]
    exact k p _ _ (same_new hp) upd_same ((da.take q).keep (Kv.of (same_new hp)))
theorem slA_drop {K : PySem.W.Frag} {g : Addr} {H : Hp} {a : Addr} {xs : List V} {ds : List Dt} {Q : VK} {q : Nat} (ha : H a = some (.tup xs)) (da : DVs g H xs ds) (hq : q ≤ ds.length)
    (k : ∀ (r : Addr) (zs : List V) (H' : Hp), Same H H' → H' r = some (.tup zs) → DVs g H' zs (ds.drop q) → Q (.ref r) H') : rSlA K (.ref a) (some ((q : Nat) : Int)) none H Q := by
  have hl := da.len
  refine ⟨a, xs, rfl, SqT.of ha, fun hw => ?_, fun _ p hp => ?_⟩
  · have e : q = 0 ∨ ds.length = 0 := by
      have := hw.1
      rw [HT.sIx_nat] at this
      omega
    refine k a xs H (Same.refl H) ha ?_
    rcases e with e | e
    · rw [e, List.drop_zero]
      exact da
    · have e2 : ds = [] := List.length_eq_zero_iff.mp e
      subst e2
      cases da
      rw [List.drop_nil]
      exact .nil
  · rw [cutV_drop xs (by omega)]
    exact k p _ _ (same_new hp) upd_same ((da.drop q).keep (Kv.of (same_new hp)))
theorem slA_dropN {K : PySem.W.Frag} {g : Addr} {H : Hp} {a : Addr} {xs : List V} {ds : List Dt} {Q : VK} {q : Nat} {σ : L2.St} (ha : H a = some (.tup xs)) (da : DVs g H xs ds) (hq : q ≤ ds.length)
    (k : ∀ (r : Addr) (zs : List V) (H' : Hp), Same H H' → H' r = some (.tup zs) → DVs g H' zs (ds.drop q) → Q (.ref r) H') : tNoPart σ H (fun u H3 => rSlA K (.ref a) (some ((q : Nat) : Int)) u H3 Q) := slA_drop ha da hq k
/-! ### kinds with other names -/
structure GoodF (f : Str → Str) : Prop where
  fix : ∀ s ∈ (["row", "record", "number", "truth"] : List Str), f s = s
  nm : ∀ s ∈ kn6, nameS (f s) = true
  inj : ∀ s ∈ kn6, ∀ t ∈ kn6, f s = f t → s = t
theorem kw_old : ∀ s ∈ (["row", "record", "number", "truth"] : List Str), s ∉ oldS ++ xlw := by decide +kernel
theorem kn_old : ∀ s ∈ kn6, s ∈ oldS ++ xlw := by decide +kernel
theorem TblOk.good {kvs : List (Key × V)} (t : TblOk kvs) : GoodF (lookS kvs) := by
  obtain ⟨ts, xs, h, hh⟩ := t.ex
  have fix : ∀ s, s ∉ oldS ++ xlw → lookS kvs s = s := fun s hs => by
    unfold lookS
    cases e : valV kvs (.inr s) with
    | none => rfl
    | some v =>
      obtain ⟨x, e1, e2⟩ := h.key _ _ e
      injection e1 with e1
      exact absurd (e1 ▸ e2) hs
  refine ⟨fun s hs => fix s (kw_old s hs), fun s hs => ?_, fun s hs t ht e => ?_⟩
  · rcases hh with ⟨rfl, _⟩ | rfl
    · exact (kn6_ok s hs).2.1
    · obtain ⟨v, e⟩ := h.full s (kn_old s hs)
      obtain ⟨z, rfl, hz, _⟩ := h.val _ _ e
      unfold lookS
      rw [e]
      exact hz
  · rcases hh with ⟨rfl, _⟩ | rfl
    · exact e
    · obtain ⟨v, e1⟩ := h.full s (kn_old s hs)
      obtain ⟨u, e2⟩ := h.full t (kn_old t ht)
      obtain ⟨z, rfl, hz, _⟩ := h.val _ _ e1
      obtain ⟨y, rfl, hy, _⟩ := h.val _ _ e2
      have l1 : lookS kvs s = z := by unfold lookS; rw [e1]
      have l2 : lookS kvs t = y := by unfold lookS; rw [e2]
      rw [l1, l2] at e
      rw [e] at e1
      have := h.inj _ _ _ e1 e2
      injection this
theorem nodup_map_of {f : Str → Str} : ∀ {l : List Str}, l.Nodup → (∀ s ∈ l, ∀ t ∈ l, f s = f t → s = t) → (l.map f).Nodup
  | [], _, _ => List.nodup_nil
  | x :: l, nd, h => by
    obtain ⟨h1, h2⟩ := List.nodup_cons.mp nd
    refine List.nodup_cons.mpr ⟨fun q => ?_, nodup_map_of h2 fun s hs t ht => h s (List.mem_cons_of_mem _ hs) t (List.mem_cons_of_mem _ ht)⟩
    obtain ⟨y, hy, e⟩ := List.mem_map.mp q
    have := h y (List.mem_cons_of_mem _ hy) x List.mem_cons_self e
    exact h1 (this ▸ hy)
theorem ren_ok {f : Str → Str} (G : GoodF f) : ∀ (n : Nat) (d : Dt), formed n d = true → inK (fun s => decide (s ∈ kn6)) n d = true → formed n (ren f d) = true ∧ wordsN n (ren f d) = wordsN n d
  | n, d, h, hk => by
    rcases formed_cases h with ⟨s, rfl, hs⟩ | ⟨m, rfl, ⟨l, rfl, h1, h2, h3, h4⟩ | ⟨i, z, rfl, h1, h2, h3⟩⟩
    · have e : ren f (.str s) = .str s := by
        show Dt.str (f s) = _
        rw [G.fix s (by rcases plain_two hs with rfl | rfl <;> simp)]
      rw [e]
      exact ⟨h, rfl⟩
    · have hk : l.all (fun p => decide (nmOf p ∈ kn6) && inK (fun s => decide (s ∈ kn6)) (m + 1) (sndD p)) = true := hk
      rw [List.all_eq_true] at hk
      have e : ren f (.tup [.str "record", .tup l]) = .tup [.str "record", .tup (l.map (ren f))] := by
        show Dt.tup [.str (f "record"), .tup (rens f l)] = _
        rw [G.fix "record" (by simp), rens_map]
      have each : ∀ p ∈ l, pairF (formed (m + 1)) (ren f p) = true ∧ sndW (wordsN (m + 1)) (ren f p) = sndW (wordsN (m + 1)) p ∧ nmOf (ren f p) = f (nmOf p) ∧ nmOf p ∈ kn6 := fun p hp => by
        have q := hk p hp
        rw [Bool.and_eq_true, decide_eq_true_eq] at q
        obtain ⟨s, y, rfl, hs, hy⟩ := pairF_of (h3 p hp)
        obtain ⟨a, b⟩ := ren_ok G (m + 1) y hy q.2
        refine ⟨?_, b, rfl, q.1⟩
        show (nameS (f s) && formed (m + 1) (ren f y)) = true
        rw [G.nm s q.1, a]
        rfl
      rw [e, formed_two, words_two, words_two]
      refine ⟨?_, ?_⟩
      · show (true && ((decide (1 ≤ ((l.map (ren f)).length : Int)) && decide (((l.map (ren f)).length : Int) ≤ 6)) && ((l.map (ren f)).all (pairF (formed (m + 1))) && decide ((l.map (ren f)).map nmOf).Nodup))) = true
        rw [List.length_map, decide_eq_true (show 1 ≤ (l.length : Int) by omega), decide_eq_true (show (l.length : Int) ≤ 6 by omega)]
        have a1 : (l.map (ren f)).all (pairF (formed (m + 1))) = true := by
          rw [List.all_eq_true]
          intro d hd
          obtain ⟨p, hp, rfl⟩ := List.mem_map.mp hd
          exact (each p hp).1
        have a2 : ((l.map (ren f)).map nmOf).Nodup := by
          have e2 : (l.map (ren f)).map nmOf = (l.map nmOf).map f := by
            rw [List.map_map, List.map_map]
            exact List.map_congr_left fun p hp => (each p hp).2.2.1
          rw [e2]
          refine nodup_map_of h4 fun s hs t ht => ?_
          obtain ⟨p, hp, rfl⟩ := List.mem_map.mp hs
          obtain ⟨q, hq, rfl⟩ := List.mem_map.mp ht
          exact G.inj _ (each p hp).2.2.2 _ (each q hq).2.2.2
        rw [a1, decide_eq_true a2]
        rfl
      · show ((l.map (ren f)).map (sndW (wordsN (m + 1)))).sum = (l.map (sndW (wordsN (m + 1)))).sum
        rw [List.map_map]
        congr 1
        exact List.map_congr_left fun p hp => (each p hp).2.1
    · have e : ren f (.tup [.str "row", .int i, z]) = .tup [.str "row", .int i, ren f z] := by
        show Dt.tup [.str (f "row"), .int i, ren f z] = _
        rw [G.fix "row" (by simp)]
      have hk : inK (fun s => decide (s ∈ kn6)) (m + 1) z = true := hk
      obtain ⟨a, b⟩ := ren_ok G (m + 1) z h3 hk
      rw [e, formed_two, words_two, words_two]
      refine ⟨?_, ?_⟩
      · show (true && ((decide (1 ≤ i) && decide (i ≤ 64)) && formed (m + 1) (ren f z))) = true
        rw [decide_eq_true h1, decide_eq_true h2, a]
        rfl
      · show i * wordsN (m + 1) (ren f z) = i * wordsN (m + 1) z
        rw [b]
  termination_by n => n
  decreasing_by all_goals omega
structure MgB (K : PySem.W.Frag) (mg : Str → Option Value) (fD fP fKnd fNmd fTab : Addr) : Prop where
  dr : mg "_law_draw" = some (.ref fD)
  kdr : PySem.W.keepIn K (.ref fD) = true
  pk : mg "_law_pick" = some (.ref fP)
  kpk : PySem.W.keepIn K (.ref fP) = true
  knd : mg "_law_cb_kind" = some (.ref fKnd)
  kknd : PySem.W.keepIn K (.ref fKnd) = true
  nmd : mg "_law_tx_named" = some (.ref fNmd)
  knmd : PySem.W.keepIn K (.ref fNmd) = true
  tab : mg "_law_tx_table" = some (.ref fTab)
  ktab : PySem.W.keepIn K (.ref fTab) = true
  lst : mg "list" = none
  tpl : mg "tuple" = none
  len : mg "len" = none
def spNkd : Sp := fun vs H Q _ => ∃ (d g c : Addr) (n : Nat), vs = [.ref d] ∧ StA H d g c n ∧ n ≤ 500000000 ∧ ∀ (v : V) (dt : Dt) (H' : Hp), DV g H' v dt → pur dt = true → kindB dt = true → StA H' d g c (n + 20000) → Kp d g H H' → Q v H'
theorem cnt4 : cntK 4 ≤ 15000 := by decide
theorem bnd4 : bnd 4 = 4000000 := rfl
def n6 : List Str := ["z", "a", "m", "b", "y", "c"]
def rw64 : Dt := .tup [.str "row", .int 64, .str "number"]
def lit3 : Dt := .tup [.str "record", .tup (n6.map (fun x => Dt.tup [.str x, rw64]))]
def lits4 : List Dt := [.tup [.str "row", .int 20, .tup [.str "row", .int 20, .str "truth"]], .tup [.str "row", .int 8, .tup [.str "record", .tup [.tup [.str "b", .tup [.str "row", .int 49, .str "number"]], .tup [.str "a", .str "truth"]]]], lit3, .tup [.str "row", .int 1, .tup [.str "row", .int 1, .tup [.str "row", .int 1, .str "number"]]]]
theorem lits_ok : lits4.all (fun d => kindB d && pur d) = true := by decide +kernel
section
variable {P : Program} {w : World} {K : PySem.W.Frag} {mg : Str → Option Value} {base : Heap}
variable {fD fP fKnd fNmd fTab : Addr} {fdD fdP fdKnd fdNmd fdTab : FuncData}
theorem StA.upF2 {H H' : Hp} {d g c : Addr} {n : Nat} (S : StA H d g c n) {p : Addr} (hd : p ≠ d) (hg : p ≠ g) (hc : p ≠ c) (h : ∀ b, b ≠ p → H' b = H b) : StA H' d g c n := by
  obtain ⟨r, tt, gs, cs, S⟩ := S
  exact ⟨r, tt, gs, cs, { S with dk := by rw [h d hd.symm]; exact S.dk, gl := by rw [h g hg.symm]; exact S.gl, cl := by rw [h c hc.symm]; exact S.cl }⟩
theorem scNkd : FnScope ["state", "some", "name"] ["state"] (defScope sNkd) := ⟨rfl, rfl, rfl, by decide +kernel, rfl, by decide +kernel, by decide +kernel⟩
theorem ok_nkd {f : Addr} {fd : FuncData} (F : Fun K "_law_new_kind" "_law_new_kind" sNkd f fd) (T : MgB K mg fD fP fKnd fNmd fTab)
    (GD : FnOk P w K mg base CX0 2 fD fdD ["state", "room"] spDrw) (bD : L2.Binds K fdD ["state", "room"] [])
    (GP : FnOk P w K mg base CX0 3 fP fdP ["state", "some"] spPck) (bP : L2.Binds K fdP ["state", "some"] [])
    (GK : FnOk P w K mg base CX0 9 fKnd fdKnd ["state", "deep", "cap"] (spKnd 4)) (bK : L2.Binds K fdKnd ["state", "deep", "cap"] [])
    (GM : FnOk P w K mg base CX0 14 fNmd fdNmd ["value", "table"] (spNmd 13)) (bM : L2.Binds K fdNmd ["value", "table"] [])
    (GB : FnOk P w K mg base CX0 5 fTab fdTab ["state"] spTab) (bB : L2.Binds K fdTab ["state"] []) : FnOk P w K mg base CX0 15 f fd ["state"] spNkd := by
  refine F.ok scNkd (fun vs H Q E h => ?_) (fun cdv A outer s H vs Q E hr h => ?_)
  · obtain ⟨d, g, c, n, rfl, _⟩ := h
    rfl
  · obtain ⟨d, g, c, n, rfl, S, hn, k⟩ := h
    have hr2 : Room 2 _ := hr.mono (by decide)
    have hr3 : Room 3 _ := hr.mono (by decide)
    have hr5 : Room 5 _ := hr.mono (by decide)
    have hr9 : Room 9 _ := hr.mono (by decide)
    refine ⟨_, (pss_cons (ps_if (pt_cmpR op_eq (pe_call GD hr2 (by rfl) T.dr T.kdr bD .nil pass0 (pa_cons (pv 0) (pa_cons pe_int pa_nil))) pe_int (nomark _)) (pss_cons (ps_set (i := 1) scNkd.nd rfl (Or.inl rfl) (pe_lst (pa_cons (pe_tup (pa_cons pe_str (pa_cons pe_int (pa_cons (pe_tup (pa_cons pe_str (pa_cons pe_int (pa_cons pe_str pa_nil)))) pa_nil)))) (pa_cons (pe_tup (pa_cons pe_str (pa_cons pe_int (pa_cons (pe_tup (pa_cons pe_str (pa_cons (pe_tup (pa_cons (pe_tup (pa_cons pe_str (pa_cons (pe_tup (pa_cons pe_str (pa_cons pe_int (pa_cons pe_str pa_nil)))) pa_nil))) (pa_cons (pe_tup (pa_cons pe_str (pa_cons pe_str pa_nil))) pa_nil))) pa_nil))) pa_nil)))) pa_nil))))
          (pss_cons (ps_expr (qApp (pv 1) (pe_tup (pa_cons pe_str (pa_cons (pe_callTy call_tuple_of (by rfl) T.tpl (by decide +kernel) (pa_cons (pe_lc (own := [("name", 2)]) (g := gName 2) (tt := tYes) (by rfl) scNkd.nd (pi_list (pe_lst (pa_cons pe_str (pa_cons pe_str (pa_cons pe_str (pa_cons pe_str (pa_cons pe_str (pa_cons pe_str pa_nil)))))))) (blkOk_by (own := [("name", 2)]) (N := ["state", "some", "name"]) (sc := defScope sNkd) (by decide +kernel)) (fun _ _ _ _ _ => (pg_name (i := 2) scNkd.nd rfl (Or.inl rfl))) (fun _ _ _ _ _ => pts_nil) (fun _ _ _ _ _ => (pe_tup (pa_cons (pv 2) (pa_cons (pe_tup (pa_cons pe_str (pa_cons pe_int (pa_cons pe_str pa_nil)))) pa_nil))))) pa_nil)) pa_nil)))))
          (pss_one (ps_ret (pe_call GP hr3 (by rfl) T.pk T.kpk bP .nil pass0 (pa_cons (pv 0) (pa_cons (pe_op op_cat (pv 1) (pe_lst (pa_cons (pe_tup (pa_cons pe_str (pa_cons pe_int (pa_cons (pe_tup (pa_cons pe_str (pa_cons pe_int (pa_cons (pe_tup (pa_cons pe_str (pa_cons pe_int (pa_cons pe_str pa_nil)))) pa_nil)))) pa_nil)))) pa_nil))) pa_nil))))))) pss_nil)
      (pss_one (ps_ret (pe_call GM hr (by rfl) T.nmd T.knmd bM .nil pass0 (pa_cons (pe_call GK hr9 (by rfl) T.knd T.kknd bK .nil pass0 (pa_cons (pv 0) (pa_cons pe_int (pa_cons (pe_call GP hr3 (by rfl) T.pk T.kpk bP .nil pass0 (pa_cons (pv 0) (pa_cons (pe_lst (pa_cons pe_int (pa_cons pe_int (pa_cons pe_int pa_nil)))) pa_nil))) pa_nil)))) (pa_cons (pe_call GB hr5 (by rfl) T.tab T.ktab bB .nil pass0 (pa_cons (pv 0) pa_nil)) pa_nil)))))), ?_⟩
    refine ⟨_, rfl, d, g, c, n, 4, rfl, S, by omega, by decide, by decide, fun v H1 _ _ S1 kp1 => ⟨rfl, _, rfl, ?_⟩⟩
    by_cases hv : V.int v = V.int 0
    · refine ifT (decide_eq_true hv) ?_
      refine ⟨(by show 3 ≤ sizeLine; decide), fun pa0 hpa0 => ?_⟩
      generalize hHa0 : upd H1 pa0 _ = Ha0
      obtain ⟨sa0, ea0⟩ := freshF hpa0 hHa0
      have ta0 : Same H1 Ha0 := sa0
      refine ⟨(by show 3 ≤ sizeLine; decide), fun pa1 hpa1 => ?_⟩
      generalize hHa1 : upd Ha0 pa1 _ = Ha1
      obtain ⟨sa1, ea1⟩ := freshF hpa1 hHa1
      have ta1 : Same H1 Ha1 := ta0.trans sa1
      refine ⟨(by show 3 ≤ sizeLine; decide), fun pa2 hpa2 => ?_⟩
      generalize hHa2 : upd Ha1 pa2 _ = Ha2
      obtain ⟨sa2, ea2⟩ := freshF hpa2 hHa2
      have ta2 : Same H1 Ha2 := ta1.trans sa2
      refine ⟨(by show 2 ≤ sizeLine; decide), fun pa3 hpa3 => ?_⟩
      generalize hHa3 : upd Ha2 pa3 _ = Ha3
      obtain ⟨sa3, ea3⟩ := freshF hpa3 hHa3
      have ta3 : Same H1 Ha3 := ta2.trans sa3
      refine ⟨(by show 2 ≤ sizeLine; decide), fun pa4 hpa4 => ?_⟩
      generalize hHa4 : upd Ha3 pa4 _ = Ha4
      obtain ⟨sa4, ea4⟩ := freshF hpa4 hHa4
      have ta4 : Same H1 Ha4 := ta3.trans sa4
      refine ⟨(by show 2 ≤ sizeLine; decide), fun pa5 hpa5 => ?_⟩
      generalize hHa5 : upd Ha4 pa5 _ = Ha5
      obtain ⟨sa5, ea5⟩ := freshF hpa5 hHa5
      have ta5 : Same H1 Ha5 := ta4.trans sa5
      refine ⟨(by show 2 ≤ sizeLine; decide), fun pa6 hpa6 => ?_⟩
      generalize hHa6 : upd Ha5 pa6 _ = Ha6
      obtain ⟨sa6, ea6⟩ := freshF hpa6 hHa6
      have ta6 : Same H1 Ha6 := ta5.trans sa6
      refine ⟨(by show 3 ≤ sizeLine; decide), fun pa7 hpa7 => ?_⟩
      generalize hHa7 : upd Ha6 pa7 _ = Ha7
      obtain ⟨sa7, ea7⟩ := freshF hpa7 hHa7
      have ta7 : Same H1 Ha7 := ta6.trans sa7
      refine ⟨(by show 2 ≤ sizeLine; decide), fun la hpa8 => ?_⟩
      generalize hHa8 : upd Ha7 la _ = Ha
      obtain ⟨sa8, ea8⟩ := freshF hpa8 hHa8
      have ta8 : Same H1 Ha := ta7.trans sa8
      have ga8 := ((S1.keep ta7).free hpa8).2.1
      have ua7 : Same Ha7 Ha := sa8
      have ua6 : Same Ha6 Ha := sa7.trans ua7
      have ua5 : Same Ha5 Ha := sa6.trans ua6
      have ua4 : Same Ha4 Ha := sa5.trans ua5
      have ua3 : Same Ha3 Ha := sa4.trans ua4
      have ua2 : Same Ha2 Ha := sa3.trans ua3
      have ua1 : Same Ha1 Ha := sa2.trans ua2
      have ua0 : Same Ha0 Ha := sa1.trans ua1
      have ta := ta8
      have dva : DVs g Ha [V.ref pa1, V.ref pa7] [Dt.tup [Dt.str "row", Dt.int 20, Dt.tup [Dt.str "row", Dt.int 20, Dt.str "truth"]], Dt.tup [Dt.str "row", Dt.int 8, Dt.tup [Dt.str "record", Dt.tup [Dt.tup [Dt.str "b", Dt.tup [Dt.str "row", Dt.int 49, Dt.str "number"]], Dt.tup [Dt.str "a", Dt.str "truth"]]]]] := (.cons (.tup (ua1 _ _ ea1) (by show 3 ≤ 1000; decide) (.cons (.str (by decide +kernel)) (.cons (.int _) (.cons (.tup (ua0 _ _ ea0) (by show 3 ≤ 1000; decide) (.cons (.str (by decide +kernel)) (.cons (.int _) (.cons (.str (by decide +kernel)) .nil)))) .nil)))) (.cons (.tup (ua7 _ _ ea7) (by show 3 ≤ 1000; decide) (.cons (.str (by decide +kernel)) (.cons (.int _) (.cons (.tup (ua6 _ _ ea6) (by show 2 ≤ 1000; decide) (.cons (.str (by decide +kernel)) (.cons (.tup (ua5 _ _ ea5) (by show 2 ≤ 1000; decide) (.cons (.tup (ua3 _ _ ea3) (by show 2 ≤ 1000; decide) (.cons (.str (by decide +kernel)) (.cons (.tup (ua2 _ _ ea2) (by show 3 ≤ 1000; decide) (.cons (.str (by decide +kernel)) (.cons (.int _) (.cons (.str (by decide +kernel)) .nil)))) .nil))) (.cons (.tup (ua4 _ _ ea4) (by show 2 ≤ 1000; decide) (.cons (.str (by decide +kernel)) (.cons (.str (by decide +kernel)) .nil))) .nil))) .nil))) .nil)))) .nil))
      have ea := ea8
      have hla := hpa8
      have fa := (S1.keep ta7).free hla
      have na := ta7.free hla
      have Sa := S1.keep ta
      -- the third one
      refine ⟨_, rfl, .inl ⟨rfl, _, SqL.of ea⟩, (by show 6 ≤ sizeLine; decide), fun ln hln => ?_⟩
      generalize hHb : upd Ha ln _ = Hb
      obtain ⟨sln, eln⟩ := freshF hln hHb
      have eln : Hb ln = some (.lst (n6.map V.str)) := eln
      have dva := dva.keep (Kv.of sln)
      have eab := sln _ _ ea
      refine ⟨ln, rfl, ⟨_, SqL.of eln⟩, fun D hD => lc_list (K := K) (a := ln) (xs := n6.map V.str)
        (fun q H' => ∃ us, H' D = some (.lst us) ∧ DVs g H' us ((n6.take q).map (fun x => Dt.tup [.str x, rw64])) ∧ Same Hb H') ⟨[], upd_same, .nil, same_new hD⟩ (fun q H' _ ⟨_, _, _, s⟩ => SqL.of (s _ _ eln)) ?_ ?_⟩
      · rintro q y H2 hq ⟨us, g1, g2, g3⟩
        rw [List.getElem?_map] at hq
        obtain ⟨nm, hnm, rfl⟩ := Option.map_eq_some_iff.mp hq
        refine ⟨rfl, ?_⟩
        refine ⟨_, rfl, (by show 3 ≤ sizeLine; decide), fun p hp => ?_⟩
        generalize hH3 : upd H2 p _ = H3
        obtain ⟨sp, ep⟩ := freshF hp hH3
        refine ⟨(by show 2 ≤ sizeLine; decide), fun t ht => ?_⟩
        generalize hH4 : upd H3 t _ = H4
        obtain ⟨st, et⟩ := freshF ht hH4
        have s4 := sp.trans st
        have kt : Kt H4 (upd H4 D (.lst (us ++ [.ref t]))) := Kt.put (s4 _ _ g1)
        have okn : nm.length ≤ 1000 ∧ PyData.strOk nm = true := (by decide +kernel : ∀ x ∈ n6, x.length ≤ 1000 ∧ PyData.strOk x = true) nm (List.mem_of_getElem? hnm)
        have pN : ∀ q, purs ((n6.take q).map (fun x => Dt.tup [.str x, rw64])) = true := fun q => by
          rw [purs_all, List.all_eq_true]
          intro d' hd'
          obtain ⟨x, hx, rfl⟩ := List.mem_map.mp hd'
          exact (by decide +kernel : ∀ x ∈ n6, pur (Dt.tup [.str x, rw64]) = true) x (List.mem_of_mem_take hx)
        refine ⟨us, s4 _ _ g1, ?_, us ++ [.ref t], upd_same, ?_, ?_⟩
        · have : q < 6 := (List.getElem?_eq_some_iff.mp hnm).1
          rw [g2.len, List.length_map, List.length_take, sizeLine_eq]
          omega
        · rw [take_snoc hnm, List.map_append]
          refine ((g2.keep (Kv.of s4)).keepP kt (pN q)).snoc ?_
          exact .tup (kt _ _ et) (by show 2 ≤ 1000; decide) (.cons (.str okn.1) (.cons (.tup (kt _ _ (st _ _ ep)) (by show 3 ≤ 1000; decide) (.cons (.str (by decide +kernel)) (.cons (.int _) (.cons (.str (by decide +kernel)) .nil)))) .nil))
        · intro b o eb
          rw [upd_ne (ne_of_none eb hD)]
          exact s4 _ _ (g3 _ _ eb)
      rintro H2 ⟨us, g1, g2, g3⟩
      have g2 : DVs g H2 us (n6.map (fun x => Dt.tup [.str x, rw64])) := g2
      refine ⟨D, us, rfl, .inl ⟨SqL.of g1, fun t ht => ?_⟩⟩
      generalize hH3 : upd H2 t _ = H3
      obtain ⟨st, et⟩ := freshF ht hH3
      refine ⟨(by show 2 ≤ sizeLine; decide), fun p hp => ?_⟩
      generalize hH4 : upd H3 p _ = H4
      obtain ⟨sp, ep⟩ := freshF hp hH4
      have s4 := (g3.trans st).trans sp
      have dv3 : DV g H4 (.ref p) lit3 := .tup ep (by show 2 ≤ 1000; decide) (.cons (.str (by decide +kernel)) (.cons (.tup (sp _ _ et) (by show 6 ≤ 1000; decide) ((g2.keep (Kv.of st)).keep (Kv.of sp))) .nil))
      have eab := s4 _ _ eab
      refine ⟨la, _, _, rfl, rfl, eab, (by show 2 < sizeLine; decide), ?_⟩
      generalize hH5 : upd H4 la _ = H5
      obtain ⟨kt5, e5, ne5⟩ := putF eab hH5
      have dv5 := ((dva.keep (Kv.of s4)).snoc dv3).keepP (g' := g) kt5 (by decide +kernel)
      have sHa : Same H1 H4 := (ta.trans sln).trans s4
      have S5 := (S1.keep sHa).upF2 fa.1 fa.2.1 fa.2.2 ne5
      have k5 : Kp d g H H5 := fun b o e h1 h2 => by
        have hb : b ≠ la := fun z => by
          have q := kp1 _ _ e h1 h2
          rw [z, na] at q
          cases q
        rw [ne5 b hb]
        exact sHa _ _ (kp1 _ _ e h1 h2)
      refine ⟨_, rfl, _, rfl, ?_⟩
      refine ⟨(by show 3 ≤ sizeLine; decide), fun pq0 hpq0 => ?_⟩
      generalize hHq0 : upd H5 pq0 _ = Hq0
      obtain ⟨sq0, eq0⟩ := freshF hpq0 hHq0
      have tq0 : Same H5 Hq0 := sq0
      refine ⟨(by show 3 ≤ sizeLine; decide), fun pq1 hpq1 => ?_⟩
      generalize hHq1 : upd Hq0 pq1 _ = Hq1
      obtain ⟨sq1, eq1⟩ := freshF hpq1 hHq1
      have tq1 : Same H5 Hq1 := tq0.trans sq1
      refine ⟨(by show 3 ≤ sizeLine; decide), fun pq2 hpq2 => ?_⟩
      generalize hHq2 : upd Hq1 pq2 _ = Hq2
      obtain ⟨sq2, eq2⟩ := freshF hpq2 hHq2
      have tq2 : Same H5 Hq2 := tq1.trans sq2
      refine ⟨(by show 1 ≤ sizeLine; decide), fun lq hpq3 => ?_⟩
      generalize hHq3 : upd Hq2 lq _ = Hq
      obtain ⟨sq3, eq3⟩ := freshF hpq3 hHq3
      have tq3 : Same H5 Hq := tq2.trans sq3
      have gq3 := ((S5.keep tq2).free hpq3).2.1
      have uq2 : Same Hq2 Hq := sq3
      have uq1 : Same Hq1 Hq := sq2.trans uq2
      have uq0 : Same Hq0 Hq := sq1.trans uq1
      have tq := tq3
      have dvq : DVs g Hq [V.ref pq2] [Dt.tup [Dt.str "row", Dt.int 1, Dt.tup [Dt.str "row", Dt.int 1, Dt.tup [Dt.str "row", Dt.int 1, Dt.str "number"]]]] := (.cons (.tup (uq2 _ _ eq2) (by show 3 ≤ 1000; decide) (.cons (.str (by decide +kernel)) (.cons (.int _) (.cons (.tup (uq1 _ _ eq1) (by show 3 ≤ 1000; decide) (.cons (.str (by decide +kernel)) (.cons (.int _) (.cons (.tup (uq0 _ _ eq0) (by show 3 ≤ 1000; decide) (.cons (.str (by decide +kernel)) (.cons (.int _) (.cons (.str (by decide +kernel)) .nil)))) .nil)))) .nil)))) .nil)
      have eq := eq3
      have hlq := hpq3
      have fq := (S5.keep tq2).free hlq
      have nq := tq2.free hlq
      refine ⟨la, lq, _, _, rfl, rfl, tq _ _ e5, eq, (by show 3 + 1 ≤ sizeLine; decide), fun r hr => ?_⟩
      generalize hHr : upd Hq r _ = Hr
      obtain ⟨sr, er⟩ := freshF hr hHr
      have dvr := ((dv5.keep (Kv.of tq)).app dvq).keep (Kv.of sr)
      have sC := tq.trans sr
      refine ⟨d, g, c, r, _, _, rfl, S5.keep sC, by omega, er, ((S5.keep tq).free hr).2.1, by simp, (by show 4 ≤ 1000000; decide), fun fv Hs hfv Ss kps => ?_⟩
      obtain ⟨dt, hm, hdt⟩ := dvr.pick hfv
      have hm : dt ∈ lits4 := hm
      have q := List.all_eq_true.mp lits_ok dt hm
      rw [Bool.and_eq_true] at q
      exact k fv dt Hs (hdt.keep (Kv.kp (S5.keep sC) kps)) q.2 q.1 (Ss.mono (by omega)) ((k5.trans (Kp.of sC)).trans kps)
    · refine ifF (decide_eq_false hv) ?_
      refine ⟨_, rfl, ?_⟩
      refine ⟨_, rfl, (by show 3 ≤ sizeLine; decide), fun lb hpb0 => ?_⟩
      generalize hHb0 : upd H1 lb _ = Hb
      obtain ⟨sb0, eb0⟩ := freshF hpb0 hHb0
      have tb0 : Same H1 Hb := sb0
      have gb0 := (S1.free hpb0).2.1
      have tb := tb0
      have dvb : DVs g Hb [V.int 400, V.int 30, V.int 8] [Dt.int 400, Dt.int 30, Dt.int 8] := (.cons (.int _) (.cons (.int _) (.cons (.int _) .nil)))
      have eb := eb0
      have hlb := hpb0
      have fb := S1.free hlb
      have nb := hlb
      refine ⟨d, g, c, lb, _, _, rfl, S1.keep tb, by omega, eb, fb.2.1, by simp, (by show 3 ≤ 1000000; decide), fun v H6 hv S6 kp6 => ?_⟩
      have hv' : ∃ z : Int, v = .int z ∧ 1 ≤ z ∧ z ≤ 400 := by
        simp only [List.mem_cons, List.not_mem_nil, or_false] at hv
        rcases hv with rfl | rfl | rfl <;> exact ⟨_, rfl, by decide, by decide⟩
      obtain ⟨cap, rfl, cap1, cap4⟩ := hv'
      refine ⟨by decide, by decide, d, g, c, _, cap, rfl, S6, by rw [bnd4]; omega, cap1, cap4, fun kv dk H7 hkv pk fk ik wk dk12 S7 kp7 => ?_⟩
      have c4 := cnt4
      refine ⟨_, rfl, d, g, c, _, rfl, S7, by omega, fun t kvs H8 S8 kp8 ht0 ht tb' => ?_⟩
      have hkv8 := hkv.keep (Kv.kp S7 kp8)
      refine ⟨g, kv, dk, t, kvs, rfl, hkv8, pk, by omega, ht, tb', fun nv H9 hnv pn s9 => ?_⟩
      obtain ⟨q1, q2⟩ := ren_ok tb'.good 4 dk fk ik
      refine k nv _ H9 hnv pn ?_ ((S8.keep s9).mono (by omega)) (kp1.trans ((Kp.of tb).trans (kp6.trans (kp7.trans (kp8.trans (Kp.of s9))))))
      unfold kindB
      rw [q1, q2, decide_eq_true (show wordsN 4 dk ≤ 400 by omega)]
      rfl
end
end K1

set_option Elab.async false
set_option linter.all false
set_option pp.maxSteps 700
set_option maxRecDepth 100000
set_option maxHeartbeats 4000000
namespace K1
open PySem PySem.Spec PyProof.Rows L2
open TL (tl)
def spOth : Sp := fun vs H Q _ => ∃ (d g c b : Addr) (n : Nat) (kv : V) (xs : List V) (t : List Dt), vs = [.ref d, kv, .ref b] ∧ StA H d g c n ∧ n ≤ 600000000 ∧ H b = some (.tup xs) ∧ DVs g H xs t ∧ t.length ≤ 4 ∧
  ∀ (v' : V) (d' : Dt) (H' : Hp), DV g H' v' d' → StA H' d g c (n + 4) → Kp d g H H' → Q v' H'
section
variable {P : Program} {w : World} {K : PySem.W.Frag} {mg : Str → Option Value} {base : Heap}
variable {fD fP fKnd fNmd fTab : Addr} {fdD fdP fdKnd fdNmd fdTab : FuncData}
theorem scOth : FnScope ["state", "kind", "trail", "odd", "at"] ["state", "kind", "trail"] (defScope sOth) := ⟨rfl, rfl, rfl, by decide +kernel, rfl, by decide +kernel, by decide +kernel⟩
theorem ok_oth {f : Addr} {fd : FuncData} (F : Fun K "_law_other_trail" "_law_other_trail" sOth f fd) (T : MgB K mg fD fP fKnd fNmd fTab)
    (GD : FnOk P w K mg base CX0 2 fD fdD ["state", "room"] spDrw) (bD : L2.Binds K fdD ["state", "room"] [])
    (GP : FnOk P w K mg base CX0 3 fP fdP ["state", "some"] spPck) (bP : L2.Binds K fdP ["state", "some"] []) : FnOk P w K mg base CX0 4 f fd ["state", "kind", "trail"] spOth := by
  refine F.ok scOth (fun vs H Q E h => ?_) (fun cdv A outer s H vs Q E hr h => ?_)
  · obtain ⟨d, g, c, b, n, kv, xs, t, rfl, _⟩ := h
    rfl
  · obtain ⟨d, g, c, b, n, kv, xs, t, rfl, S, hn, hb, r, t4, k⟩ := h
    have hr2 : Room 2 _ := hr.mono (by decide)
    refine ⟨_, (pss_cons (ps_set (i := 3) scOth.nd rfl (Or.inl rfl) (pe_call GP hr (by rfl) T.pk T.kpk bP .nil pass0 (pa_cons (pv 0) (pa_cons (pe_lst (pa_cons (pe_un un_neg pe_int) (pa_cons pe_int (pa_cons pe_bl (pa_cons pe_bl (pa_cons pe_non (pa_cons pe_str (pa_cons pe_str (pa_cons pe_str (pa_cons pe_int (pa_cons pe_int (pa_cons (pe_tup pa_nil) (pa_cons pe_str pa_nil))))))))))))) pa_nil))))
      (pss_cons (ps_if (pt_weak (PW.pt (pw_or (pt_cmpR (op_eqNilT hr.units) (pv 2) (pe_tup pa_nil) (nomark _)) (pw_or1 (pt_cmpR op_eq (pe_call GD hr2 (by rfl) T.dr T.kdr bD .nil pass0 (pa_cons (pv 0) (pa_cons pe_int pa_nil))) pe_int (nomark _)))))) (pss_one (ps_ret (pe_call GP hr (by rfl) T.pk T.kpk bP .nil pass0 (pa_cons (pv 0) (pa_cons (pe_lst (pa_cons (pe_op op_catA (pv 2) (pe_tup (pa_cons (pv 3) pa_nil))) (pa_cons (pe_callTy call_list_of (by rfl) T.lst (by decide +kernel) (pa_cons (pv 2) pa_nil)) (pa_cons pe_non (pa_cons pe_int (pa_cons pe_str (pa_cons (pe_op op_catA (pv 2) (pe_tup (pa_cons pe_int (pa_cons pe_int (pa_cons pe_int (pa_cons pe_int pa_nil)))))) (pa_cons pe_dnewK pa_nil)))))))) pa_nil))))) pss_nil)
      (pss_cons (ps_set (i := 4) scOth.nd rfl (Or.inl rfl) (pe_call GD hr2 (by rfl) T.dr T.kdr bD .nil pass0 (pa_cons (pv 0) (pa_cons (pe_callB call_len_seq (by rfl) T.len PySem.boot_len (pa_cons (pv 2) pa_nil)) pa_nil))))
      (pss_one (ps_ret (pe_op op_catA (pe_op op_catA (pe_slice sl_tupA (pv 2) po_none (po_some (pv 4))) (pe_tup (pa_cons (pv 3) pa_nil))) (pe_slice sl_tupA (pv 2) (po_some (pe_op op_add (pv 4) pe_int)) po_none))))))), ?_⟩
    refine ⟨_, rfl, _, rfl, (by show 0 ≤ sizeLine; decide), fun pa0 hpa0 => ?_⟩
    generalize hHa0 : upd H pa0 _ = Ha0
    obtain ⟨sa0, ea0⟩ := freshF hpa0 hHa0
    have ta0 : Same H Ha0 := sa0
    refine ⟨(by show 12 ≤ sizeLine; decide), fun la hpa1 => ?_⟩
    generalize hHa1 : upd Ha0 la _ = Ha
    obtain ⟨sa1, ea1⟩ := freshF hpa1 hHa1
    have ta1 : Same H Ha := ta0.trans sa1
    have ga1 := ((S.keep ta0).free hpa1).2.1
    have ua0 : Same Ha0 Ha := sa1
    have ta := ta1
    have dva : DVs g Ha [V.int (-1), V.int 64, V.bl true, V.bl false, V.non, V.str "", V.str "zz", V.str "number", V.int 0, V.int 1, V.ref pa0, V.str "a"] [Dt.int (-1), Dt.int 64, Dt.bl true, Dt.bl false, Dt.non, Dt.str "", Dt.str "zz", Dt.str "number", Dt.int 0, Dt.int 1, Dt.tup [], Dt.str "a"] := (.cons (.int _) (.cons (.int _) (.cons (.bl _) (.cons (.bl _) (.cons .non (.cons (.str (by decide +kernel)) (.cons (.str (by decide +kernel)) (.cons (.str (by decide +kernel)) (.cons (.int _) (.cons (.int _) (.cons (.tup (ua0 _ _ ea0) (by show 0 ≤ 1000; decide) .nil) (.cons (.str (by decide +kernel)) .nil))))))))))))
    have ea := ea1
    have hla := hpa1
    have fa := (S.keep ta0).free hla
    have na := ta0.free hla
    refine ⟨d, g, c, la, n, _, rfl, S.keep ta, by omega, ea, fa.2.1, by simp, (by show 12 ≤ 1000000; decide), fun ov H1 hov S1 kp1 => ?_⟩
    obtain ⟨dodd, _, hodd⟩ := dva.pick hov
    have hodd := hodd.keep (Kv.kp (S.keep ta) kp1)
    have kv1 := (Kv.of (g := g) ta).trans (Kv.kp (S.keep ta) kp1)
    have hb1 := kv1.tup _ _ hb
    have r1 := r.keep kv1
    have k1 : Kp d g H H1 := (Kp.of ta).trans kp1
    refine ⟨fun bb H2 => StA H2 d g c (n + 2) ∧ Kp d g H1 H2 ∧ (bb = false → 0 < t.length), ?_, ?_⟩
    · refine ⟨_, rfl, Nat.zero_le _, fun p hp => ?_⟩
      generalize hH2 : upd H1 p _ = H2
      obtain ⟨sp, ep⟩ := freshF hp hH2
      refine ⟨b, p, xs, rfl, rfl, SqT.of (sp _ _ hb1), SqT.of ep, _, rfl, ?_⟩
      have S2 := S1.keep sp
      cases hx : xs.isEmpty with
      | true => exact iteT ⟨S2.mono (by omega), Kp.of sp, fun z => by cases z⟩
      | false =>
        refine iteF ?_
        refine ⟨_, rfl, d, g, c, _, 3, rfl, S2, by omega, by decide, by decide, fun w H3 w0 w1 S3 kp3 => ⟨rfl, _, rfl, S3, (Kp.of sp).trans kp3, fun _ => ?_⟩⟩
        rw [← r.len]
        cases xs with
        | nil => cases hx
        | cons _ _ => simp
    · rintro bb H2 ⟨S2, kp2, hbb⟩
      have kv2 := Kv.kp S1 kp2
      have hb2 := kv2.tup _ _ hb1
      have r2 := r1.keep kv2
      have hodd := hodd.keep kv2
      have k2 := k1.trans kp2
      cases bb with
      | true =>
        refine iteT ?_
        refine ⟨_, rfl, _, rfl, _, rfl, (by show 1 ≤ sizeLine; decide), fun u hu => ?_⟩
        generalize hH3 : upd H2 u _ = H3
        obtain ⟨su, eu⟩ := freshF hu hH3
        refine catA_of (g := g) (ds := t) (es := [dodd]) (su _ _ hb2) eu (r2.keep (Kv.of su)) (.cons (hodd.keep (Kv.of su)) .nil) (by show t.length + 1 ≤ 1000; omega) (fun r1' zs1 H4 s4 e4 dv4 => ?_)
        have s24 := su.trans s4
        refine ⟨_, rfl, b, xs, rfl, .inr (SqT.of (s24 _ _ hb2)), fun l hl => ?_⟩
        generalize hH5 : upd H4 l _ = H5
        obtain ⟨sl, el⟩ := freshF hl hH5
        have lg := (((S2.keep s24)).free hl).2.1
        have s25 := s24.trans sl
        refine ⟨_, rfl, (by show 4 ≤ sizeLine; decide), fun w hw => ?_⟩
        generalize hH6 : upd H5 w _ = H6
        obtain ⟨sw, ew⟩ := freshF hw hH6
        refine catA_of (g := g) (ds := t) (es := [.int 0, .int 0, .int 0, .int 0]) ((s25.trans sw) _ _ hb2) ew (r2.keep (Kv.of (s25.trans sw))) (.cons (.int _) (.cons (.int _) (.cons (.int _) (.cons (.int _) .nil)))) (by show t.length + 4 ≤ 1000; omega) (fun r2' zs2 H7 s7 e7 dv7 => ?_)
        refine fun q hq => ?_
        generalize hH8 : upd H7 q _ = H8
        obtain ⟨sq, eq⟩ := freshF hq hH8
        refine ⟨(by show 7 ≤ sizeLine; decide), fun o ho => ?_⟩
        generalize hH9 : upd H8 o _ = H9
        obtain ⟨so, eo⟩ := freshF ho hH9
        have s79 := sq.trans so
        have s59 := (sw.trans s7).trans s79
        have s49 := sl.trans s59
        have s29 := s24.trans s49
        have S9 := S2.keep s29
        have dvs : DVs g H9 [.ref r1', .ref l, .non, .int 0, .str "a", .ref r2', .ref q] [.tup (t ++ [dodd]), .lst t, .non, .int 0, .str "a", .tup (t ++ [.int 0, .int 0, .int 0, .int 0]), .dic] :=
          .cons (.tup (s49 _ _ e4) (by rw [List.length_append]; show t.length + 1 ≤ 1000; omega) (dv4.keep (Kv.of s49))) (.cons (.lst (s59 _ _ el) lg (by omega) (r2.keep (Kv.of s29))) (.cons .non (.cons (.int _) (.cons (.str (by decide +kernel)) (.cons (.tup (s79 _ _ e7) (by rw [List.length_append]; show t.length + 4 ≤ 1000; omega) (dv7.keep (Kv.of s79))) (.cons (.dic (so _ _ eq)) .nil))))))
        refine ⟨d, g, c, o, _, _, rfl, S9, by omega, eo, ((S2.keep (((s25.trans sw).trans s7).trans sq)).free ho).2.1, by simp, (by show 7 ≤ 1000000; decide), fun fv Hs hfv Ss kps => ?_⟩
        obtain ⟨dt, _, hdt⟩ := dvs.pick hfv
        exact k fv dt Hs (hdt.keep (Kv.kp S9 kps)) (Ss.mono (by omega)) ((k2.trans (Kp.of s29)).trans kps)
      | false =>
        refine iteF ?_
        have hpos := hbb rfl
        have rl := r2.len
        refine ⟨_, rfl, _, rfl, b, _, rfl, .inr (SqT.of hb2), d, g, c, _, _, rfl, S2, by omega, by omega, by omega, fun w H3 w0 w1 S3 kp3 => ?_⟩
        obtain ⟨q, rfl⟩ := Int.eq_ofNat_of_zero_le w0
        have kv3 := Kv.kp S2 kp3
        have hb3 := kv3.tup _ _ hb2
        have r3 := r2.keep kv3
        have hodd := hodd.keep kv3
        refine ⟨_, rfl, _, rfl, _, rfl, slA_take (g := g) hb3 r3 trivial fun p1 zs1 H4 s4 e4 dv4 => ?_⟩
        refine ⟨_, rfl, (by show 1 ≤ sizeLine; decide), fun u hu => ?_⟩
        generalize hH5 : upd H4 u _ = H5
        obtain ⟨su, eu⟩ := freshF hu hH5
        have tl1 : (t.take q).length ≤ 4 := by rw [List.length_take]; omega
        refine catA_of (g := g) (ds := t.take q) (es := [dodd]) (su _ _ e4) eu (dv4.keep (Kv.of su)) (.cons (hodd.keep (Kv.of (s4.trans su))) .nil) (by show (t.take q).length + 1 ≤ 1000; omega) (fun p2 zs2 H6 s6 e6 dv6 => ?_)
        have s36 := (s4.trans su).trans s6
        have e : ((q : Nat) : Int) + 1 = ((q + 1 : Nat) : Int) := by omega
        refine ⟨_, rfl, _, rfl, _, _, rfl, rfl, ((q + 1 : Nat) : Int), congrArg V.int e, slA_dropN (q := q + 1) (g := g) (s36 _ _ hb3) (r3.keep (Kv.of s36)) (by omega) fun p3 zs3 H7 s7 e7 dv7 => ?_⟩
        have dl : (t.drop (q + 1)).length ≤ 4 := by rw [List.length_drop]; omega
        refine catA_of (g := g) (ds := t.take q ++ [dodd]) (es := t.drop (q + 1)) (s7 _ _ e6) e7 (dv6.keep (Kv.of s7)) dv7 (by rw [List.length_append]; show (t.take q).length + 1 + _ ≤ 1000; omega) (fun p4 zs4 H8 s8 e8 dv8 => ?_)
        have s38 := (s36.trans s7).trans s8
        refine k _ (.tup _) H8 (.tup e8 ?_ dv8) ((S3.keep s38).mono (by omega)) ((k2.trans kp3).trans (Kp.of s38))
        rw [List.length_append, List.length_append]
        show (t.take q).length + 1 + _ ≤ 1000
        omega
end
/-! ### more levels change nothing -/
theorem mono1 : ∀ (n : Nat) (d : Dt), formed n d = true → formed (n + 1) d = true ∧ wordsN (n + 1) d = wordsN n d
  | n, d, h => by
    rcases formed_cases h with ⟨s, rfl, hs⟩ | ⟨m, rfl, ⟨l, rfl, h1, h2, h3, h4⟩ | ⟨i, z, rfl, h1, h2, h3⟩⟩
    · rw [formed_str, words_str, words_str]
      exact ⟨hs, rfl⟩
    · have each : ∀ p ∈ l, pairF (formed (m + 2)) p = true ∧ sndW (wordsN (m + 2)) p = sndW (wordsN (m + 1)) p := fun p hp => by
        obtain ⟨s, y, rfl, hs, hy⟩ := pairF_of (h3 p hp)
        obtain ⟨a, b⟩ := mono1 (m + 1) y hy
        refine ⟨?_, b⟩
        show (nameS s && formed (m + 2) y) = true
        rw [hs, a]
        rfl
      refine ⟨?_, ?_⟩
      · rw [formed_two]
        show (true && ((decide (1 ≤ (l.length : Int)) && decide ((l.length : Int) ≤ 6)) && (l.all (pairF (formed (m + 2))) && decide (l.map nmOf).Nodup))) = true
        rw [decide_eq_true (show 1 ≤ (l.length : Int) by omega), decide_eq_true (show (l.length : Int) ≤ 6 by omega), decide_eq_true h4, List.all_eq_true.mpr fun p hp => (each p hp).1]
        rfl
      · rw [words_two, words_two]
        show (l.map (sndW (wordsN (m + 2)))).sum = (l.map (sndW (wordsN (m + 1)))).sum
        congr 1
        exact List.map_congr_left fun p hp => (each p hp).2
    · obtain ⟨a, b⟩ := mono1 (m + 1) z h3
      refine ⟨?_, ?_⟩
      · rw [formed_two]
        show (true && ((decide (1 ≤ i) && decide (i ≤ 64)) && formed (m + 2) z)) = true
        rw [decide_eq_true h1, decide_eq_true h2, a]
        rfl
      · rw [words_two, words_two]
        show i * wordsN (m + 2) z = i * wordsN (m + 1) z
        rw [b]
  termination_by n => n
  decreasing_by all_goals omega
theorem monoW {n m : Nat} {d : Dt} (h : formed n d = true) (hm : n ≤ m) : formed m d = true ∧ wordsN m d = wordsN n d := by
  obtain ⟨e, rfl⟩ := Nat.exists_eq_add_of_le hm
  clear hm
  induction e with
  | zero => exact ⟨h, rfl⟩
  | succ e ih =>
    obtain ⟨a, b⟩ := mono1 _ _ ih.1
    exact ⟨a, b.trans ih.2⟩
theorem FK_congr {w w' : Dt → Int} {s : Str} : ∀ {l : List Dt} {a : Int}, (∀ p ∈ l, w (sndD p) = w' (sndD p)) → FK w l s a = FK w' l s a
  | [], a, _ => rfl
  | p :: r, a, h => by
    have e1 : FK w (p :: r) s a = if nmOf p = s then some (sndD p, a) else FK w r s (a + w (sndD p)) := rfl
    have e2 : FK w' (p :: r) s a = if nmOf p = s then some (sndD p, a) else FK w' r s (a + w' (sndD p)) := rfl
    rw [e1, e2, h p List.mem_cons_self, FK_congr fun q hq => h q (List.mem_cons_of_mem _ hq)]
theorem ST_mono {n : Nat} {d s : Dt} (h : formed n d = true) : ST (n + 1) d s = ST n d s := by
  rcases formed_cases h with ⟨s', rfl, hs⟩ | ⟨m, rfl, ⟨l, rfl, h1, h2, h3, h4⟩ | ⟨i, z, rfl, h1, h2, h3⟩⟩
  · rw [ST_str, ST_str]
  · cases s with
    | str s' => exact FK_congr fun p hp => (mono1 _ _ (pair_snd (h3 p hp)).1).2
    | _ => rfl
  · cases s with
    | int k =>
      show (if 0 ≤ k ∧ k < i then some (z, k * wordsN (m + 2) z) else none) = if 0 ≤ k ∧ k < i then some (z, k * wordsN (m + 1) z) else none
      rw [(mono1 _ _ h3).2]
    | _ => rfl
theorem WK_mono1 : ∀ {l : List Dt} {n : Nat} {d : Dt}, formed n d = true → WK (n + 1) d l = WK n d l
  | [], n, d, _ => by rw [WK_nil, WK_nil]
  | s :: r, 0, d, h => by
    rw [WK_cons, ST_mono h]
    have : ST 0 d s = none := rfl
    rw [this]
    rfl
  | s :: r, n + 1, d, h => by
    rw [WK_cons, WK_cons, ST_mono h]
    cases hs : ST (n + 1) d s with
    | none => rfl
    | some x =>
      obtain ⟨z, a⟩ := x
      have hz := ST_formed h hs
      show (WK (n + 1) z r).map _ = (WK n z r).map _
      rw [WK_mono1 (show formed n z = true from hz)]
theorem WK_mono {n m : Nat} {d : Dt} {l : List Dt} (h : formed n d = true) (hm : n ≤ m) : WK m d l = WK n d l := by
  obtain ⟨e, rfl⟩ := Nat.exists_eq_add_of_le hm
  clear hm
  induction e with
  | zero => rfl
  | succ e ih => exact (WK_mono1 (monoW h (Nat.le_add_right n e)).1).trans ih
theorem FK_in {w : Dt → Int} {p : Dt} : ∀ {l : List Dt} {a : Int}, p ∈ l → (l.map nmOf).Nodup → ∃ b, FK w l (nmOf p) a = some (sndD p, b)
  | q :: r, a, h, nd => by
    have e : FK w (q :: r) (nmOf p) a = if nmOf q = nmOf p then some (sndD q, a) else FK w r (nmOf p) (a + w (sndD q)) := rfl
    rw [List.map_cons] at nd
    obtain ⟨n1, n2⟩ := List.nodup_cons.mp nd
    rcases List.mem_cons.mp h with rfl | h
    · exact ⟨a, by rw [e, if_pos rfl]⟩
    · have ne : nmOf q ≠ nmOf p := fun z => n1 (z ▸ List.mem_map.mpr ⟨p, h, rfl⟩)
      obtain ⟨b, hb⟩ := FK_in (w := w) (a := a + w (sndD q)) h n2
      exact ⟨b, by rw [e, if_neg ne, hb]⟩
/-- each trail leads to a plain kind -/
theorem tr_walk : ∀ (n : Nat) (d : Dt), formed n d = true → ∀ t ∈ TN n d, ∃ s a, WK n d t = some (.str s, a)
  | n, d, h, t, ht => by
    rcases formed_cases h with ⟨s, rfl, _⟩ | ⟨m, rfl, ⟨l, rfl, h1, h2, h3, h4⟩ | ⟨i, z, rfl, h1, h2, h3⟩⟩
    · rw [TN_str] at ht
      rw [List.mem_singleton.mp ht, WK_nil]
      exact ⟨_, _, rfl⟩
    · rw [TN_two] at ht
      obtain ⟨p, hp, ht⟩ := List.mem_flatMap.mp (show t ∈ l.flatMap _ from ht)
      obtain ⟨t', ht', rfl⟩ := List.mem_map.mp ht
      obtain ⟨s, a, hw⟩ := tr_walk (m + 1) _ (pair_snd (h3 p hp)).1 t' ht'
      have step : ∃ b, FK (wordsN (m + 1)) l (nmOf p) 0 = some (sndD p, b) := FK_in hp h4
      obtain ⟨b, hb⟩ := step
      rw [WK_cons]
      have hs : ST (m + 2) (.tup [.str "record", .tup l]) (.str (nmOf p)) = some (sndD p, b) := hb
      rw [hs]
      show ∃ s a, (WK (m + 1) (sndD p) t').map _ = _
      rw [hw]
      exact ⟨_, _, rfl⟩
    · rw [TN_two] at ht
      obtain ⟨k, hk, ht⟩ := List.mem_flatMap.mp (show t ∈ (List.range i.toNat).flatMap _ from ht)
      obtain ⟨t', ht', rfl⟩ := List.mem_map.mp ht
      obtain ⟨s, a, hw⟩ := tr_walk (m + 1) _ h3 t' ht'
      have hk := List.mem_range.mp hk
      rw [WK_cons]
      have hs : ST (m + 2) (.tup [.str "row", .int i, z]) (.int (k : Nat)) = some (z, ((k : Nat) : Int) * wordsN (m + 1) z) := by
        show (if 0 ≤ ((k : Nat) : Int) ∧ ((k : Nat) : Int) < i then some (z, ((k : Nat) : Int) * wordsN (m + 1) z) else none) = _
        rw [if_pos ⟨by omega, by omega⟩]
      rw [hs]
      show ∃ s a, (WK (m + 1) z t').map _ = _
      rw [hw]
      exact ⟨_, _, rfl⟩
  termination_by n => n
  decreasing_by all_goals omega
end K1

set_option Elab.async false
set_option linter.all false
set_option pp.maxSteps 700
set_option maxRecDepth 100000
set_option maxHeartbeats 4000000
namespace K1
open PySem PySem.Spec PyProof.Rows L2
open LamX (GivesTo CodeO Tabs TabS TabB tLam pe_lamcall lamCx lamEnv lamS_by ExtN)
open TL (tl)
abbrev sWr : Stmt := top 50
abbrev qW : Str := ("_law_words_right" : Str) ++ ".<locals>." ++ "<lambda>"
abbrev qL : Str := ("law" : Str) ++ ".<locals>." ++ "<lambda>"
abbrev tbs (PTW PTL : Addr) : List (Addr × Str) := [(PTW, qW), (PTL, qL)]
/-! ### one of several defs, that a local name holds -/
def tCallS (i : Nat) (S : Addr → Option Sp) (E : XK) (t : TA) : TE := fun σ H Q => ∃ f sp, σ[i]? = some (some (.ref f)) ∧ S f = some sp ∧ t σ H fun vs H1 => sp vs H1 Q E
section
variable {X : Cx} {CX : CXT} {k i : Nat} {E : XK} {x : Str} {p pos : Pos} {e : Expr} {es : List Expr} {t : TA}
theorem pe_callS' {S : Addr → Option Sp} (A : ∀ f sp, S f = some sp → ∃ fd ps, FnOk X.prog X.w X.K X.mg X.base CX k f fd ps sp ∧ PySem.W.keepIn X.K (.ref f) = true ∧ L2.Binds X.K fd ps []) (hr : Room k X.A) (hN : X.N[i]? = some x) (hv : Vis X.env.scope x) (hx : Passes CX X E) (ha : PA X (e :: es) t)
    (hdb : (x == ("__debug__" : Str)) = false := by decide) (hcd : (x == ("__classdict__" : Str)) = false := by decide)
    (he : starEach (e :: es) X.env = (false, eval e X.env) :: starEach es X.env := by rfl) (hpl : (backTo pos (starEach es X.env)).any (·.1) = false := by rfl) : PE X (.Call (.Name x p) (e :: es) [] pos) (tCallS i S E t) := by
  refine ⟨fun pins s σ H Q I h => ?_⟩
  obtain ⟨f, sp, hs, hS, ht⟩ := h
  obtain ⟨fd, ps, F, hk, hb⟩ := A f sp hS
  refine (pe_callL (i := i) (f := f) (sp := sp) (dvs := []) (E := E) F hr hN hv hk hb .nil hx ha hdb hcd he hpl).run pins s σ H Q I ⟨hs, ?_⟩
  have e0 : (fun (vs : List V) (H1 : Hp) => sp (vs ++ []) H1 Q E) = fun vs H1 => sp vs H1 Q E := by
    funext vs H1
    rw [List.append_nil]
  show t σ H (fun vs H1 => sp (vs ++ []) H1 Q E)
  rw [e0]
  exact ht
end
/-! ### a kept error without a dict -/
def rIsH0 (K : PySem.W.Frag) (D : Addr) : List V → Hp → VK → Prop := fun xs H Q => ∃ (a : Addr) (c : V) (cv : Value) (b : Bool), xs = [.ref a, c] ∧ (∀ u, RelV c u → u = cv) ∧ H a = some (exh a (.ref D) none) ∧
  PySem.W.kitOne K (.ref D) cv = some b ∧ Q (.bl b) H
theorem call_isH0 {X : Cx} {D : Addr} (C : ExcC X.K D) : CallR X (.builtin "isinstance") (rIsH0 X.K D) := by
  intro pins s σ H xs us Q I r h
  obtain ⟨a, c, cv, b, rfl, hcv, h1, e, q⟩ := h
  obtain ⟨u1, u2, rfl, r1, r2⟩ := vals2 r
  cases r1
  have ec := hcv _ r2
  subst ec
  obtain ⟨oe, vs, ha, hz, hd⟩ := exh_at I.hok h1
  have J : PySem.W.InstAt s.heap a oe D none := ⟨ha, hz.1, by unfold PySem.W.notCls; rw [hd] <;> rfl, by rw [hz.2]; trivial⟩
  have hcl : (PySem.W.clsIn X.K D).isSome = true := by
    obtain ⟨cd, hc, _⟩ := PySem.W.any_some C.hd
    rw [hc]
    rfl
  exact PySem.W.kia_one (PySem.W.kitx_exc hcl C.hg C.hk C.hs C.ha C.hn C.ht C.hm) I.kIn J e (fun z => nomatch z) fun tk => ⟨.bl b, H, I.kept (t' := tk) fun _ _ z => z, rfl, q⟩
theorem kit_self {K : PySem.W.Frag} {S : Addr} : PySem.W.kitOne K (.ref S) (.ref S) = some true := by
  unfold PySem.W.kitOne
  rw [if_pos (beq_self_eq_true _)]
theorem Kv.extN {g : Addr} {H H' : Hp} (k : ExtN H H') : Kv g H H' := ⟨fun b xs e _ => k _ _ e (fun _ z => by cases z), fun b xs e => k _ _ e (fun _ z => by cases z), fun b e => k _ _ e (fun _ z => by cases z)⟩
theorem StA.extN {H H' : Hp} {d g c : Addr} {n : Nat} (S : StA H d g c n) (k : ExtN H H') : StA H' d g c n := by
  obtain ⟨r, tt, gs, cs, S⟩ := S
  exact ⟨r, tt, gs, cs, { S with dk := k _ _ S.dk (fun _ z => by cases z), gl := k _ _ S.gl (fun _ z => by cases z), cl := k _ _ S.cl (fun _ z => by cases z) }⟩
theorem tabs_but {T : List (Addr × Str)} {H H' : Hp} (t : Tabs T H) (k : ∀ b o, H b = some o → (∀ kv, o ≠ .dK kv) → (∀ xs, o ≠ .lst xs) → H' b = some o) : Tabs T H' := fun p hp => by
  obtain ⟨ps, h1, h2, h3⟩ := t p hp
  refine ⟨ps, k _ _ h1 (fun _ z => by cases z) (fun _ z => by cases z), h2, fun pos cv hc => ?_⟩
  obtain ⟨c', e1, e2⟩ := h3 pos cv hc
  exact ⟨c', e1, k _ _ e2 (fun kv z => by unfold CodeO at z; cases z) (fun xs z => by unfold CodeO at z; cases z)⟩
theorem tabs_kp {T : List (Addr × Str)} {H H' : Hp} {d g c : Addr} {n : Nat} (t : Tabs T H) (S : StA H d g c n) (k : Kp d g H H') : Tabs T H' := by
  obtain ⟨r, tt, gs, cs, S⟩ := S
  refine tabs_but t fun b o e n1 n2 => k b o e (fun z => ?_) (fun z => ?_)
  · rw [z] at e
    exact n1 _ (Option.some.inj (e.symm.trans S.dk))
  · rw [z] at e
    exact n2 _ (Option.some.inj (e.symm.trans S.gl))
/-- all stays but the state's own and the tables -/
def KpE (d g : Addr) (H H' : Hp) : Prop := ∀ b o, H b = some o → b ≠ d → b ≠ g → (∀ ps, o ≠ .tbl ps) → H' b = some o
theorem KpE.kp {d g : Addr} {H H' : Hp} (k : Kp d g H H') : KpE d g H H' := fun b o e h1 h2 _ => k b o e h1 h2
theorem KpE.ext {d g : Addr} {H H' : Hp} (k : ExtN H H') : KpE d g H H' := fun b o e _ _ n => k b o e n
theorem KpE.of {d g : Addr} {H H' : Hp} (k : Same H H') : KpE d g H H' := fun b o e _ _ _ => k b o e
theorem KpE.trans {d g : Addr} {H H1 H2 : Hp} (a : KpE d g H H1) (b : KpE d g H1 H2) : KpE d g H H2 := fun c o e h1 h2 n => b c o (a c o e h1 h2 n) h1 h2 n
/-! ### places -/
theorem filt_first {α : Type} {TS A M B : List α} {m0 x0 : α} {Q : α → Bool} (e : TS = A ++ ((m0 :: M) ++ B)) (hA : ∀ u ∈ A, Q u = false) (hm : Q m0 = true) : ∃ rest, (List.range TS.length).filter (fun j => Q (TS.getD j x0)) = A.length :: rest := by
  have hl : TS.length = A.length + (1 + (M ++ B).length) := by
    rw [e, List.length_append, List.length_append, List.length_cons, List.length_append]
    omega
  rw [hl, List.range_add, List.range_add, List.filter_append]
  have e1 : (List.range A.length).filter (fun j => Q (TS.getD j x0)) = [] := List.filter_eq_nil_iff.mpr fun j hj h => by
    have hj := List.mem_range.mp hj
    have : TS.getD j x0 = A[j] := by
      rw [e, List.getD_eq_getElem?_getD, List.getElem?_append_left hj, List.getElem?_eq_getElem hj]
      rfl
    rw [this, hA _ (List.getElem_mem hj)] at h
    cases h
  rw [e1, List.nil_append, List.map_append, List.filter_append]
  have e2 : TS.getD A.length x0 = m0 := by
    rw [e, List.getD_eq_getElem?_getD, List.getElem?_append_right (Nat.le_refl _), Nat.sub_self]
    rfl
  have e3 : ((List.range 1).map (A.length + ·)).filter (fun j => Q (TS.getD j x0)) = [A.length] := by
    show [A.length + 0].filter _ = _
    rw [Nat.add_zero, List.filter_cons, e2, hm]
    rfl
  rw [e3]
  exact ⟨_, rfl⟩
/-- all that is known of a trail cut in two -/
theorem cut_facts {dk : Dt} (hk : kindB dk = true) {t : List Dt} {a q : Nat} (ht : (TN 4 dk)[a]? = some t) (hq : q ≤ t.length) : ∃ (y : Dt) (off o2 : Int) (s : Str) (A M B : List (List Dt)) (m0 : List Dt),
    WK 4 dk (t.take q) = some (y, off) ∧ kindB y = true ∧ WK 4 y (t.drop q) = some (.str s, o2) ∧ WK 4 dk t = some (.str s, off + o2) ∧ off + o2 = (a : Int) ∧
    TN 4 dk = A ++ ((m0 :: M) ++ B) ∧ (A.length : Int) = off ∧ (∀ u ∈ A, u.take q ≠ t.take q) ∧ m0.take q = t.take q := by
  have hk2 := hk
  unfold kindB at hk2
  rw [Bool.and_eq_true, decide_eq_true_eq] at hk2
  obtain ⟨hf, hw⟩ := hk2
  have htm := List.mem_of_getElem? ht
  obtain ⟨s, at_, hwt⟩ := tr_walk 4 dk hf t htm
  have lq : (t.take q).length = q := by rw [List.length_take]; omega
  have happ := WK_app (t.take q) 4 dk (t.drop q)
  rw [List.take_append_drop, hwt, lq] at happ
  cases hp : WK 4 dk (t.take q) with
  | none =>
    rw [hp] at happ
    cases happ
  | some x =>
    obtain ⟨y, off⟩ := x
    rw [hp] at happ
    have happ : some (Dt.str s, at_) = (WK (4 - q) y (t.drop q)).map fun u => (u.1, off + u.2) := happ
    cases hr : WK (4 - q) y (t.drop q) with
    | none =>
      rw [hr] at happ
      cases happ
    | some z =>
      obtain ⟨leaf, o2⟩ := z
      rw [hr] at happ
      injection happ with happ
      injection happ with e1 e2
      have e1 : Dt.str s = leaf := e1
      have e2 : at_ = off + o2 := e2
      subst e1
      obtain ⟨fy, A, B, hAB, hA, nA, nB⟩ := idx (t.take q) 4 dk y off hf hp
      rw [lq] at fy hAB nA nB
      obtain ⟨fs, A', B', hAB', hA', nA', nB'⟩ := idx t 4 dk (.str s) at_ hf hwt
      rw [TN_str] at hAB'
      have one : ([[]] : List (List Dt)).map (t ++ ·) = [t] := by simp
      rw [one] at hAB'
      -- a is the place of t
      have ha : (a : Int) = at_ := by
        rw [hAB'] at ht
        have tt : t.take t.length = t := List.take_length
        by_cases h1 : a < A'.length
        · rw [List.getElem?_append_left h1] at ht
          exact absurd tt (nA' t (List.mem_of_getElem? ht))
        · rw [List.getElem?_append_right (by omega)] at ht
          by_cases h2 : a - A'.length = 0
          · omega
          · have e3 : ([t] ++ B')[a - A'.length]? = B'[a - A'.length - 1]? := by
              obtain ⟨c, hc⟩ : ∃ c, a - A'.length = c + 1 := ⟨a - A'.length - 1, by omega⟩
              rw [hc]
              rfl
            rw [e3] at ht
            exact absurd tt (nB' t (List.mem_of_getElem? ht))
      -- the part's words
      have ly : (TN (4 - q) y).length ≤ (TN 4 dk).length := by
        rw [hAB, List.length_append, List.length_append, List.length_map]
        omega
      have w1 := TN_len _ _ fy
      have w2 := TN_len _ _ hf
      obtain ⟨fy4, wy4⟩ := monoW fy (show 4 - q ≤ 4 by omega)
      have ky : kindB y = true := by
        unfold kindB
        rw [fy4, wy4, decide_eq_true (show wordsN (4 - q) y ≤ 400 by omega)]
        rfl
      have hry : WK 4 y (t.drop q) = some (.str s, o2) := by rw [WK_mono fy (show 4 - q ≤ 4 by omega), hr]
      have wpos := (words_bound _ _ fy).1
      cases hM : TN (4 - q) y with
      | nil =>
        rw [hM] at w1
        simp at w1
        omega
      | cons u0 us =>
        rw [hM] at hAB
        refine ⟨y, off, o2, s, A, us.map (t.take q ++ ·), B, t.take q ++ u0, rfl, ky, hry, by rw [hwt, e2], by omega, hAB, hA, nA, ?_⟩
        rw [List.take_append_of_le_length (by rw [lq]; exact Nat.le_refl _), List.take_take]
        congr 1
        omega
end K1

set_option Elab.async false
set_option linter.all false
set_option pp.maxSteps 700
set_option maxRecDepth 100000
set_option maxHeartbeats 8000000
namespace K1
open PySem PySem.Spec PyProof.Rows L2
open LamX (GivesTo CodeO Tabs TabS TabB tLam pe_lamcall lamCx lamEnv lamS_by ExtN)
open TL (tl)
theorem pur_walk : ∀ {l : List Dt} {n : Nat} {d y : Dt} {a : Int}, pur d = true → formed n d = true → WK n d l = some (y, a) → pur y = true
  | [], n, d, y, a, hp, _, h => by
    rw [WK_nil] at h
    injection h with h
    injection h with h _
    rw [← h]
    exact hp
  | s :: r, 0, d, y, a, _, _, h => by cases h
  | s :: r, n + 1, d, y, a, hp, hf, h => by
    rw [WK_cons] at h
    obtain ⟨⟨z, a1⟩, hs, h⟩ := Option.bind_eq_some_iff.mp h
    obtain ⟨⟨y', b⟩, hw, he⟩ := Option.map_eq_some_iff.mp h
    injection he with he1 _
    have he1 : y' = y := he1
    rw [← he1]
    exact pur_walk (pur_sub hp hf hs) (ST_formed hf hs) hw
theorem deps_steps {l : List Dt} (h : ∀ s ∈ l, isStep s = true) : deps l ≤ 0 := deps_le fun s hs => by
  have := h s hs
  cases s with
  | int _ => exact Nat.le_refl _
  | str _ => exact Nat.le_refl _
  | _ => cases this
structure MgV (K : PySem.W.Frag) (mg : Str → Option Value) (CE BT fP fD fLat fInn fOff fOth fCgt : Addr) : Prop where
  pk : mg "_law_pick" = some (.ref fP)
  kpk : PySem.W.keepIn K (.ref fP) = true
  dr : mg "_law_draw" = some (.ref fD)
  kdr : PySem.W.keepIn K (.ref fD) = true
  lat : mg "_law_at" = some (.ref fLat)
  klat : PySem.W.keepIn K (.ref fLat) = true
  inn : mg "inner_kind" = some (.ref fInn)
  kinn : PySem.W.keepIn K (.ref fInn) = true
  off : mg "offset_of" = some (.ref fOff)
  koff : PySem.W.keepIn K (.ref fOff) = true
  oth : mg "_law_other_trail" = some (.ref fOth)
  koth : PySem.W.keepIn K (.ref fOth) = true
  cgt : mg "_law_caught" = some (.ref fCgt)
  kcgt : PySem.W.keepIn K (.ref fCgt) = true
  ce : mg "ClockError" = some (.ref CE)
  bt : mg "BadTrail" = some (.ref BT)
  exm : PySem.W.exmOne K (.ref BT) (.ref CE) = some true
  exc : ExcC K BT
  isi : mg "isinstance" = none
  rng : mg "range" = none
  len : mg "len" = none
  tpl : mg "tuple" = none
def spWr (PTW PTL : Addr) : Sp := fun vs H Q _ => ∃ (d g c L : Addr) (n : Nat) (kv : V) (dk : Dt) (ys : List V), vs = [.ref d, kv, .ref L] ∧ StA H d g c n ∧ n ≤ 400000000 ∧ DV g H kv dk ∧ pur dk = true ∧ kindB dk = true ∧
  H L = some (.lst ys) ∧ DVs g H ys ((TN 4 dk).map Dt.tup) ∧ L ≠ d ∧ L ≠ g ∧ Tabs (tbs PTW PTL) H ∧
  ∀ H', StA H' d g c (n + 120) → KpE d g H H' → Tabs (tbs PTW PTL) H' → Q (.bl true) H'
theorem tbs_u {PTW PTL : Addr} (hne : PTW ≠ PTL) : ∀ p ∈ tbs PTW PTL, p.1 = PTW → p.2 = qW := fun p hp e => by
  rcases List.mem_cons.mp hp with rfl | hp
  · rfl
  · rw [List.mem_singleton.mp hp] at e
    exact absurd e.symm hne
def kw0 {α : Type} : List α → List α → List α
  | [], ws => ws
  | _ :: _, _ => []
section
variable {P : Program} {w : World} {K : PySem.W.Frag} {mg : Str → Option Value} {base : Heap}
theorem scWr : FnScope ["state", "kind", "due", "turn", "at", "trail", "cut", "inner", "first", "other", "there", "ask", "raised", "one"] ["state", "kind", "due"] (defScope sWr) := ⟨rfl, rfl, rfl, by decide +kernel, rfl, by decide +kernel, by decide +kernel⟩
theorem ok_wr {f cW PTW PTL CE C BT fP fD fLat fInn fOff fOth fCgt : Addr} {fdP fdD fdLat fdInn fdOff fdOth : FuncData} {oc kV doc pm ct : Value} {od an : Option Addr} {sl : Array (Option Value)}
    {ocg kVg docg pmg cdg ctg : Value} {odg ang : Option Addr} {slg : Array (Option Value)}
    (lk : K.lookup f = some ⟨oc, od, .func (PySem.W.fnOf "_law_words_right" "_law_words_right" (defArgs sWr) (defBody sWr) (defScope sWr) .none kV doc pm an (.ref cW) ct), sl⟩) (hcd : PySem.W.codeIn K (.ref cW) "_law_words_right" = true)
    (lkg : K.lookup fCgt = some ⟨ocg, odg, .func (PySem.W.fnOf "_law_caught" "_law_caught" (defArgs sCgt) (defBody sCgt) (defScope sCgt) .none kVg docg pmg ang cdg ctg), slg⟩) (hcg : PySem.W.codeIn K cdg "_law_caught" = true)
    (bCgt : L2.Binds K (PySem.W.fnOf "_law_caught" "_law_caught" (defArgs sCgt) (defBody sCgt) (defScope sCgt) .none kVg docg pmg ang cdg ctg) ["action"] [])
    (T : MgV K mg CE BT fP fD fLat fInn fOff fOth fCgt) (TB : TabB base mg cW PTW) (hne : PTW ≠ PTL)
    (GP : FnOk P w K mg base CX0 3 fP fdP ["state", "some"] spPck) (bP : L2.Binds K fdP ["state", "some"] [])
    (GD : FnOk P w K mg base CX0 2 fD fdD ["state", "room"] spDrw) (bD : L2.Binds K fdD ["state", "room"] [])
    (GL : FnOk P w K mg base CX0 1 fLat fdLat ["kind", "trail"] spLat) (bL : L2.Binds K fdLat ["kind", "trail"] [])
    (GI : FnOk P w K mg base (L2.CX P w) 12 fInn fdInn ["kind", "trail"] (spAt C BT ansI)) (bI : L2.Binds K fdInn ["kind", "trail"] [])
    (GO : FnOk P w K mg base (L2.CX P w) 12 fOff fdOff ["kind", "trail"] (spAt C BT ansO)) (bO : L2.Binds K fdOff ["kind", "trail"] []) (kO : KBinds K fdOff ["kind", "trail"] ["kind", "trail"] kw0 kw0)
    (GT : FnOk P w K mg base CX0 4 fOth fdOth ["state", "kind", "trail"] spOth) (bT : L2.Binds K fdOth ["state", "kind", "trail"] []) :
    FnOk P w K mg base CX0 15 f (PySem.W.fnOf "_law_words_right" "_law_words_right" (defArgs sWr) (defBody sWr) (defScope sWr) .none kV doc pm an (.ref cW) ct) ["state", "kind", "due"] (spWr PTW PTL) := by
  have SA : ∀ f' sp', (if f' = fInn then some (spAt C BT ansI) else if f' = fOff then some (spAt C BT ansO) else none) = some sp' → ∃ fd ps, FnOk P w K mg base (L2.CX P w) 12 f' fd ps sp' ∧ PySem.W.keepIn K (.ref f') = true ∧ L2.Binds K fd ps [] := fun f' sp' h => by
    by_cases h1 : f' = fInn
    · rw [if_pos h1] at h
      rw [h1, ← Option.some.inj h]
      exact ⟨_, _, GI, T.kinn, bI⟩
    · rw [if_neg h1] at h
      by_cases h2 : f' = fOff
      · rw [if_pos h2] at h
        rw [h2, ← Option.some.inj h]
        exact ⟨_, _, GO, T.koff, bO⟩
      · rw [if_neg h2] at h
        cases h
  have asks : ∀ f', f' = fInn ∨ f' = fOff → ∃ ans, (if f' = fInn then some (spAt C BT ansI) else if f' = fOff then some (spAt C BT ansO) else none) = some (spAt C BT ans) ∧ ∀ (g : Addr) (y : Dt) (a : Int) (H H' : Hp) (Q : VK), (∀ x, Q x H') → ans g y a H H' Q := fun f' h => by
    by_cases h1 : f' = fInn
    · exact ⟨ansI, by rw [if_pos h1], fun g y a H H' Q k v' _ => k v'⟩
    · rcases h with h | h
      · exact absurd h h1
      · exact ⟨ansO, by rw [if_neg h1, if_pos h], fun g y a H H' Q k => k _⟩
  refine fn_of lk hcd scWr (fun vs H Q E h => ?_) (fun A outer s H vs Q E hr h => ?_)
  · obtain ⟨d, g, c, L, n, kv, dk, ys, rfl, _⟩ := h
    rfl
  · obtain ⟨d, g, c, L, n, kv, dk, ys, rfl, S, hn, hkv, pk, hk, hL, dvL, Ld, Lg, hT, k⟩ := h
    have hr1 : Room 1 _ := hr.mono (by decide)
    have hr2 : Room 2 _ := hr.mono (by decide)
    have hr3 : Room 3 _ := hr.mono (by decide)
    have hr4 : Room 4 _ := hr.mono (by decide)
    have hr12 : Room 12 _ := hr.mono (by decide)
    classical
    have hk2 := hk
    unfold kindB at hk2
    rw [Bool.and_eq_true, decide_eq_true_eq] at hk2
    obtain ⟨hf, hw400⟩ := hk2
    have wpos := (words_bound _ _ hf).1
    have hlen := TN_len 4 dk hf
    have lys : ys.length = (TN 4 dk).length := by rw [dvL.len, List.length_map]
    have lpos : 0 < ys.length := by omega
    have pT : purs ((TN 4 dk).map Dt.tup) = true := purs_tups fun t ht => (TN_pur 4 dk hf t ht).1
    have steps := TN_steps 4 dk hf
    refine ⟨_, PSs.nox (pss_cons (ps_for PassesOwn.never rfl (pi_range1 (by rfl) T.rng (pa_cons pe_int pa_nil)) (pg_name (i := 3) scWr.nd rfl (Or.inl rfl))
          (pss_cons (ps_set (i := 4) scWr.nd rfl (Or.inl rfl) (pe_call GP hr3 (by rfl) T.pk T.kpk bP .nil pass0 (pa_cons (pv 0) (pa_cons (pe_lst (pa_cons pe_int (pa_cons (pe_op op_sub (pe_callB call_len_seq (by rfl) T.len PySem.boot_len (pa_cons (pv 2) pa_nil)) pe_int) (pa_cons (pe_call GD hr2 (by rfl) T.dr T.kdr bD .nil pass0 (pa_cons (pv 0) (pa_cons (pe_callB call_len_seq (by rfl) T.len PySem.boot_len (pa_cons (pv 2) pa_nil)) pa_nil))) (pa_cons (pe_call GD hr2 (by rfl) T.dr T.kdr bD .nil pass0 (pa_cons (pv 0) (pa_cons (pe_callB call_len_seq (by rfl) T.len PySem.boot_len (pa_cons (pv 2) pa_nil)) pa_nil))) pa_nil))))) pa_nil))))
          (pss_cons (ps_set (i := 5) scWr.nd rfl (Or.inr rfl) (pe_ix ix_list (pv 2) (pv 4) (fun _ _ => rfl)))
          (pss_cons (ps_set (i := 6) scWr.nd rfl (Or.inr rfl) (pe_call GD hr2 (by rfl) T.dr T.kdr bD .nil pass0 (pa_cons (pv 0) (pa_cons (pe_op op_add (pe_callB call_len_seq (by rfl) T.len PySem.boot_len (pa_cons (pv 5) pa_nil)) pe_int) pa_nil))))
          (pss_cons (ps_set (i := 7) scWr.nd rfl (Or.inl rfl) (pe_call GL hr1 (by rfl) T.lat T.klat bL .nil pass0 (pa_cons (pv 1) (pa_cons (pe_slice sl_tupA (pv 5) po_none (po_some (pv 6))) pa_nil))))
          (pss_cons (ps_set (i := 8) scWr.nd rfl (Or.inl rfl) (pe_ix ix_list (pe_lc (own := [("one", 13)]) (g := gName 13) (by rfl) scWr.nd (pi_range1 (by rfl) T.rng (pa_cons (pe_callB call_len_seq (by rfl) T.len PySem.boot_len (pa_cons (pv 2) pa_nil)) pa_nil)) (blkOk_by (own := [("one", 13)]) (N := ["state", "kind", "due", "turn", "at", "trail", "cut", "inner", "first", "other", "there", "ask", "raised", "one"]) (sc := defScope sWr) (by decide +kernel)) (fun _ _ _ _ _ => (pg_name (i := 13) scWr.nd rfl (Or.inl rfl))) (fun _ _ _ _ _ => (pts_one (pt_cmpR (show OpR _ _ (rEqD K) from op_eqD hr.units) (pe_slice (show SlR _ (rSlA K) from sl_tupA) (pe_ix (show IxR _ (rIxL K) from ix_list) (pv 2) (pv 13) (fun _ _ => rfl)) po_none (po_some (pv 6))) (pe_slice (show SlR _ (rSlA K) from sl_tupA) (pv 5) po_none (po_some (pv 6))) (nomark _)))) (fun _ _ _ _ _ => (pv 13))) pe_int (fun _ _ => rfl)))
          (pss_cons (ps_if (PW.pt (pw_or (pt_cmpR (op_neD hr.units) (pe_call GI hr12 (by rfl) T.inn T.kinn bI .nil passL (pa_cons (pv 1) (pa_cons (pe_slice sl_tupA (pv 5) po_none (po_some (pv 6))) pa_nil))) (pv 7) (nomark _)) (pw_or1 (pt_cmpR op_ne (pe_callK0 GO hr12 (by rfl) T.off T.koff kO passL (pk_cons (pv 1) (pk_cons (pe_slice sl_tupA (pv 5) po_none (po_some (pv 6))) pk_nil))) (pv 8) (nomark _))))) (pss_one (ps_ret pe_bl)) pss_nil)
          (pss_cons (ps_if (PW.pt (pw_or (pt_cmpR op_ne (pe_op op_add (pv 8) (pe_call GO hr12 (by rfl) T.off T.koff bO .nil passL (pa_cons (pv 7) (pa_cons (pe_slice sl_tupA (pv 5) (po_some (pv 6)) po_none) pa_nil)))) (pv 4) (nomark _)) (pw_or1 (pt_cmpR op_ne (pe_call GO hr12 (by rfl) T.off T.koff bO .nil passL (pa_cons (pv 1) (pa_cons (pv 5) pa_nil))) (pv 4) (nomark _))))) (pss_one (ps_ret pe_bl)) pss_nil)
          (pss_cons (ps_set (i := 9) scWr.nd rfl (Or.inr rfl) (pe_call GT hr4 (by rfl) T.oth T.koth bT .nil pass0 (pa_cons (pv 0) (pa_cons (pv 1) (pa_cons (pv 5) pa_nil)))))
          (pss_cons (ps_set (i := 10) scWr.nd rfl (Or.inl rfl) (pe_weak (pe_ifExp (pt_val (pe_callB call_isi (by rfl) T.isi (by decide +kernel) (pa_cons (pv 9) (pa_cons (pe_bltn (v := .ty "tuple") (by rfl) T.tpl boot_tuple rfl) pa_nil)))) (pe_call GL hr1 (by rfl) T.lat T.klat bL .nil pass0 (pa_cons (pv 1) (pa_cons (pv 9) pa_nil))) pe_non)))
          (pss_cons (ps_set (i := 11) scWr.nd rfl (Or.inr rfl) (pe_call GP hr3 (by rfl) T.pk T.kpk bP .nil pass0 (pa_cons (pv 0) (pa_cons (pe_lst (pa_cons (pe_glob (v := .ref fInn) (by rfl) T.inn rfl) (pa_cons (pe_glob (v := .ref fOff) (by rfl) T.off rfl) pa_nil))) pa_nil))))
          (pss_cons (ps_set (i := 12) scWr.nd rfl (Or.inl rfl) (pe_lamcall (k := 12) (by rfl) T.cgt T.kcgt lkg hcg bCgt scC rfl (Or.inl rfl) (caught_gives T.ce) TB rfl (List.mem_cons_self ..) (tbs_u hne) hr (lamS_by (by show LamX.lamSB (defScope sWr) _ = true; decide +kernel)) rfl (fun _ _ _ _ _ => rfl)
              (fun A outer s H E f c' hr2 => pe_callS' (i := 11) (S := fun f' => if f' = fInn then some (spAt C BT ansI) else if f' = fOff then some (spAt C BT ansO) else none) SA hr2 rfl (.inr (.inr rfl)) (passes_call (takes_of rfl rfl rfl rfl) (fun _ _ _ _ h => h)) (pa_cons (pv 1) (pa_cons (pv 9) pa_nil)))))
          (pss_cons (ps_if (PW.pt (pw_or (pt_cmpR op_ne (pe_cmpR op_notN (pv 12) pe_non (nomark _)) (pe_cmpR op_isN (pv 10) pe_non (nomark _)) (nomark _)) (pw_or1 (PW.pt (pw_and (pt_cmpR op_notN (pv 12) pe_non (nomark _)) (pw_and1 (pt_not (pt_val (pe_callB (call_isH0 T.exc) (by rfl) T.isi (by decide +kernel) (pa_cons (pv 12) (pa_cons (pe_glob (v := .ref BT) (by rfl) T.bt rfl) pa_nil))))))))))) (pss_one (ps_ret pe_bl)) pss_nil)
          (pss_one (ps_if (PW.pt (pw_and (pt_cmpR op_notN (pv 10) pe_non (nomark _)) (pw_and1 (pt_cmpR (op_neD hr.units) (pe_call GI hr12 (by rfl) T.inn T.kinn bI .nil passL (pa_cons (pv 1) (pa_cons (pv 9) pa_nil))) (pv 10) (nomark _))))) (pss_one (ps_ret pe_bl)) pss_nil)))))))))))))))
      (pss_one (ps_ret pe_bl))), ?_⟩
    refine ⟨6, rfl, by decide, by decide, for_range (lo := 0) (n := 6)
      (fun i σ H' => ∃ (a3 a4 a5 a6 a7 a8 a9 a10 a11 a12 a13 : Option V), σ = [some (.ref d), some kv, some (.ref L), a3, a4, a5, a6, a7, a8, a9, a10, a11, a12, a13] ∧ StA H' d g c (n + 20 * i) ∧ KpE d g H H' ∧ Tabs (tbs PTW PTL) H')
      ⟨_, _, _, _, _, _, _, _, _, _, _, rfl, S, fun b o e _ _ _ => e, hT⟩ ?_ ?_⟩
    · rintro i σ H1 hi ⟨a3, a4, a5, a6, a7, a8, a9, a10, a11, a12, a13, rfl, S1, kE1, T1⟩
      have kvE : ∀ {H'}, KpE d g H H' → Kv g H H' := fun {H'} kk => ⟨fun b xs e n => kk b _ e (fun z => by
          obtain ⟨r, t, gs, cs, S⟩ := S
          rw [z, S.dk] at e
          cases e) n (fun _ z => by cases z), fun b xs e => kk b _ e (fun z => by
          obtain ⟨r, t, gs, cs, S⟩ := S
          rw [z, S.dk] at e
          cases e) (fun z => by
          obtain ⟨r, t, gs, cs, S⟩ := S
          rw [z, S.gl] at e
          cases e) (fun _ z => by cases z), fun b e => kk b _ e (fun z => by
          obtain ⟨r, t, gs, cs, S⟩ := S
          rw [z, S.dk] at e
          have q := Option.some.inj e
          unfold StKV at q
          cases q) (fun z => by
          obtain ⟨r, t, gs, cs, S⟩ := S
          rw [z, S.gl] at e
          cases e) (fun _ z => by cases z)⟩
      have getL : ∀ {H'}, KpE d g H H' → H' L = some (.lst ys) := fun {H'} kk => kk _ _ hL Ld Lg (fun _ z => by cases z)
      -- at
      refine ⟨_, rfl, _, rfl, L, _, rfl, .inl (SqL.of (getL kE1)), _, _, rfl, rfl, ?_⟩
      refine ⟨_, rfl, _, rfl, L, _, rfl, .inl (SqL.of (getL kE1)), d, g, c, _, _, rfl, S1, by omega, by omega, by omega, fun v1 H2 v10 v11 S2 kp2 => ?_⟩
      have kE2 := kE1.trans (KpE.kp kp2)
      refine ⟨_, rfl, _, rfl, L, _, rfl, .inl (SqL.of (getL kE2)), d, g, c, _, _, rfl, S2, by omega, by omega, by omega, fun v2 H3 v20 v21 S3 kp3 => ?_⟩
      have kE3 := kE2.trans (KpE.kp kp3)
      refine ⟨(by show 4 ≤ sizeLine; decide), fun l hl => ?_⟩
      generalize hH4 : upd H3 l _ = H4
      obtain ⟨sl, el⟩ := freshF hl hH4
      refine ⟨d, g, c, l, _, _, rfl, S3.keep sl, by omega, el, (S3.free hl).2.1, by simp, (by show 4 ≤ 1000000; decide), fun av H5 hav S5 kp5 => ?_⟩
      have hav' : ∃ a : Nat, av = .int (a : Int) ∧ a < ys.length := by
        simp only [List.mem_cons, List.not_mem_nil, or_false] at hav
        rcases hav with rfl | rfl | rfl | rfl
        · exact ⟨0, rfl, lpos⟩
        · exact ⟨ys.length - 1, by congr 1; omega, by omega⟩
        · exact ⟨v1.toNat, by congr 1; omega, by omega⟩
        · exact ⟨v2.toNat, by congr 1; omega, by omega⟩
      obtain ⟨a, rfl, al⟩ := hav'
      have kE5 := (kE3.trans (KpE.of sl)).trans (KpE.kp kp5)
      have T5 := tabs_kp ((tabs_kp (tabs_kp T1 S1 kp2) S2 kp3).ext sl) (S3.keep sl) kp5
      -- trail
      obtain ⟨tv, htv⟩ : ∃ tv, ys[a]? = some tv := ⟨ys[a], List.getElem?_eq_getElem al⟩
      refine ⟨_, rfl, _, rfl, L, _, _, tv, rfl, rfl, SqL.of (getL kE5), atI_nat htv, ?_⟩
      obtain ⟨dt, hdt, hx⟩ := dvL.at_ htv
      rw [List.getElem?_map] at hdt
      obtain ⟨t, hta, rfl⟩ := Option.map_eq_some_iff.mp hdt
      have htm := List.mem_of_getElem? hta
      obtain ⟨ptt, t4⟩ := TN_pur 4 dk hf t htm
      obtain ⟨bt, xs, rfl, hbt0, _, rt0⟩ := hx.tup_inv
      have getB : ∀ {H'}, KpE d g H H' → H' bt = some (.tup xs) ∧ DVs g H' xs t := fun {H'} kk => ⟨(kvE kk).tup _ _ hbt0, rt0.keep (kvE kk)⟩
      -- cut
      refine ⟨_, rfl, _, rfl, bt, _, rfl, .inr (SqT.of (getB kE5).1), _, _, rfl, rfl, d, g, c, _, _, rfl, S5, by omega, by omega, by rw [rt0.len]; omega, fun qv H6 q0 q1 S6 kp6 => ?_⟩
      obtain ⟨q, rfl⟩ := Int.eq_ofNat_of_zero_le q0
      have hq : q ≤ t.length := by
        rw [rt0.len] at q1
        omega
      have kE6 := kE5.trans (KpE.kp kp6)
      have T6 := tabs_kp T5 S5 kp6
      obtain ⟨y, off, o2, s2, A, M, B, m0, w1, ky, w2, w3, ea, eT, eA, nA, hm0⟩ := cut_facts hk hta hq
      have psl : ∀ j, purs (t.take j) = true := fun j => by
        rw [purs_all, List.all_eq_true]
        exact fun s hs => purs_mem ptt (List.mem_of_mem_take hs)
      have fy4 : formed 4 y = true := by
        unfold kindB at ky
        rw [Bool.and_eq_true] at ky
        exact ky.1
      -- inner
      refine ⟨_, rfl, _, rfl, _, rfl, _, rfl, slA_take (g := g) (getB kE6).1 (getB kE6).2 trivial fun r1 zs1 H7 s7 e7 dv7 => ?_⟩
      have kE7 := kE6.trans (KpE.of s7)
      have tl4 : ∀ j, (t.take j).length ≤ 1000 := fun j => by rw [List.length_take]; omega
      refine ⟨4, g, kv, .ref r1, dk, t.take q, rfl, hkv.keep (kvE kE7), .tup e7 (tl4 q) dv7, pk, hf, Nat.le_refl _, .inr ⟨y, off, w1, fun iv H8 hiv s8 => ?_⟩⟩
      have kE8 := kE7.trans (KpE.of s8)
      have S8 := (S6.keep s7).keep s8
      have T8 := (T6.ext s7).ext s8
      have pq : pur (.tup (t.take q)) = true := psl q
      have dq : dep (.tup (t.take q)) ≤ 64 := by
        show deps (t.take q) + 1 ≤ 64
        have := deps_steps (l := t.take q) fun s hs => steps t htm s (List.mem_of_mem_take hs)
        omega
      -- first
      refine ⟨_, rfl, L, _, rfl, .inl (SqL.of (getL kE8)), _, rfl, by omega, by omega, fun D hD => lc_range (lo := 0) (n := ((ys.length : Nat) : Int).toNat)
        (fun j H' => H' D = some (.lst (((List.range j).filter (fun j => decide (((TN 4 dk).getD j []).take q = t.take q))).map (fun j => V.int ((j : Nat) : Int)))) ∧ Same H8 H') ⟨upd_same, same_new hD⟩ ?_ ?_⟩
      · rintro j H9 hj ⟨h1, s9⟩
        refine ⟨rfl, ?_⟩
        have e0 : (0 : Int) + (j : Nat) = (j : Nat) := Int.zero_add _
        rw [e0]
        have kE9 := kE8.trans (KpE.of s9)
        obtain ⟨uv, huv⟩ : ∃ uv, ys[j]? = some uv := ⟨ys[j]'(by omega), List.getElem?_eq_getElem (by omega)⟩
        obtain ⟨du, hdu, hux⟩ := dvL.at_ huv
        rw [List.getElem?_map] at hdu
        obtain ⟨u, huj, rfl⟩ := Option.map_eq_some_iff.mp hdu
        have hum := List.mem_of_getElem? huj
        obtain ⟨ptu, u4⟩ := TN_pur 4 dk hf u hum
        obtain ⟨bu, us, rfl, hbu0, _, ru0⟩ := hux.tup_inv
        have gd : (TN 4 dk).getD j [] = u := by rw [List.getD_eq_getElem?_getD, huj]; rfl
        refine ⟨_, rfl, _, rfl, L, _, _, _, rfl, rfl, SqL.of (getL kE9), atI_nat huv, _, rfl, _, rfl, slA_take (g := g) ((kvE kE9).tup _ _ hbu0) (ru0.keep (kvE kE9)) trivial fun ra za Ha sa ea dva => ?_⟩
        have kEa := kE9.trans (KpE.of sa)
        refine ⟨_, rfl, _, rfl, _, rfl, slA_take (g := g) (getB kEa).1 (getB kEa).2 trivial fun rb zb Hb sb eb dvb => ?_⟩
        have pu : pur (.tup (u.take q)) = true := by
          show purs (u.take q) = true
          rw [purs_all, List.all_eq_true]
          exact fun s hs => purs_mem ptu (List.mem_of_mem_take hs)
        have du : dep (.tup (u.take q)) ≤ 64 := by
          show deps (u.take q) + 1 ≤ 64
          have := deps_steps (l := u.take q) fun s hs => steps u hum s (List.mem_of_mem_take hs)
          omega
        have lu : (u.take q).length ≤ 1000 := by rw [List.length_take]; omega
        refine ⟨_, _, dv_dp pu (.tup (sb _ _ ea) lu (dva.keep (Kv.of sb))), dv_dp pq (.tup eb (tl4 q) dvb), shaped_of pu du, shaped_of pq dq, _, rfl, ?_⟩
        have hD9 := sb _ _ (sa _ _ h1)
        have s11 := (s9.trans sa).trans sb
        have stp : (List.range (j + 1)).filter (fun j => decide (((TN 4 dk).getD j []).take q = t.take q)) = (List.range j).filter (fun j => decide (((TN 4 dk).getD j []).take q = t.take q)) ++ (if u.take q = t.take q then [j] else []) := by
          rw [List.range_succ, List.filter_append, List.filter_cons, List.filter_nil, gd]
          by_cases h : u.take q = t.take q
          · rw [if_pos h, if_pos (decide_eq_true h)]
          · rw [if_neg h, if_neg (by simpa using h)]
        by_cases h : u.take q = t.take q
        · refine ifT (by rw [h]; exact eqv_self pq) ?_
          rw [if_pos h] at stp
          refine ⟨_, rfl, _, hD9, ?_, ?_, ?_⟩
          · have := List.length_filter_le (fun j => decide (((TN 4 dk).getD j []).take q = t.take q)) (List.range j)
            rw [List.length_range] at this
            rw [List.length_map, sizeLine_eq]
            omega
          · rw [upd_same, stp, List.map_append]
            rfl
          · intro b o eb'
            rw [upd_ne (ne_of_none eb' hD)]
            exact s11 _ _ eb'
        · have hne' : PyData.eqv (toPy (.tup (u.take q))) (toPy (.tup (t.take q))) = false := by
            cases e : PyData.eqv (toPy (.tup (u.take q))) (toPy (.tup (t.take q))) with
            | false => rfl
            | true => exact absurd (steps_eq (fun s hs => steps u hum s (List.mem_of_mem_take hs)) (fun s hs => steps t htm s (List.mem_of_mem_take hs)) e) h
          refine ifF hne' ?_
          rw [if_neg h, List.append_nil] at stp
          exact ⟨by rw [stp]; exact hD9, s11⟩
      rintro H9 ⟨h1, s9⟩
      obtain ⟨rest, hrest⟩ := filt_first (x0 := []) (Q := fun u => decide (u.take q = t.take q)) eT (fun u hu => decide_eq_false (nA u hu)) (decide_eq_true hm0)
      have e9 : (((ys.length : Nat) : Int).toNat) = (TN 4 dk).length := by omega
      rw [e9, hrest, List.map_cons, eA] at h1
      refine ⟨D, _, 0, .int off, rfl, rfl, SqL.of h1, atI_nat (j := 0) rfl, ?_⟩
      have kE9 := kE8.trans (KpE.of s9)
      have S9 := S8.keep s9
      have T9 := T8.ext s9
      have hiv9 := hiv.keep (Kv.of s9)
      have py : pur y = true := pur_walk pk hf w1
      have dy : dep y ≤ 64 := by
        have := formed_dep 4 y fy4
        omega
      -- inner_kind(kind, trail[:cut]) != inner
      refine ⟨_, rfl, _, rfl, _, rfl, _, rfl, slA_take (g := g) (getB kE9).1 (getB kE9).2 trivial fun r3 z3 HA sA eA' dvA => ?_⟩
      have kEA := kE9.trans (KpE.of sA)
      refine ⟨g, kv, .ref r3, dk, .tup (t.take q), rfl, hkv.keep (kvE kEA), .tup eA' (tl4 q) dvA, .inr (.inr ⟨hk, _, y, off, rfl, w1, fun HB sB iv2 hiv2 => ?_⟩)⟩
      have kEB := kEA.trans (KpE.of sB)
      refine ⟨_, rfl, _, _, dv_dp py hiv2, dv_dp py (hiv9.keep (Kv.of (sA.trans sB))), shaped_of py dy, shaped_of py dy, _, rfl, ?_⟩
      refine ifF (by rw [eqv_self py]; rfl) ?_
      -- offset_of(kind=kind, trail=trail[:cut]) != first
      refine ⟨_, rfl, _, rfl, _, rfl, _, rfl, slA_take (g := g) (getB kEB).1 (getB kEB).2 trivial fun r4 z4 HC sC eC dvC => ?_⟩
      have kEC := kEB.trans (KpE.of sC)
      refine ⟨g, kv, .ref r4, dk, .tup (t.take q), rfl, hkv.keep (kvE kEC), .tup eC (tl4 q) dvC, .inr (.inr ⟨hk, _, y, off, rfl, w1, fun HD sD => ?_⟩)⟩
      have kED := kEC.trans (KpE.of sD)
      refine ⟨_, rfl, rfl, _, rfl, ?_⟩
      refine ifF (by rw [decide_eq_true rfl]; rfl) ?_
      -- first + offset_of(inner, trail[cut:]) != at
      have sAD := ((sA.trans sB).trans sC).trans sD
      refine ⟨_, rfl, _, rfl, _, rfl, _, rfl, _, rfl, slA_dropN (g := g) (getB kED).1 (getB kED).2 hq fun r5 z5 HE sE eE dvE => ?_⟩
      have kEE := kED.trans (KpE.of sE)
      have ld : (t.drop q).length ≤ 1000 := by rw [List.length_drop]; omega
      refine ⟨g, iv, .ref r5, y, .tup (t.drop q), rfl, hiv9.keep (Kv.of (sAD.trans sE)), .tup eE ld dvE, .inr (.inr ⟨ky, _, .str s2, o2, rfl, w2, fun HF sF => ?_⟩)⟩
      have kEF := kEE.trans (KpE.of sF)
      refine ⟨_, _, rfl, rfl, _, rfl, rfl, _, rfl, ?_⟩
      refine ifF (by rw [decide_eq_true (congrArg V.int ea)]; rfl) ?_
      -- offset_of(kind, trail) != at
      have tl : t.length ≤ 1000 := by omega
      refine ⟨_, rfl, _, rfl, g, kv, .ref bt, dk, .tup t, rfl, hkv.keep (kvE kEF), .tup (getB kEF).1 tl (getB kEF).2, .inr (.inr ⟨hk, _, .str s2, off + o2, rfl, w3, fun HG sG => ?_⟩)⟩
      have kEG := kEF.trans (KpE.of sG)
      refine ⟨_, rfl, rfl, _, rfl, ?_⟩
      refine ifF (by rw [decide_eq_true (congrArg V.int ea)]; rfl) ?_
      have s9G := ((sAD.trans sE).trans sF).trans sG
      have SG := S9.keep s9G
      have TG := T9.ext s9G
      -- other
      refine ⟨_, rfl, _, rfl, _, rfl, d, g, c, bt, _, kv, xs, t, rfl, SG, by omega, (getB kEG).1, (getB kEG).2, t4, fun ov dO HH hov SH kpH => ?_⟩
      have kEH := kEG.trans (KpE.kp kpH)
      have TH := tabs_kp TG SG kpH
      -- there
      refine ⟨fun x H' => Same HH H' ∧ ((x = .non ∧ ∀ l, dO = .tup l → WK 4 dk l = none) ∨ ∃ l y2 a2, dO = .tup l ∧ WK 4 dk l = some (y2, a2) ∧ DV g H' x y2 ∧ x ≠ .non), ?_, ?_⟩
      · obtain ⟨ty, hty, _, k2, _⟩ := hov.ty (K := K)
        refine ⟨_, rfl, _, _, _, _, _, rfl, .ty "tuple", hty, k2, _, rfl, ?_⟩
        cases dO with
        | tup l =>
          refine iteT ?_
          refine ⟨_, rfl, _, rfl, 4, g, kv, ov, dk, l, rfl, hkv.keep (kvE kEH), hov, pk, hf, Nat.le_refl _, ?_⟩
          cases hw : WK 4 dk l with
          | none => exact .inl ⟨rfl, fun H' s' => ⟨s', .inl ⟨rfl, fun l' e => by injection e with e; rw [← e, hw]⟩⟩⟩
          | some x =>
            obtain ⟨y2, a2⟩ := x
            exact .inr ⟨y2, a2, rfl, fun v' H' hv' s' => ⟨s', .inr ⟨l, y2, a2, rfl, hw, hv', not_non (idx l 4 dk y2 a2 hf hw).1 hv'⟩⟩⟩
        | int _ => exact iteF ⟨Same.refl _, .inl ⟨rfl, fun l e => by cases e⟩⟩
        | bl _ => exact iteF ⟨Same.refl _, .inl ⟨rfl, fun l e => by cases e⟩⟩
        | non => exact iteF ⟨Same.refl _, .inl ⟨rfl, fun l e => by cases e⟩⟩
        | str _ => exact iteF ⟨Same.refl _, .inl ⟨rfl, fun l e => by cases e⟩⟩
        | lst _ => exact iteF ⟨Same.refl _, .inl ⟨rfl, fun l e => by cases e⟩⟩
        | dic => exact iteF ⟨Same.refl _, .inl ⟨rfl, fun l e => by cases e⟩⟩
      rintro tv2 HI ⟨sI, hI⟩
      have kEI := kEH.trans (KpE.of sI)
      have SI := SH.keep sI
      have TI := TH.ext sI
      -- ask
      refine ⟨_, rfl, (by show 2 ≤ sizeLine; decide), fun l2 hl2 => ?_⟩
      generalize hHJ : upd HI l2 _ = HJ
      obtain ⟨sJ, eJ⟩ := freshF hl2 hHJ
      refine ⟨d, g, c, l2, _, _, rfl, SI.keep sJ, by omega, eJ, (SI.free hl2).2.1, by simp, (by show 2 ≤ 1000000; decide), fun av2 HK hav2 SK kpK => ?_⟩
      have hfa : ∃ fa, av2 = .ref fa ∧ (fa = fInn ∨ fa = fOff) := by
        simp only [List.mem_cons, List.not_mem_nil, or_false] at hav2
        rcases hav2 with rfl | rfl
        · exact ⟨_, rfl, .inl rfl⟩
        · exact ⟨_, rfl, .inr rfl⟩
      obtain ⟨fa, rfl, hfa⟩ := hfa
      obtain ⟨ans, hSf, hans⟩ := asks fa hfa
      have kEK := (kEI.trans (KpE.of sJ)).trans (KpE.kp kpK)
      have TK := tabs_kp (TI.ext sJ) (SI.keep sJ) kpK
      have kvJK : Kv g HI HK := (Kv.of sJ).trans (Kv.kp (SI.keep sJ) kpK)
      have hovK := (hov.keep (Kv.of sI)).keep kvJK
      -- raised
      refine ⟨TK, fun HL eN TL' => ?_⟩
      have kEL := kEK.trans (KpE.ext eN)
      have SL := SK.extN eN
      have hovL := hovK.keep (Kv.extN eN)
      refine ⟨fa, _, rfl, hSf, _, rfl, _, rfl, g, kv, ov, dk, dO, rfl, hkv.keep (kvE kEL), hovL, ?_⟩
      rcases hI with ⟨rfl, hno⟩ | ⟨l, y2, a2, rfl, hw, hthere, hnn⟩
      · refine .inr (.inl ⟨hk, hno, fun HM sM => ?_⟩)
        refine ⟨true, T.exm, fun _ bb hbb => ?_, fun z => nomatch z⟩
        generalize hHN : upd HM bb _ = HN
        obtain ⟨sN, eN2⟩ := freshF hbb hHN
        refine ⟨_, rfl, rfl, _, rfl, rfl, rfl, _, rfl, ?_⟩
        refine ifF (by rw [decide_eq_false (show ¬ V.ref bb = V.non from fun z => by cases z), decide_eq_true (show V.non = V.non from rfl)]; decide) ?_
        refine ⟨_, rfl, rfl, _, rfl, ?_⟩
        refine ifT (by rfl) ?_
        refine ⟨_, rfl, bb, _, _, true, rfl, (fun u h => h), eN2, kit_self, _, rfl, ifF rfl ?_⟩
        refine ⟨_, rfl, rfl, _, rfl, ifF (by decide) ?_⟩
        have sX := sM.trans sN
        exact ⟨_, _, _, _, _, _, _, _, _, _, _, rfl, (SL.keep sX).mono (by omega), kEL.trans (KpE.of sX), TL'.ext sX⟩
      · refine .inr (.inr ⟨hk, l, y2, a2, rfl, hw, fun HM sM => hans _ _ _ _ _ _ fun x => ?_⟩)
        have kEM := kEL.trans (KpE.of sM)
        have hthM := ((hthere.keep kvJK).keep (Kv.extN eN)).keep (Kv.of sM)
        have hovM := hovL.keep (Kv.of sM)
        have py2 : pur y2 = true := pur_walk pk hf hw
        have dy2 : dep y2 ≤ 64 := by
          have := formed_dep _ y2 (idx l 4 dk y2 a2 hf hw).1
          omega
        refine ⟨_, rfl, rfl, _, rfl, rfl, rfl, _, rfl, ?_⟩
        refine ifF (by rw [decide_eq_false hnn]; decide) ?_
        refine ⟨_, rfl, rfl, _, rfl, ?_⟩
        refine ifF (by decide) ?_
        refine ifF rfl ?_
        refine ⟨_, rfl, rfl, _, rfl, ifT (by rw [decide_eq_false hnn]; rfl) ?_⟩
        refine ⟨_, rfl, _, rfl, g, kv, ov, dk, .tup l, rfl, hkv.keep (kvE kEM), hovM, .inr (.inr ⟨hk, l, y2, a2, rfl, hw, fun HN sN iv3 hiv3 => ?_⟩)⟩
        refine ⟨_, rfl, _, _, dv_dp py2 hiv3, dv_dp py2 (hthM.keep (Kv.of sN)), shaped_of py2 dy2, shaped_of py2 dy2, _, rfl, ?_⟩
        refine ifF (by rw [eqv_self py2]; rfl) ?_
        have sX := sM.trans sN
        exact ⟨_, _, _, _, _, _, _, _, _, _, _, rfl, (SL.keep sX).mono (by omega), kEL.trans (KpE.of sX), TL'.ext sX⟩
    · rintro σ H1 ⟨a3, a4, a5, a6, a7, a8, a9, a10, a11, a12, a13, rfl, S1, kE1, T1⟩
      exact k H1 S1 kE1 T1
end
end K1

set_option Elab.async false
set_option linter.all false
set_option pp.maxSteps 700
set_option maxRecDepth 100000
set_option maxHeartbeats 8000000
namespace K1
open PySem PySem.Spec PyProof.Rows L2
open LamX (GivesTo CodeO Tabs TabS TabB tLam pe_lamcall lamCx lamEnv lamS_by ExtN)
open TL (tl)
abbrev sLaw : Stmt := top 51
theorem tbs_u2 {PTW PTL : Addr} (hne : PTW ≠ PTL) : ∀ p ∈ tbs PTW PTL, p.1 = PTL → p.2 = qL := fun p hp e => by
  rcases List.mem_cons.mp hp with rfl | hp
  · exact absurd e hne
  · rw [List.mem_singleton.mp hp]
def spLaw (K : PySem.W.Frag) (PTW PTL : Addr) : Sp := fun vs H Q _ => ∃ (a : Addr) (ns : List Int), vs = [.ref a] ∧ SqL K H a (ns.map V.int) ∧ ns.length ≤ 63 ∧ H PTW = some (.tbl #[]) ∧ H PTL = some (.tbl #[]) ∧ ∀ H', Q (.bl true) H'
structure MgW (K : PySem.W.Frag) (mg : Str → Option Value) (CE C fBeg fNkd fAll fTrl fCbw fWr fP fInn fOff fCgt : Addr) : Prop where
  beg : mg "_law_begun" = some (.ref fBeg)
  kbeg : PySem.W.keepIn K (.ref fBeg) = true
  nkd : mg "_law_new_kind" = some (.ref fNkd)
  knkd : PySem.W.keepIn K (.ref fNkd) = true
  all : mg "_law_all" = some (.ref fAll)
  kall : PySem.W.keepIn K (.ref fAll) = true
  trl : mg "trails" = some (.ref fTrl)
  ktrl : PySem.W.keepIn K (.ref fTrl) = true
  cbw : mg "_law_cb_words" = some (.ref fCbw)
  kcbw : PySem.W.keepIn K (.ref fCbw) = true
  wr : mg "_law_words_right" = some (.ref fWr)
  kwr : PySem.W.keepIn K (.ref fWr) = true
  pk : mg "_law_pick" = some (.ref fP)
  kpk : PySem.W.keepIn K (.ref fP) = true
  inn : mg "inner_kind" = some (.ref fInn)
  kinn : PySem.W.keepIn K (.ref fInn) = true
  off : mg "offset_of" = some (.ref fOff)
  koff : PySem.W.keepIn K (.ref fOff) = true
  cgt : mg "_law_caught" = some (.ref fCgt)
  kcgt : PySem.W.keepIn K (.ref fCgt) = true
  ce : mg "ClockError" = some (.ref CE)
  bk : mg "BadKind" = some (.ref C)
  exm : PySem.W.exmOne K (.ref C) (.ref CE) = some true
  exc : ExcC K C
  isi : mg "isinstance" = none
  rng : mg "range" = none
  len : mg "len" = none
  min : mg "min" = none
  lst : mg "list" = none
def bads : List Dt := [.non, .tup [.str "row", .int 0, .str "number"], .lst [], .str "row", .tup [.str "row", .int 64, .tup [.str "row", .int 64, .str "number"]], .tup [.str "record", .tup []]]
theorem bads_no : bads.all (fun d => !kindB d) = true := by decide +kernel
theorem TN_deps {d : Dt} (hf : formed 4 d = true) : deps ((TN 4 d).map Dt.tup) ≤ 63 := deps_le fun x hx => by
  obtain ⟨t, ht, rfl⟩ := List.mem_map.mp hx
  have := deps_steps (l := t) fun s hs => TN_steps 4 d hf t ht s hs
  show deps t + 1 ≤ 63
  omega
section
variable {P : Program} {w : World} {K : PySem.W.Frag} {mg : Str → Option Value} {base : Heap}
theorem scLaw : FnScope ["script", "state", "lap", "kind", "due", "found", "bad", "some", "one"] ["script"] (defScope sLaw) := ⟨rfl, rfl, rfl, by decide +kernel, rfl, by decide +kernel, by decide +kernel⟩
theorem ok_law {f cL PTW PTL CE C BT fBeg fNkd fAll fTrl fCbw fWr fP fInn fOff fCgt : Addr} {fdBeg fdNkd fdAll fdTrl fdCbw fdWr fdP fdInn fdOff : FuncData} {oc kV doc pm ct : Value} {od an : Option Addr} {sl : Array (Option Value)}
    {ocg kVg docg pmg cdg ctg : Value} {odg ang : Option Addr} {slg : Array (Option Value)}
    (lk : K.lookup f = some ⟨oc, od, .func (PySem.W.fnOf "law" "law" (defArgs sLaw) (defBody sLaw) (defScope sLaw) .none kV doc pm an (.ref cL) ct), sl⟩) (hcd : PySem.W.codeIn K (.ref cL) "law" = true)
    (lkg : K.lookup fCgt = some ⟨ocg, odg, .func (PySem.W.fnOf "_law_caught" "_law_caught" (defArgs sCgt) (defBody sCgt) (defScope sCgt) .none kVg docg pmg ang cdg ctg), slg⟩) (hcg : PySem.W.codeIn K cdg "_law_caught" = true)
    (bCgt : L2.Binds K (PySem.W.fnOf "_law_caught" "_law_caught" (defArgs sCgt) (defBody sCgt) (defScope sCgt) .none kVg docg pmg ang cdg ctg) ["action"] [])
    (T : MgW K mg CE C fBeg fNkd fAll fTrl fCbw fWr fP fInn fOff fCgt) (TB : TabB base mg cL PTL) (hne : PTW ≠ PTL)
    (GBeg : FnOk P w K mg base CX0 1 fBeg fdBeg ["script"] (spBeg K)) (bBeg : L2.Binds K fdBeg ["script"] [])
    (GN : FnOk P w K mg base CX0 15 fNkd fdNkd ["state"] spNkd) (bN : L2.Binds K fdNkd ["state"] [])
    (GA : FnOk P w K mg base CX0 1 fAll fdAll ["kind"] spAll) (bA : L2.Binds K fdAll ["kind"] [])
    (GT : FnOk P w K mg base (L2.CX P w) 12 fTrl fdTrl ["kind"] (spTr C)) (bT : L2.Binds K fdTrl ["kind"] []) (kT : KBinds K fdTrl ["kind"] ["kind"] (fun us ws => us ++ ws) (fun us ws => us ++ ws))
    (GC : FnOk P w K mg base CX0 5 fCbw fdCbw ["kind"] (spWc 4)) (bC : L2.Binds K fdCbw ["kind"] [])
    (GW : FnOk P w K mg base CX0 15 fWr fdWr ["state", "kind", "due"] (spWr PTW PTL)) (bW : L2.Binds K fdWr ["state", "kind", "due"] [])
    (GP : FnOk P w K mg base CX0 3 fP fdP ["state", "some"] spPck) (bP : L2.Binds K fdP ["state", "some"] [])
    (GI : FnOk P w K mg base (L2.CX P w) 12 fInn fdInn ["kind", "trail"] (spAt C BT ansI)) (bI : L2.Binds K fdInn ["kind", "trail"] [])
    (GO : FnOk P w K mg base (L2.CX P w) 12 fOff fdOff ["kind", "trail"] (spAt C BT ansO)) (bO : L2.Binds K fdOff ["kind", "trail"] []) :
    FnOk P w K mg base CX0 16 f (PySem.W.fnOf "law" "law" (defArgs sLaw) (defBody sLaw) (defScope sLaw) .none kV doc pm an (.ref cL) ct) ["script"] (spLaw K PTW PTL) := by
  refine fn_of lk hcd scLaw (fun vs H Q E h => ?_) (fun A outer s H vs Q E hr h => ?_)
  · obtain ⟨a, ns, rfl, _⟩ := h
    rfl
  · obtain ⟨a, ns, rfl, hS, hlen, hPW, hPL, k⟩ := h
    have hr1 : Room 1 _ := hr.mono (by decide)
    have hr3 : Room 3 _ := hr.mono (by decide)
    have hr5 : Room 5 _ := hr.mono (by decide)
    have hr12 : Room 12 _ := hr.mono (by decide)
    have hr14 : Room 14 _ := hr.mono (by decide)
    refine ⟨_, PSs.nox (pss_cons (ps_set (i := 1) scLaw.nd rfl (Or.inl rfl) (pe_call GBeg hr1 (by rfl) T.beg T.kbeg bBeg .nil pass0 (pa_cons (pv 0) pa_nil)))
      (pss_cons (ps_for PassesOwn.never rfl (pi_range1 (by rfl) T.rng (pa_cons (pe_op op_add pe_int (pe_callB (call_min2 rfl) (by rfl) T.min PyProof.Rows.boot_min (pa_cons (pe_callB call_len_seq (by rfl) T.len PySem.boot_len (pa_cons (pv 0) pa_nil)) (pa_cons pe_int pa_nil)))) pa_nil)) (pg_name (i := 2) scLaw.nd rfl (Or.inl rfl))
          (pss_cons (ps_set (i := 3) scLaw.nd rfl (Or.inl rfl) (pe_call GN hr (by rfl) T.nkd T.knkd bN .nil pass0 (pa_cons (pv 1) pa_nil)))
          (pss_cons (ps_par (i := 4) (j := 5) (by rfl) scLaw.nd rfl rfl (by decide) rfl rfl (pa_cons (pe_call GA hr1 (by rfl) T.all T.kall bA .nil pass0 (pa_cons (pv 3) pa_nil)) (pa_cons (pe_callK0 GT hr12 (by rfl) T.trl T.ktrl kT passL (pk_cons (pv 3) pk_nil)) pa_nil)) (by rfl))
          (pss_cons (ps_if (PW.pt (pw_or (pt_not (pt_val (pe_callB call_isi (by rfl) T.isi (by decide +kernel) (pa_cons (pv 5) (pa_cons (pe_bltn (v := .ty "list") (by rfl) T.lst boot_list rfl) pa_nil))))) (pw_or (pt_cmpR (op_neD hr.units) (pv 5) (pv 4) (nomark _)) (pw_or1 (pt_cmpR op_ne (pe_callB call_len_seq (by rfl) T.len PySem.boot_len (pa_cons (pv 4) pa_nil)) (pe_call GC hr5 (by rfl) T.cbw T.kcbw bC .nil pass0 (pa_cons (pv 3) pa_nil)) (nomark _)))))) (pss_one (ps_ret pe_bl)) pss_nil)
          (pss_cons (ps_expr (qApp (pv 5) (pe_tup pa_nil)))
          (pss_cons (ps_if (PW.pt (pw_or (pt_cmpR (op_neD hr.units) (pe_call GT hr12 (by rfl) T.trl T.ktrl bT .nil passL (pa_cons (pv 3) pa_nil)) (pv 4) (nomark _)) (pw_or1 (pt_not (pt_val (pe_call GW hr (by rfl) T.wr T.kwr bW .nil pass0 (pa_cons (pv 1) (pa_cons (pv 3) (pa_cons (pv 4) pa_nil))))))))) (pss_one (ps_ret pe_bl)) pss_nil)
          (pss_cons (ps_set (i := 6) scLaw.nd rfl (Or.inr rfl) (pe_call GP hr3 (by rfl) T.pk T.kpk bP .nil pass0 (pa_cons (pv 1) (pa_cons (pe_lst (pa_cons pe_non (pa_cons (pe_tup (pa_cons pe_str (pa_cons pe_int (pa_cons pe_str pa_nil)))) (pa_cons (pe_lst pa_nil) (pa_cons pe_str (pa_cons (pe_tup (pa_cons pe_str (pa_cons pe_int (pa_cons (pe_tup (pa_cons pe_str (pa_cons pe_int (pa_cons pe_str pa_nil)))) pa_nil)))) (pa_cons (pe_tup (pa_cons pe_str (pa_cons (pe_tup pa_nil) pa_nil))) pa_nil))))))) pa_nil))))
          (pss_cons (ps_set (i := 7) scLaw.nd rfl (Or.inl rfl) (pe_lst (pa_cons (pe_lamcall (k := 12) (by rfl) T.cgt T.kcgt lkg hcg bCgt scC rfl (Or.inl rfl) (caught_gives T.ce) TB rfl (List.mem_cons_of_mem _ (List.mem_cons_self ..)) (tbs_u2 hne) hr14 (lamS_by (by show LamX.lamSB (defScope sLaw) _ = true; decide +kernel)) rfl (fun _ _ _ _ _ => rfl)
              (fun A outer s H E f c' hr2 => pe_call GT hr2 (by rfl) T.trl T.ktrl bT .nil (passes_call (takes_of rfl rfl rfl rfl) (fun _ _ _ _ h => h)) (pa_cons (pv 6) pa_nil))) pa_nil)))
          (pss_cons (ps_expr (qApp (pv 7) (pe_lamcall (k := 12) (by rfl) T.cgt T.kcgt lkg hcg bCgt scC rfl (Or.inl rfl) (caught_gives T.ce) TB rfl (List.mem_cons_of_mem _ (List.mem_cons_self ..)) (tbs_u2 hne) hr14 (lamS_by (by show LamX.lamSB (defScope sLaw) _ = true; decide +kernel)) rfl (fun _ _ _ _ _ => rfl)
              (fun A outer s H E f c' hr2 => pe_call GI hr2 (by rfl) T.inn T.kinn bI .nil (passes_call (takes_of rfl rfl rfl rfl) (fun _ _ _ _ h => h)) (pa_cons (pv 6) (pa_cons pe_non pa_nil))))))
          (pss_cons (ps_expr (qApp (pv 7) (pe_lamcall (k := 12) (by rfl) T.cgt T.kcgt lkg hcg bCgt scC rfl (Or.inl rfl) (caught_gives T.ce) TB rfl (List.mem_cons_of_mem _ (List.mem_cons_self ..)) (tbs_u2 hne) hr14 (lamS_by (by show LamX.lamSB (defScope sLaw) _ = true; decide +kernel)) rfl (fun _ _ _ _ _ => rfl)
              (fun A outer s H E f c' hr2 => pe_call GO hr2 (by rfl) T.off T.koff bO .nil (passes_call (takes_of rfl rfl rfl rfl) (fun _ _ _ _ h => h)) (pa_cons (pv 6) (pa_cons (pe_tup pa_nil) pa_nil))))))
          (pss_one (ps_if (pt_cmpR (op_neD hr.units) (pe_lc (own := [("one", 8)]) (g := gName 8) (by rfl) scLaw.nd (pi_list (pv 7)) (blkOk_by (own := [("one", 8)]) (N := ["script", "state", "lap", "kind", "due", "found", "bad", "some", "one"]) (sc := defScope sLaw) (by decide +kernel)) (fun _ _ _ _ _ => (pg_name (i := 8) scLaw.nd rfl (Or.inl rfl))) (fun _ _ _ _ _ => (pts_one (pt_not (pt_val (pe_callB (show CallR _ _ (rIsH0 K C) from call_isH0 T.exc) (by rfl) T.isi (by decide +kernel) (pa_cons (pv 8) (pa_cons (pe_glob (v := .ref C) (by rfl) T.bk rfl) pa_nil))))))) (fun _ _ _ _ _ => (pv 8))) (pe_lst pa_nil) (nomark _)) (pss_one (ps_ret pe_bl)) pss_nil))))))))))))
      (pss_one (ps_ret pe_bl)))), ?_⟩
    refine ⟨_, rfl, a, ns, rfl, hS, hlen, fun d g c H1 S1 sm1 hd hg => ?_⟩
    have hT1 : Tabs (tbs PTW PTL) H1 := fun p hp => by
      rcases List.mem_cons.mp hp with rfl | hp
      · exact TabS.nil (sm1 _ _ hPW)
      · rw [List.mem_singleton.mp hp]
        exact TabS.nil (sm1 _ _ hPL)
    have hl63 : (ns.map V.int).length ≤ 63 := by rw [List.length_map]; exact hlen
    refine ⟨_, rfl, a, ns.map V.int, rfl, .inl (sm1.seq hS), _, _, rfl, _, _, rfl, rfl, _, rfl, ?_, ?_, for_range (lo := 0) (n := _)
      (fun i σ H' => ∃ (v2 v3 v4 v5 v6 v7 v8 : Option V), σ = [some (.ref a), some (.ref d), v2, v3, v4, v5, v6, v7, v8] ∧ StA H' d g c (30000 * i) ∧ Tabs (tbs PTW PTL) H')
      ⟨none, none, none, none, none, none, none, rfl, S1, hT1⟩ ?_ ?_⟩
    · split <;> omega
    · split <;> omega
    · rintro i σ H2 hi ⟨v2, v3, v4, v5, v6, v7, v8, rfl, S2, T2⟩
      have hi3 : i < 3 := by
        revert hi
        split <;> omega
      -- kind
      refine ⟨_, rfl, d, g, c, _, rfl, S2, by omega, fun kv dk H3 hkv pk hk S3 kp3 => ?_⟩
      have T3 := tabs_kp T2 S2 kp3
      have hk2 := hk
      unfold kindB at hk2
      rw [Bool.and_eq_true, decide_eq_true_eq] at hk2
      obtain ⟨hf, hw400⟩ := hk2
      have hlenT := TN_len 4 dk hf
      have pT : purs ((TN 4 dk).map Dt.tup) = true := purs_tups fun t ht => (TN_pur 4 dk hf t ht).1
      have dT := TN_deps hf
      have heq : (!PyData.eqv (.list (toPys ((TN 4 dk).map Dt.tup))) (.list (toPys ((TN 4 dk).map Dt.tup)))) = false := by rw [eqv_lst pT]; rfl
      have hsh := shaped_lst pT dT
      -- due, found
      refine ⟨_, rfl, g, kv, dk, rfl, hkv, pk, hk, fun L ys H4 hL0 hL dvL s4 => ?_⟩
      have hkv4 := hkv.keep (Kv.of s4)
      refine ⟨_, rfl, g, kv, dk, rfl, hkv4, .inl ⟨hk, pk, fun F zs H5 hF0 hF dvF s5 => ?_⟩⟩
      refine ⟨_, _, rfl, ?_⟩
      have hL5 := s5 _ _ hL
      have dvL5 := dvL.keep (Kv.of s5)
      have hkv5 := hkv4.keep (Kv.of s5)
      have s35 := s4.trans s5
      have S5 := S3.keep s35
      have T5 := T3.ext s35
      have LF : L ≠ F := ne_of_none hL hF0
      have fL := S3.free hL0
      have fF := (S3.keep s4).free hF0
      -- the first test
      refine ⟨_, rfl, _, _, _, _, true, rfl, .ty "list", .base (.lst hF), kit_ty (show kitB "list" "list" = some true by decide +kernel), _, rfl, ?_⟩
      refine ifF rfl ?_
      refine ⟨_, rfl, _, rfl, _, _, .lst (SqL.of hF) (dvs_dp pT dvF), .lst (SqL.of hL5) (dvs_dp pT dvL5), hsh, hsh, _, rfl, ?_⟩
      refine ifF heq ?_
      refine ⟨_, rfl, L, _, rfl, .inl (SqL.of hL5), _, rfl, by decide, g, kv, dk, rfl, hkv5, hf, fun H6 s6 => ?_⟩
      have lL : (ys.length : Int) = wordsN 4 dk := by rw [dvL.len, List.length_map]; exact hlenT
      refine ⟨rfl, _, rfl, ?_⟩
      refine ifF (by rw [decide_eq_true (congrArg V.int lL)]; rfl) ?_
      -- found.append(())
      have hF6 := s6 _ _ hF
      refine ⟨_, rfl, .inl ⟨rfl, _, SqL.of hF6⟩, Nat.zero_le _, fun p hp => ?_⟩
      generalize hH7 : upd H6 p _ = H7
      obtain ⟨sp, ep⟩ := freshF hp hH7
      have hF7 := sp _ _ hF6
      refine ⟨F, zs, _, rfl, rfl, hF7, by rw [dvF.len, List.length_map, sizeLine_eq]; omega, ?_⟩
      generalize hH8 : upd H7 F _ = H8
      obtain ⟨kt8, _, ne8⟩ := putF hF7 hH8
      have s57 := s6.trans sp
      have S8 := (S5.keep s57).upF2 fF.1 fF.2.1 fF.2.2 ne8
      have T8 : Tabs (tbs PTW PTL) H8 := tabs_but (T5.ext s57) fun b o e n1 n2 => by
        have hb : b ≠ F := fun z => by
          rw [z, hF7] at e
          exact n2 _ (Option.some.inj e).symm
        rw [ne8 b hb]
        exact e
      have hL8 : H8 L = some (.lst ys) := by
        rw [ne8 L LF]
        exact s57 _ _ hL5
      have dvL8 := (dvL5.keep (Kv.of s57)).keepP (g' := g) kt8 pT
      have hkv8 := (hkv5.keep (Kv.of s57)).keepP (g' := g) kt8 pk
      -- trails(kind) != due
      refine ⟨_, rfl, g, kv, dk, rfl, hkv8, .inl ⟨hk, pk, fun F2 zs2 H9 hF20 hF2 dvF2 s9 => ?_⟩⟩
      have hL9 := s9 _ _ hL8
      have dvL9 := dvL8.keep (Kv.of s9)
      have hkv9 := hkv8.keep (Kv.of s9)
      refine ⟨_, rfl, _, _, .lst (SqL.of hF2) (dvs_dp pT dvF2), .lst (SqL.of hL9) (dvs_dp pT dvL9), hsh, hsh, _, rfl, ?_⟩
      refine ifF heq ?_
      have S9 := S8.keep s9
      have T9 := T8.ext s9
      refine ⟨_, rfl, _, rfl, _, rfl, d, g, c, L, _, kv, dk, ys, rfl, S9, by omega, hkv9, pk, hk, hL9, dvL9, fL.1, fL.2.1, T9, fun HA SA kEA TA => ⟨_, rfl, ifF rfl ?_⟩⟩
      -- bad
      refine ⟨_, rfl, (by show 3 ≤ sizeLine; decide), fun pb0 hpb0 => ?_⟩
      generalize hHb0 : upd HA pb0 _ = Hb0
      obtain ⟨sb0, eb0⟩ := freshF hpb0 hHb0
      have tb0 : Same HA Hb0 := sb0
      refine ⟨(by show 0 ≤ sizeLine; decide), fun pb1 hpb1 => ?_⟩
      generalize hHb1 : upd Hb0 pb1 _ = Hb1
      obtain ⟨sb1, eb1⟩ := freshF hpb1 hHb1
      have tb1 : Same HA Hb1 := tb0.trans sb1
      have gb1 := ((SA.keep tb0).free hpb1).2.1
      refine ⟨(by show 3 ≤ sizeLine; decide), fun pb2 hpb2 => ?_⟩
      generalize hHb2 : upd Hb1 pb2 _ = Hb2
      obtain ⟨sb2, eb2⟩ := freshF hpb2 hHb2
      have tb2 : Same HA Hb2 := tb1.trans sb2
      refine ⟨(by show 3 ≤ sizeLine; decide), fun pb3 hpb3 => ?_⟩
      generalize hHb3 : upd Hb2 pb3 _ = Hb3
      obtain ⟨sb3, eb3⟩ := freshF hpb3 hHb3
      have tb3 : Same HA Hb3 := tb2.trans sb3
      refine ⟨(by show 0 ≤ sizeLine; decide), fun pb4 hpb4 => ?_⟩
      generalize hHb4 : upd Hb3 pb4 _ = Hb4
      obtain ⟨sb4, eb4⟩ := freshF hpb4 hHb4
      have tb4 : Same HA Hb4 := tb3.trans sb4
      refine ⟨(by show 2 ≤ sizeLine; decide), fun pb5 hpb5 => ?_⟩
      generalize hHb5 : upd Hb4 pb5 _ = Hb5
      obtain ⟨sb5, eb5⟩ := freshF hpb5 hHb5
      have tb5 : Same HA Hb5 := tb4.trans sb5
      refine ⟨(by show 6 ≤ sizeLine; decide), fun lb hpb6 => ?_⟩
      generalize hHb6 : upd Hb5 lb _ = Hb
      obtain ⟨sb6, eb6⟩ := freshF hpb6 hHb6
      have tb6 : Same HA Hb := tb5.trans sb6
      have gb6 := ((SA.keep tb5).free hpb6).2.1
      have ub5 : Same Hb5 Hb := sb6
      have ub4 : Same Hb4 Hb := sb5.trans ub5
      have ub3 : Same Hb3 Hb := sb4.trans ub4
      have ub2 : Same Hb2 Hb := sb3.trans ub3
      have ub1 : Same Hb1 Hb := sb2.trans ub2
      have ub0 : Same Hb0 Hb := sb1.trans ub1
      have tb := tb6
      have dvb : DVs g Hb [V.non, V.ref pb0, V.ref pb1, V.str "row", V.ref pb3, V.ref pb5] [Dt.non, Dt.tup [Dt.str "row", Dt.int 0, Dt.str "number"], Dt.lst [], Dt.str "row", Dt.tup [Dt.str "row", Dt.int 64, Dt.tup [Dt.str "row", Dt.int 64, Dt.str "number"]], Dt.tup [Dt.str "record", Dt.tup []]] := (.cons .non (.cons (.tup (ub0 _ _ eb0) (by show 3 ≤ 1000; decide) (.cons (.str (by decide +kernel)) (.cons (.int _) (.cons (.str (by decide +kernel)) .nil)))) (.cons (.lst (ub1 _ _ eb1) gb1 (by show 0 ≤ 1000; decide) .nil) (.cons (.str (by decide +kernel)) (.cons (.tup (ub3 _ _ eb3) (by show 3 ≤ 1000; decide) (.cons (.str (by decide +kernel)) (.cons (.int _) (.cons (.tup (ub2 _ _ eb2) (by show 3 ≤ 1000; decide) (.cons (.str (by decide +kernel)) (.cons (.int _) (.cons (.str (by decide +kernel)) .nil)))) .nil)))) (.cons (.tup (ub5 _ _ eb5) (by show 2 ≤ 1000; decide) (.cons (.str (by decide +kernel)) (.cons (.tup (ub4 _ _ eb4) (by show 0 ≤ 1000; decide) .nil) .nil))) .nil))))))
      have eb := eb6
      have hlb := hpb6
      have fb := (SA.keep tb5).free hlb
      have nb := tb5.free hlb
      refine ⟨d, g, c, lb, _, _, rfl, SA.keep tb, by omega, eb, fb.2.1, by simp, (by show 6 ≤ 1000000; decide), fun bv HC hbv SC kpC => ?_⟩
      obtain ⟨db, hdb, hbd⟩ := dvb.pick hbv
      have hbd := hbd.keep (Kv.kp (SA.keep tb) kpC)
      have nob : kindB db = false := by
        have q := List.all_eq_true.mp bads_no db hdb
        simpa using q
      have TC := tabs_kp (TA.ext tb) (SA.keep tb) kpC
      -- trails(bad)
      refine ⟨TC, fun HD eD TD => ?_⟩
      have hbd := hbd.keep (Kv.extN eD)
      have SD := SC.extN eD
      refine ⟨_, rfl, g, bv, db, rfl, hbd, .inr ⟨nob, fun HE sE => ?_⟩⟩
      refine ⟨true, T.exm, fun _ b1 hb1 => ?_, fun z => nomatch z⟩
      generalize hHF : upd HE b1 _ = HF
      obtain ⟨sF, eF1⟩ := freshF hb1 hHF
      refine ⟨(by show 1 ≤ sizeLine; decide), fun o ho => ?_⟩
      generalize hHG : upd HF o _ = HG
      obtain ⟨so, eo⟩ := freshF ho hHG
      have hbdF := hbd.keep (Kv.of (sE.trans sF))
      have sDG := (sE.trans sF).trans so
      have hbd := hbd.keep (Kv.of sDG)
      have SG := SD.keep sDG
      have TG := TD.ext sDG
      have eF1 := so _ _ eF1
      -- inner_kind(bad, None)
      refine ⟨_, rfl, .inl ⟨rfl, _, SqL.of eo⟩, ?_⟩
      refine ⟨TG, fun HH eH TH => ?_⟩
      have hbd := hbd.keep (Kv.extN eH)
      have SH := SG.extN eH
      have eo := eH _ _ eo (fun _ z => by cases z)
      have eF1 := eH _ _ eF1 (fun _ z => by unfold exh at z; cases z)
      refine ⟨_, rfl, g, bv, .non, db, .non, rfl, hbd, .non, .inl ⟨nob, fun HI sI => ?_⟩⟩
      refine ⟨true, T.exm, fun _ b2 hb2 => ?_, fun z => nomatch z⟩
      generalize hHJ : upd HI b2 _ = HJ
      obtain ⟨sJ, eJ2⟩ := freshF hb2 hHJ
      have sHJ := sI.trans sJ
      have eo := sHJ _ _ eo
      have eF1 := sHJ _ _ eF1
      refine ⟨o, _, _, rfl, rfl, eo, (by show 1 < sizeLine; decide), ?_⟩
      generalize hHK : upd HJ o _ = HK
      obtain ⟨ktK, eo2, neK⟩ := putF eo hHK
      have fo := (SD.keep (sE.trans sF)).free ho
      have hbd := hbd.keep (Kv.of sHJ)
      have b1o : b1 ≠ o := ne_of eF1 eo (by intro z; unfold exh at z; cases z)
      have b2o : b2 ≠ o := ne_of eJ2 eo (by intro z; unfold exh at z; cases z)
      have SK := (SH.keep sHJ).upF2 fo.1 fo.2.1 fo.2.2 neK
      have TK : Tabs (tbs PTW PTL) HK := tabs_but (TH.ext sHJ) fun b o' e n1 n2 => by
        have hb : b ≠ o := fun z => by
          rw [z, eo] at e
          exact n2 _ (Option.some.inj e).symm
        rw [neK b hb]
        exact e
      have eF1K : HK b1 = some (exh b1 (.ref C) none) := by rw [neK b1 b1o]; exact eF1
      have eJ2K : HK b2 = some (exh b2 (.ref C) none) := by rw [neK b2 b2o]; exact eJ2
      have xFK : ExtN HF HK := fun b u e n => by
        rw [neK b (ne_of_none e ho)]
        exact sHJ _ _ (eH _ _ (so _ _ e) n)
      have hbdK := hbdF.keep (Kv.extN xFK)
      -- offset_of(bad, ())
      refine ⟨_, rfl, .inl ⟨rfl, _, SqL.of eo2⟩, ?_⟩
      refine ⟨TK, fun HL eL TL' => ?_⟩
      have SL := SK.extN eL
      have hbdL := hbdK.keep (Kv.extN eL)
      have eo := eL _ _ eo2 (fun _ z => by cases z)
      have eF1 := eL _ _ eF1K (fun _ z => by unfold exh at z; cases z)
      have eJ2 := eL _ _ eJ2K (fun _ z => by unfold exh at z; cases z)
      refine ⟨_, rfl, Nat.zero_le _, fun q hq => ?_⟩
      generalize hHM : upd HL q _ = HM
      obtain ⟨sq, eq⟩ := freshF hq hHM
      refine ⟨g, bv, .ref q, db, .tup [], rfl, hbdL.keep (Kv.of sq), .tup eq (by show 0 ≤ 1000; decide) .nil, .inl ⟨nob, fun HN sN => ?_⟩⟩
      refine ⟨true, T.exm, fun _ b3 hb3 => ?_, fun z => nomatch z⟩
      generalize hHO : upd HN b3 _ = HO'
      obtain ⟨sO, eO3⟩ := freshF hb3 hHO
      have sLO := (sq.trans sN).trans sO
      have eo := sLO _ _ eo
      have eF1 := sLO _ _ eF1
      have eJ2 := sLO _ _ eJ2
      refine ⟨o, _, _, rfl, rfl, eo, (by show 2 < sizeLine; decide), ?_⟩
      generalize hHR : upd HO' o _ = HR
      obtain ⟨ktR, eo3, neR⟩ := putF eo hHR
      have b3o : b3 ≠ o := ne_of eO3 eo (by intro z; unfold exh at z; cases z)
      have SR := (SL.keep sLO).upF2 fo.1 fo.2.1 fo.2.2 neR
      have TR : Tabs (tbs PTW PTL) HR := tabs_but (TL'.ext sLO) fun b o' e n1 n2 => by
        have hb : b ≠ o := fun z => by
          rw [z, eo] at e
          exact n2 _ (Option.some.inj e).symm
        rw [neR b hb]
        exact e
      have ex1R : HR b1 = some (exh b1 (.ref C) none) := by rw [neR b1 b1o]; exact eF1
      have ex2R : HR b2 = some (exh b2 (.ref C) none) := by rw [neR b2 b2o]; exact eJ2
      have ex3R : HR b3 = some (exh b3 (.ref C) none) := by rw [neR b3 b3o]; exact eO3
      have eo3 : HR o = some (.lst [.ref b1, .ref b2, .ref b3]) := eo3
      -- all of them are BadKind
      refine ⟨_, rfl, o, rfl, ⟨_, SqL.of eo3⟩, fun D hD => lc_list (K := K) (a := o) (xs := [.ref b1, .ref b2, .ref b3]) (fun j H' => H' D = some (.lst []) ∧ Same HR H') ⟨upd_same, same_new hD⟩ (fun j H' _ ⟨_, s⟩ => SqL.of (s _ _ eo3)) ?_ ?_⟩
      · rintro j y H' hj ⟨h1, sy⟩
        obtain ⟨bb, rfl, hbb⟩ : ∃ bb, y = .ref bb ∧ HR bb = some (exh bb (.ref C) none) := by
          have hm := List.mem_of_getElem? hj
          simp only [List.mem_cons, List.not_mem_nil, or_false] at hm
          rcases hm with rfl | rfl | rfl
          · exact ⟨_, rfl, ex1R⟩
          · exact ⟨_, rfl, ex2R⟩
          · exact ⟨_, rfl, ex3R⟩
        refine ⟨rfl, ?_⟩
        refine ⟨_, rfl, bb, _, _, true, rfl, (fun u h => h), sy _ _ hbb, kit_self, _, rfl, ?_⟩
        exact ifF rfl ⟨h1, sy⟩
      rintro HS ⟨hDS, sS⟩
      refine ⟨Nat.zero_le _, fun e he => ?_⟩
      generalize hHT : upd HS e _ = HT
      obtain ⟨se, ee⟩ := freshF he hHT
      refine ⟨.list [], .list [], .lst (SqL.of (se _ _ hDS)) .nil, .lst (SqL.of ee) .nil, by decide +kernel, by decide +kernel, _, rfl, ?_⟩
      refine ifF rfl ?_
      exact ⟨_, _, _, _, _, _, _, rfl, (SR.keep (sS.trans se)).mono (by omega), TR.ext (sS.trans se)⟩
    · rintro σ H' ⟨v2, v3, v4, v5, v6, v7, v8, rfl, S0, T0⟩
      exact k H'
end
end K1

set_option Elab.async false
set_option linter.all false
set_option pp.maxSteps 700
set_option maxRecDepth 100000
set_option maxHeartbeats 4000000
namespace K1
open PySem PySem.Spec PyProof.Rows L2
open LamX (GivesTo CodeO Tabs TabS TabB tLam pe_lamcall lamCx lamEnv lamS_by ExtN)
open TL (tl)
theorem exm_of {K : PySem.W.Frag} {S B : Addr} (h1 : PySem.W.subIn K (.ref B) (.type "BaseException") = some true) (h2 : PySem.W.isClsIn K B = true) (h3 : PySem.W.typeIn K (.ref B) = some (.type "type")) (h4 : PySem.W.subIn K (.ref S) (.ref B) = some true) :
    PySem.W.exmOne K (.ref S) (.ref B) = some true := by
  have e1 : (PySem.W.subIn K (.ref B) (.type "BaseException") == some true) = true := by rw [h1] <;> rfl
  have e2 : ((PySem.W.clsIn K B).isSome && PySem.W.typeIn K (.ref B) == some (.type "type")) = true := by
    have h2' : (PySem.W.clsIn K B).isSome = true := h2
    rw [h2', h3] <;> rfl
  show (if (PySem.W.subIn K (.ref B) (.type "BaseException") == some true) = true then (if ((PySem.W.clsIn K B).isSome && PySem.W.typeIn K (.ref B) == some (.type "type")) = true then PySem.W.subIn K (.ref S) (.ref B) else none) else none) = some true
  rw [if_pos e1, if_pos e2]
  exact h4
def valStr : Value → Option Str
  | .str s _ => some s
  | _ => none
theorem vals_of : ∀ {us : List Value} {ss : List Str}, us.map valStr = ss.map some → Vals (ss.map V.str) us
  | [], [], _ => .nil
  | [], _ :: _, h => by cases h
  | _ :: _, [], h => by cases h
  | u :: us, s :: ss, h => by
    injection h with h1 h2
    refine .cons ?_ (vals_of h2)
    cases u with
    | str x t =>
      obtain rfl := Option.some.inj h1
      exact ⟨_, rfl⟩
    | _ => cases h1
theorem all_mk {l : PySem.W.OpenLaw} {w : World} {K : PySem.W.Frag} {h : Heap} {mg : Str → Option Value} {fa CE C BT cW cL PTW PTL aR : Addr} {dR : Option Addr} {its : Array Value} {nR : Nat} {slR : Array (Option Value)} (X : K.In h) (G : h.Ns mainGlobals mg) (hfa : mg "law" = some (.ref fa))
    {f1 : Addr} {od1 an1 : Option Addr} {sl1 : Array (Option Value)} {oc1 kV1 dc1 pm1 cd1 ct1 : Value}
    {f2 : Addr} {od2 an2 : Option Addr} {sl2 : Array (Option Value)} {oc2 kV2 dc2 pm2 cd2 ct2 : Value}
    {f3 : Addr} {od3 an3 : Option Addr} {sl3 : Array (Option Value)} {oc3 kV3 dc3 pm3 cd3 ct3 : Value}
    {f4 : Addr} {od4 an4 : Option Addr} {sl4 : Array (Option Value)} {oc4 kV4 dc4 pm4 cd4 ct4 : Value}
    {f5 : Addr} {od5 an5 : Option Addr} {sl5 : Array (Option Value)} {oc5 kV5 dc5 pm5 cd5 ct5 : Value}
    {f6 : Addr} {od6 an6 : Option Addr} {sl6 : Array (Option Value)} {oc6 kV6 dc6 pm6 cd6 ct6 : Value}
    {f7 : Addr} {od7 an7 : Option Addr} {sl7 : Array (Option Value)} {oc7 kV7 dc7 pm7 cd7 ct7 : Value}
    {f8 : Addr} {od8 an8 : Option Addr} {sl8 : Array (Option Value)} {oc8 kV8 dc8 pm8 cd8 ct8 : Value}
    {f9 : Addr} {od9 an9 : Option Addr} {sl9 : Array (Option Value)} {oc9 kV9 dc9 pm9 cd9 ct9 : Value}
    {f10 : Addr} {od10 an10 : Option Addr} {sl10 : Array (Option Value)} {oc10 kV10 dc10 pm10 cd10 ct10 : Value}
    {f11 : Addr} {od11 an11 : Option Addr} {sl11 : Array (Option Value)} {oc11 kV11 dc11 pm11 cd11 ct11 : Value}
    {f12 : Addr} {od12 an12 : Option Addr} {sl12 : Array (Option Value)} {oc12 kV12 dc12 pm12 cd12 ct12 : Value}
    {f13 : Addr} {od13 an13 : Option Addr} {sl13 : Array (Option Value)} {oc13 kV13 dc13 pm13 cd13 ct13 : Value}
    {f14 : Addr} {od14 an14 : Option Addr} {sl14 : Array (Option Value)} {oc14 kV14 dc14 pm14 cd14 ct14 : Value}
    {f15 : Addr} {od15 an15 : Option Addr} {sl15 : Array (Option Value)} {oc15 kV15 dc15 pm15 cd15 ct15 : Value}
    {f16 : Addr} {od16 an16 : Option Addr} {sl16 : Array (Option Value)} {oc16 kV16 dc16 pm16 cd16 ct16 : Value}
    {f17 : Addr} {od17 an17 : Option Addr} {sl17 : Array (Option Value)} {oc17 kV17 dc17 pm17 cd17 ct17 : Value}
    {f18 : Addr} {od18 an18 : Option Addr} {sl18 : Array (Option Value)} {oc18 kV18 dc18 pm18 cd18 ct18 : Value}
    {f19 : Addr} {od19 an19 : Option Addr} {sl19 : Array (Option Value)} {oc19 kV19 dc19 pm19 cd19 ct19 : Value}
    {f20 : Addr} {od20 an20 : Option Addr} {sl20 : Array (Option Value)} {oc20 kV20 dc20 pm20 cd20 ct20 : Value}
    {f21 : Addr} {od21 an21 : Option Addr} {sl21 : Array (Option Value)} {oc21 kV21 dc21 pm21 cd21 ct21 : Value}
    {f22 : Addr} {od22 an22 : Option Addr} {sl22 : Array (Option Value)} {oc22 kV22 dc22 pm22 cd22 ct22 : Value}
    {f23 : Addr} {od23 an23 : Option Addr} {sl23 : Array (Option Value)} {oc23 kV23 dc23 pm23 cd23 ct23 : Value}
    {f24 : Addr} {od24 an24 : Option Addr} {sl24 : Array (Option Value)} {oc24 kV24 dc24 pm24 cd24 ct24 : Value}
    {f25 : Addr} {od25 an25 : Option Addr} {sl25 : Array (Option Value)} {oc25 kV25 dc25 pm25 cd25 ct25 : Value}
    {f26 : Addr} {od26 an26 : Option Addr} {sl26 : Array (Option Value)} {oc26 kV26 dc26 pm26 cd26 ct26 : Value}
    {f27 : Addr} {od27 an27 : Option Addr} {sl27 : Array (Option Value)} {oc27 kV27 dc27 pm27 cd27 ct27 : Value}
    {f28 : Addr} {od28 an28 : Option Addr} {sl28 : Array (Option Value)} {oc28 kV28 dc28 pm28 cd28 ct28 : Value}
    {f29 : Addr} {od29 an29 : Option Addr} {sl29 : Array (Option Value)} {oc29 kV29 dc29 pm29 cd29 ct29 : Value}
    {f30 : Addr} {od30 an30 : Option Addr} {sl30 : Array (Option Value)} {oc30 kV30 dc30 pm30 cd30 ct30 : Value}
    {f31 : Addr} {od31 an31 : Option Addr} {sl31 : Array (Option Value)} {oc31 kV31 dc31 pm31 cd31 ct31 : Value}
    {f32 : Addr} {od32 an32 : Option Addr} {sl32 : Array (Option Value)} {oc32 kV32 dc32 pm32 cd32 ct32 : Value}
    {f33 : Addr} {od33 an33 : Option Addr} {sl33 : Array (Option Value)} {oc33 kV33 dc33 pm33 cd33 ct33 : Value}
    {f34 : Addr} {od34 an34 : Option Addr} {sl34 : Array (Option Value)} {oc34 kV34 dc34 pm34 cd34 ct34 : Value}
    {f35 : Addr} {od35 an35 : Option Addr} {sl35 : Array (Option Value)} {oc35 kV35 dc35 pm35 cd35 ct35 : Value}
    {f36 : Addr} {od36 an36 : Option Addr} {sl36 : Array (Option Value)} {oc36 kV36 dc36 pm36 ct36 : Value}
    {f37 : Addr} {od37 an37 : Option Addr} {sl37 : Array (Option Value)} {oc37 kV37 dc37 pm37 ct37 : Value}
    {xL : Str} {tL : PySem.Tok}
    {xD : Str} {tD : PySem.Tok}
    {xS : Int} {tS : PySem.Tok}
    {xI : Int} {tI : PySem.Tok}
    {xF : Int} {tF : PySem.Tok}
    {xP : Int} {tP : PySem.Tok}
    {xW : Int} {tW : PySem.Tok}
    (a1 : PySem.W.nsIn K mainGlobals "is_whole" = some (some (.ref f1)))
    (l1 : K.lookup f1 = some ⟨oc1, od1, .func (PySem.W.fnOf "is_whole" "is_whole" (defArgs sWhl) (defBody sWhl) (defScope sWhl) .none kV1 dc1 pm1 an1 cd1 ct1), sl1⟩)
    (c1 : PySem.W.codeIn K cd1 "is_whole" = true)
    (k1 : PySem.W.keepIn K (.ref f1) = true)
    (a2 : PySem.W.nsIn K mainGlobals "is_within" = some (some (.ref f2)))
    (l2 : K.lookup f2 = some ⟨oc2, od2, .func (PySem.W.fnOf "is_within" "is_within" (defArgs sWin) (defBody sWin) (defScope sWin) .none kV2 dc2 pm2 an2 cd2 ct2), sl2⟩)
    (c2 : PySem.W.codeIn K cd2 "is_within" = true)
    (k2 : PySem.W.keepIn K (.ref f2) = true)
    (a3 : PySem.W.nsIn K mainGlobals "is_tuple_of" = some (some (.ref f3)))
    (l3 : K.lookup f3 = some ⟨oc3, od3, .func (PySem.W.fnOf "is_tuple_of" "is_tuple_of" (defArgs sTof) (defBody sTof) (defScope sTof) .none kV3 dc3 pm3 an3 cd3 ct3), sl3⟩)
    (c3 : PySem.W.codeIn K cd3 "is_tuple_of" = true)
    (k3 : PySem.W.keepIn K (.ref f3) = true)
    (a4 : PySem.W.nsIn K mainGlobals "is_tuple_within" = some (some (.ref f4)))
    (l4 : K.lookup f4 = some ⟨oc4, od4, .func (PySem.W.fnOf "is_tuple_within" "is_tuple_within" (defArgs sTin) (defBody sTin) (defScope sTin) .none kV4 dc4 pm4 an4 cd4 ct4), sl4⟩)
    (c4 : PySem.W.codeIn K cd4 "is_tuple_within" = true)
    (k4 : PySem.W.keepIn K (.ref f4) = true)
    (a5 : PySem.W.nsIn K mainGlobals "has_doubles" = some (some (.ref f5)))
    (l5 : K.lookup f5 = some ⟨oc5, od5, .func (PySem.W.fnOf "has_doubles" "has_doubles" (defArgs sDbl) (defBody sDbl) (defScope sDbl) .none kV5 dc5 pm5 an5 cd5 ct5), sl5⟩)
    (c5 : PySem.W.codeIn K cd5 "has_doubles" = true)
    (k5 : PySem.W.keepIn K (.ref f5) = true)
    (a6 : PySem.W.nsIn K mainGlobals "is_name" = some (some (.ref f6)))
    (l6 : K.lookup f6 = some ⟨oc6, od6, .func (PySem.W.fnOf "is_name" "is_name" (defArgs sNm) (defBody sNm) (defScope sNm) .none kV6 dc6 pm6 an6 cd6 ct6), sl6⟩)
    (c6 : PySem.W.codeIn K cd6 "is_name" = true)
    (k6 : PySem.W.keepIn K (.ref f6) = true)
    (a7 : PySem.W.nsIn K mainGlobals "is_plain" = some (some (.ref f7)))
    (l7 : K.lookup f7 = some ⟨oc7, od7, .func (PySem.W.fnOf "is_plain" "is_plain" (defArgs sPl) (defBody sPl) (defScope sPl) .none kV7 dc7 pm7 an7 cd7 ct7), sl7⟩)
    (c7 : PySem.W.codeIn K cd7 "is_plain" = true)
    (k7 : PySem.W.keepIn K (.ref f7) = true)
    (a8 : PySem.W.nsIn K mainGlobals "is_kind" = some (some (.ref f8)))
    (l8 : K.lookup f8 = some ⟨oc8, od8, .func (PySem.W.fnOf "is_kind" "is_kind" (defArgs sKd) (defBody sKd) (defScope sKd) .none kV8 dc8 pm8 an8 cd8 ct8), sl8⟩)
    (c8 : PySem.W.codeIn K cd8 "is_kind" = true)
    (k8 : PySem.W.keepIn K (.ref f8) = true)
    (a9 : PySem.W.nsIn K mainGlobals "_is_formed" = some (some (.ref f9)))
    (l9 : K.lookup f9 = some ⟨oc9, od9, .func (PySem.W.fnOf "_is_formed" "_is_formed" (defArgs sFm) (defBody sFm) (defScope sFm) .none kV9 dc9 pm9 an9 cd9 ct9), sl9⟩)
    (c9 : PySem.W.codeIn K cd9 "_is_formed" = true)
    (k9 : PySem.W.keepIn K (.ref f9) = true)
    (a10 : PySem.W.nsIn K mainGlobals "_are_fields" = some (some (.ref f10)))
    (l10 : K.lookup f10 = some ⟨oc10, od10, .func (PySem.W.fnOf "_are_fields" "_are_fields" (defArgs sFl) (defBody sFl) (defScope sFl) .none kV10 dc10 pm10 an10 cd10 ct10), sl10⟩)
    (c10 : PySem.W.codeIn K cd10 "_are_fields" = true)
    (k10 : PySem.W.keepIn K (.ref f10) = true)
    (a11 : PySem.W.nsIn K mainGlobals "word_count" = some (some (.ref f11)))
    (l11 : K.lookup f11 = some ⟨oc11, od11, .func (PySem.W.fnOf "word_count" "word_count" (defArgs sWc) (defBody sWc) (defScope sWc) .none kV11 dc11 pm11 an11 cd11 ct11), sl11⟩)
    (c11 : PySem.W.codeIn K cd11 "word_count" = true)
    (k11 : PySem.W.keepIn K (.ref f11) = true)
    (a12 : PySem.W.nsIn K mainGlobals "inner_kind" = some (some (.ref f12)))
    (l12 : K.lookup f12 = some ⟨oc12, od12, .func (PySem.W.fnOf "inner_kind" "inner_kind" (defArgs sInn) (defBody sInn) (defScope sInn) .none kV12 dc12 pm12 an12 cd12 ct12), sl12⟩)
    (c12 : PySem.W.codeIn K cd12 "inner_kind" = true)
    (k12 : PySem.W.keepIn K (.ref f12) = true)
    (a13 : PySem.W.nsIn K mainGlobals "offset_of" = some (some (.ref f13)))
    (l13 : K.lookup f13 = some ⟨oc13, od13, .func (PySem.W.fnOf "offset_of" "offset_of" (defArgs sOff) (defBody sOff) (defScope sOff) .none kV13 dc13 pm13 an13 cd13 ct13), sl13⟩)
    (c13 : PySem.W.codeIn K cd13 "offset_of" = true)
    (k13 : PySem.W.keepIn K (.ref f13) = true)
    (a14 : PySem.W.nsIn K mainGlobals "trails" = some (some (.ref f14)))
    (l14 : K.lookup f14 = some ⟨oc14, od14, .func (PySem.W.fnOf "trails" "trails" (defArgs sTrl) (defBody sTrl) (defScope sTrl) .none kV14 dc14 pm14 an14 cd14 ct14), sl14⟩)
    (c14 : PySem.W.codeIn K cd14 "trails" = true)
    (k14 : PySem.W.keepIn K (.ref f14) = true)
    (a15 : PySem.W.nsIn K mainGlobals "field_kind" = some (some (.ref f15)))
    (l15 : K.lookup f15 = some ⟨oc15, od15, .func (PySem.W.fnOf "field_kind" "field_kind" (defArgs sFk) (defBody sFk) (defScope sFk) .none kV15 dc15 pm15 an15 cd15 ct15), sl15⟩)
    (c15 : PySem.W.codeIn K cd15 "field_kind" = true)
    (k15 : PySem.W.keepIn K (.ref f15) = true)
    (a16 : PySem.W.nsIn K mainGlobals "_need_kind" = some (some (.ref f16)))
    (l16 : K.lookup f16 = some ⟨oc16, od16, .func (PySem.W.fnOf "_need_kind" "_need_kind" (defArgs sNk) (defBody sNk) (defScope sNk) .none kV16 dc16 pm16 an16 cd16 ct16), sl16⟩)
    (c16 : PySem.W.codeIn K cd16 "_need_kind" = true)
    (k16 : PySem.W.keepIn K (.ref f16) = true)
    (a17 : PySem.W.nsIn K mainGlobals "_walked" = some (some (.ref f17)))
    (l17 : K.lookup f17 = some ⟨oc17, od17, .func (PySem.W.fnOf "_walked" "_walked" (defArgs sWlk) (defBody sWlk) (defScope sWlk) .none kV17 dc17 pm17 an17 cd17 ct17), sl17⟩)
    (c17 : PySem.W.codeIn K cd17 "_walked" = true)
    (k17 : PySem.W.keepIn K (.ref f17) = true)
    (a18 : PySem.W.nsIn K mainGlobals "_stepped" = some (some (.ref f18)))
    (l18 : K.lookup f18 = some ⟨oc18, od18, .func (PySem.W.fnOf "_stepped" "_stepped" (defArgs sStp) (defBody sStp) (defScope sStp) .none kV18 dc18 pm18 an18 cd18 ct18), sl18⟩)
    (c18 : PySem.W.codeIn K cd18 "_stepped" = true)
    (k18 : PySem.W.keepIn K (.ref f18) = true)
    (a19 : PySem.W.nsIn K mainGlobals "_trails" = some (some (.ref f19)))
    (l19 : K.lookup f19 = some ⟨oc19, od19, .func (PySem.W.fnOf "_trails" "_trails" (defArgs sTrs) (defBody sTrs) (defScope sTrs) .none kV19 dc19 pm19 an19 cd19 ct19), sl19⟩)
    (c19 : PySem.W.codeIn K cd19 "_trails" = true)
    (k19 : PySem.W.keepIn K (.ref f19) = true)
    (a20 : PySem.W.nsIn K mainGlobals "_law_begun" = some (some (.ref f20)))
    (l20 : K.lookup f20 = some ⟨oc20, od20, .func (PySem.W.fnOf "_law_begun" "_law_begun" (defArgs sBeg) (defBody sBeg) (defScope sBeg) .none kV20 dc20 pm20 an20 cd20 ct20), sl20⟩)
    (c20 : PySem.W.codeIn K cd20 "_law_begun" = true)
    (k20 : PySem.W.keepIn K (.ref f20) = true)
    (a21 : PySem.W.nsIn K mainGlobals "_law_mixed" = some (some (.ref f21)))
    (l21 : K.lookup f21 = some ⟨oc21, od21, .func (PySem.W.fnOf "_law_mixed" "_law_mixed" (defArgs sMix) (defBody sMix) (defScope sMix) .none kV21 dc21 pm21 an21 cd21 ct21), sl21⟩)
    (c21 : PySem.W.codeIn K cd21 "_law_mixed" = true)
    (k21 : PySem.W.keepIn K (.ref f21) = true)
    (a22 : PySem.W.nsIn K mainGlobals "_law_draw" = some (some (.ref f22)))
    (l22 : K.lookup f22 = some ⟨oc22, od22, .func (PySem.W.fnOf "_law_draw" "_law_draw" (defArgs sDrw) (defBody sDrw) (defScope sDrw) .none kV22 dc22 pm22 an22 cd22 ct22), sl22⟩)
    (c22 : PySem.W.codeIn K cd22 "_law_draw" = true)
    (k22 : PySem.W.keepIn K (.ref f22) = true)
    (a23 : PySem.W.nsIn K mainGlobals "_law_pick" = some (some (.ref f23)))
    (l23 : K.lookup f23 = some ⟨oc23, od23, .func (PySem.W.fnOf "_law_pick" "_law_pick" (defArgs sPck) (defBody sPck) (defScope sPck) .none kV23 dc23 pm23 an23 cd23 ct23), sl23⟩)
    (c23 : PySem.W.codeIn K cd23 "_law_pick" = true)
    (k23 : PySem.W.keepIn K (.ref f23) = true)
    (a24 : PySem.W.nsIn K mainGlobals "_law_shuffled" = some (some (.ref f24)))
    (l24 : K.lookup f24 = some ⟨oc24, od24, .func (PySem.W.fnOf "_law_shuffled" "_law_shuffled" (defArgs sShf) (defBody sShf) (defScope sShf) .none kV24 dc24 pm24 an24 cd24 ct24), sl24⟩)
    (c24 : PySem.W.codeIn K cd24 "_law_shuffled" = true)
    (k24 : PySem.W.keepIn K (.ref f24) = true)
    (a25 : PySem.W.nsIn K mainGlobals "_law_caught" = some (some (.ref f25)))
    (l25 : K.lookup f25 = some ⟨oc25, od25, .func (PySem.W.fnOf "_law_caught" "_law_caught" (defArgs sCgt) (defBody sCgt) (defScope sCgt) .none kV25 dc25 pm25 an25 cd25 ct25), sl25⟩)
    (c25 : PySem.W.codeIn K cd25 "_law_caught" = true)
    (k25 : PySem.W.keepIn K (.ref f25) = true)
    (a26 : PySem.W.nsIn K mainGlobals "_law_tx_words" = some (some (.ref f26)))
    (l26 : K.lookup f26 = some ⟨oc26, od26, .func (PySem.W.fnOf "_law_tx_words" "_law_tx_words" (defArgs sWds) (defBody sWds) (defScope sWds) .none kV26 dc26 pm26 an26 cd26 ct26), sl26⟩)
    (c26 : PySem.W.codeIn K cd26 "_law_tx_words" = true)
    (k26 : PySem.W.keepIn K (.ref f26) = true)
    (a27 : PySem.W.nsIn K mainGlobals "_law_tx_name" = some (some (.ref f27)))
    (l27 : K.lookup f27 = some ⟨oc27, od27, .func (PySem.W.fnOf "_law_tx_name" "_law_tx_name" (defArgs sNam) (defBody sNam) (defScope sNam) .none kV27 dc27 pm27 an27 cd27 ct27), sl27⟩)
    (c27 : PySem.W.codeIn K cd27 "_law_tx_name" = true)
    (k27 : PySem.W.keepIn K (.ref f27) = true)
    (a28 : PySem.W.nsIn K mainGlobals "_law_tx_table" = some (some (.ref f28)))
    (l28 : K.lookup f28 = some ⟨oc28, od28, .func (PySem.W.fnOf "_law_tx_table" "_law_tx_table" (defArgs sTab) (defBody sTab) (defScope sTab) .none kV28 dc28 pm28 an28 cd28 ct28), sl28⟩)
    (c28 : PySem.W.codeIn K cd28 "_law_tx_table" = true)
    (k28 : PySem.W.keepIn K (.ref f28) = true)
    (a29 : PySem.W.nsIn K mainGlobals "_law_tx_named" = some (some (.ref f29)))
    (l29 : K.lookup f29 = some ⟨oc29, od29, .func (PySem.W.fnOf "_law_tx_named" "_law_tx_named" (defArgs sNmd) (defBody sNmd) (defScope sNmd) .none kV29 dc29 pm29 an29 cd29 ct29), sl29⟩)
    (c29 : PySem.W.codeIn K cd29 "_law_tx_named" = true)
    (k29 : PySem.W.keepIn K (.ref f29) = true)
    (a30 : PySem.W.nsIn K mainGlobals "_law_cb_words" = some (some (.ref f30)))
    (l30 : K.lookup f30 = some ⟨oc30, od30, .func (PySem.W.fnOf "_law_cb_words" "_law_cb_words" (defArgs sCbw) (defBody sCbw) (defScope sCbw) .none kV30 dc30 pm30 an30 cd30 ct30), sl30⟩)
    (c30 : PySem.W.codeIn K cd30 "_law_cb_words" = true)
    (k30 : PySem.W.keepIn K (.ref f30) = true)
    (a31 : PySem.W.nsIn K mainGlobals "_law_cb_kind" = some (some (.ref f31)))
    (l31 : K.lookup f31 = some ⟨oc31, od31, .func (PySem.W.fnOf "_law_cb_kind" "_law_cb_kind" (defArgs sKnd) (defBody sKnd) (defScope sKnd) .none kV31 dc31 pm31 an31 cd31 ct31), sl31⟩)
    (c31 : PySem.W.codeIn K cd31 "_law_cb_kind" = true)
    (k31 : PySem.W.keepIn K (.ref f31) = true)
    (a32 : PySem.W.nsIn K mainGlobals "_law_all" = some (some (.ref f32)))
    (l32 : K.lookup f32 = some ⟨oc32, od32, .func (PySem.W.fnOf "_law_all" "_law_all" (defArgs sAll) (defBody sAll) (defScope sAll) .none kV32 dc32 pm32 an32 cd32 ct32), sl32⟩)
    (c32 : PySem.W.codeIn K cd32 "_law_all" = true)
    (k32 : PySem.W.keepIn K (.ref f32) = true)
    (a33 : PySem.W.nsIn K mainGlobals "_law_at" = some (some (.ref f33)))
    (l33 : K.lookup f33 = some ⟨oc33, od33, .func (PySem.W.fnOf "_law_at" "_law_at" (defArgs sLat) (defBody sLat) (defScope sLat) .none kV33 dc33 pm33 an33 cd33 ct33), sl33⟩)
    (c33 : PySem.W.codeIn K cd33 "_law_at" = true)
    (k33 : PySem.W.keepIn K (.ref f33) = true)
    (a34 : PySem.W.nsIn K mainGlobals "_law_new_kind" = some (some (.ref f34)))
    (l34 : K.lookup f34 = some ⟨oc34, od34, .func (PySem.W.fnOf "_law_new_kind" "_law_new_kind" (defArgs sNkd) (defBody sNkd) (defScope sNkd) .none kV34 dc34 pm34 an34 cd34 ct34), sl34⟩)
    (c34 : PySem.W.codeIn K cd34 "_law_new_kind" = true)
    (k34 : PySem.W.keepIn K (.ref f34) = true)
    (a35 : PySem.W.nsIn K mainGlobals "_law_other_trail" = some (some (.ref f35)))
    (l35 : K.lookup f35 = some ⟨oc35, od35, .func (PySem.W.fnOf "_law_other_trail" "_law_other_trail" (defArgs sOth) (defBody sOth) (defScope sOth) .none kV35 dc35 pm35 an35 cd35 ct35), sl35⟩)
    (c35 : PySem.W.codeIn K cd35 "_law_other_trail" = true)
    (k35 : PySem.W.keepIn K (.ref f35) = true)
    (a36 : PySem.W.nsIn K mainGlobals "_law_words_right" = some (some (.ref f36)))
    (l36 : K.lookup f36 = some ⟨oc36, od36, .func (PySem.W.fnOf "_law_words_right" "_law_words_right" (defArgs sWr) (defBody sWr) (defScope sWr) .none kV36 dc36 pm36 an36 (.ref cW) ct36), sl36⟩)
    (c36 : PySem.W.codeIn K (.ref cW) "_law_words_right" = true)
    (k36 : PySem.W.keepIn K (.ref f36) = true)
    (a37 : PySem.W.nsIn K mainGlobals "law" = some (some (.ref f37)))
    (l37 : K.lookup f37 = some ⟨oc37, od37, .func (PySem.W.fnOf "law" "law" (defArgs sLaw) (defBody sLaw) (defScope sLaw) .none kV37 dc37 pm37 an37 (.ref cL) ct37), sl37⟩)
    (c37 : PySem.W.codeIn K (.ref cL) "law" = true)
    (k37 : PySem.W.keepIn K (.ref f37) = true)
    (z_len : PySem.W.nsIn K mainGlobals "len" = some none)
    (z_isinstance : PySem.W.nsIn K mainGlobals "isinstance" = some none)
    (z_str : PySem.W.nsIn K mainGlobals "str" = some none)
    (z_abs : PySem.W.nsIn K mainGlobals "abs" = some none)
    (z_int : PySem.W.nsIn K mainGlobals "int" = some none)
    (z_range : PySem.W.nsIn K mainGlobals "range" = some none)
    (z_min : PySem.W.nsIn K mainGlobals "min" = some none)
    (z_list : PySem.W.nsIn K mainGlobals "list" = some none)
    (z_bool : PySem.W.nsIn K mainGlobals "bool" = some none)
    (z_tuple : PySem.W.nsIn K mainGlobals "tuple" = some none)
    (z_all : PySem.W.nsIn K mainGlobals "all" = some none)
    (z_set : PySem.W.nsIn K mainGlobals "set" = some none)
    (z_sum : PySem.W.nsIn K mainGlobals "sum" = some none)
    (vL : PySem.W.nsIn K mainGlobals "LETTERS" = some (some (.str xL tL)))
    (eL : xL = L26)
    (vD : PySem.W.nsIn K mainGlobals "DIGITS" = some (some (.str xD tD)))
    (eD : xD = D10)
    (vS : PySem.W.nsIn K mainGlobals "MOST_SIGNS" = some (some (.int xS tS)))
    (eS : xS = 8)
    (vI : PySem.W.nsIn K mainGlobals "MOST_ITEMS" = some (some (.int xI tI)))
    (eI : xI = 64)
    (vF : PySem.W.nsIn K mainGlobals "MOST_FIELDS" = some (some (.int xF tF)))
    (eF : xF = 6)
    (vP : PySem.W.nsIn K mainGlobals "MOST_DEEP" = some (some (.int xP tP)))
    (eP : xP = 4)
    (vW : PySem.W.nsIn K mainGlobals "MOST_WORDS" = some (some (.int xW tW)))
    (eW : xW = 400)
    (vR : PySem.W.nsIn K mainGlobals "RESERVED" = some (some (.ref aR)))
    (lR : K.lookup aR = some ⟨.type "tuple", dR, .seq its nR, slR⟩)
    (eR : (its.toList.map valStr == wds.map some) = true)
    (aCE : PySem.W.nsIn K mainGlobals "ClockError" = some (some (.ref CE)))
    (sE : PySem.W.subIn K (.ref CE) (.type "BaseException") = some true)
    (iE : PySem.W.isClsIn K CE = true)
    (tE : PySem.W.typeIn K (.ref CE) = some (.type "type"))
    (spO : PySem.W.specialIn K (.builtin "object.__class__") "__get__" = some (some (.builtin "getset_descriptor.__get__")))
    (tkO : PySem.W.takesIn K (.builtin "object.__class__") = some true)
    (aC : PySem.W.nsIn K mainGlobals "BadKind" = some (some (.ref C)))
    (kC : PySem.W.keepIn K (.ref C) = true)
    (xC : PySem.W.excIn K C excVE "ValueError.__new__" = true)
    (sBC : PySem.W.subIn K (.ref C) (.type "BaseException") = some true)
    (tC : PySem.W.typeIn K (.ref C) = some (.type "type"))
    (sEC : PySem.W.subIn K (.ref C) (.ref CE) = some true)
    (gC : PySem.W.findIn K (.ref C) "__getattribute__" = some (some (.builtin "BaseException.__getattribute__")))
    (ggC : PySem.W.findIn K (.ref C) "__getattr__" = some none)
    (hdC : PySem.W.hasDictIn K C = true)
    (clC : PySem.W.findIn K (.ref C) "__class__" = some (some (.builtin "object.__class__")))
    (mrC : PySem.W.mroIn K C (.type "object") = some true)
    (aBT : PySem.W.nsIn K mainGlobals "BadTrail" = some (some (.ref BT)))
    (kBT : PySem.W.keepIn K (.ref BT) = true)
    (xBT : PySem.W.excIn K BT excVE "ValueError.__new__" = true)
    (sBBT : PySem.W.subIn K (.ref BT) (.type "BaseException") = some true)
    (tBT : PySem.W.typeIn K (.ref BT) = some (.type "type"))
    (sEBT : PySem.W.subIn K (.ref BT) (.ref CE) = some true)
    (gBT : PySem.W.findIn K (.ref BT) "__getattribute__" = some (some (.builtin "BaseException.__getattribute__")))
    (ggBT : PySem.W.findIn K (.ref BT) "__getattr__" = some none)
    (hdBT : PySem.W.hasDictIn K BT = true)
    (clBT : PySem.W.findIn K (.ref BT) "__class__" = some (some (.builtin "object.__class__")))
    (mrBT : PySem.W.mroIn K BT (.type "object") = some true)
    (hdrW : PySem.W.codeHdIn K cW PTW = true)
    (npW : K.lookup PTW = none)
    (hTW : h.get? PTW = some { cls := .none, data := .fields #[] })
    (hdrL : PySem.W.codeHdIn K cL PTL = true)
    (npL : K.lookup PTL = none)
    (hTL : h.get? PTL = some { cls := .none, data := .fields #[] })
    (hne : PTW ≠ PTL)
    : LamX.LawAtS l w K CX0 16 63 "script" mg fa h := by
  have e := hfa.symm.trans (PySem.W.mg_of X G a37)
  cases e
  subst eL eD eS eI eF eP eW
  have F1 := fun_mk (st := sWhl) l1 c1 k1
  have b1 := F1.binds (ps := ["value"]) fun _ _ _ _ _ _ us hl => match us, hl with | [_], _ => rfl
  have F2 := fun_mk (st := sWin) l2 c2 k2
  have b2 := F2.binds (ps := ["value", "low", "high"]) fun _ _ _ _ _ _ us hl => match us, hl with | [_, _, _], _ => rfl
  have F3 := fun_mk (st := sTof) l3 c3 k3
  have b3 := F3.binds (ps := ["value", "many"]) fun _ _ _ _ _ _ us hl => match us, hl with | [_, _], _ => rfl
  have F4 := fun_mk (st := sTin) l4 c4 k4
  have b4 := F4.binds (ps := ["value", "low", "high"]) fun _ _ _ _ _ _ us hl => match us, hl with | [_, _, _], _ => rfl
  have F5 := fun_mk (st := sDbl) l5 c5 k5
  have b5 := F5.binds (ps := ["rows"]) fun _ _ _ _ _ _ us hl => match us, hl with | [_], _ => rfl
  have F6 := fun_mk (st := sNm) l6 c6 k6
  have b6 := F6.binds (ps := ["value"]) fun _ _ _ _ _ _ us hl => match us, hl with | [_], _ => rfl
  have F7 := fun_mk (st := sPl) l7 c7 k7
  have b7 := F7.binds (ps := ["value"]) fun _ _ _ _ _ _ us hl => match us, hl with | [_], _ => rfl
  have F8 := fun_mk (st := sKd) l8 c8 k8
  have b8 := F8.binds (ps := ["value"]) fun _ _ _ _ _ _ us hl => match us, hl with | [_], _ => rfl
  have F9 := fun_mk (st := sFm) l9 c9 k9
  have b9 := F9.binds (ps := ["value", "deep"]) fun _ _ _ _ _ _ us hl => match us, hl with | [_, _], _ => rfl
  have F10 := fun_mk (st := sFl) l10 c10 k10
  have b10 := F10.binds (ps := ["value", "deep"]) fun _ _ _ _ _ _ us hl => match us, hl with | [_, _], _ => rfl
  have F11 := fun_mk (st := sWc) l11 c11 k11
  have b11 := F11.binds (ps := ["kind"]) fun _ _ _ _ _ _ us hl => match us, hl with | [_], _ => rfl
  have F12 := fun_mk (st := sInn) l12 c12 k12
  have b12 := F12.binds (ps := ["kind", "trail"]) fun _ _ _ _ _ _ us hl => match us, hl with | [_, _], _ => rfl
  have F13 := fun_mk (st := sOff) l13 c13 k13
  have b13 := F13.binds (ps := ["kind", "trail"]) fun _ _ _ _ _ _ us hl => match us, hl with | [_, _], _ => rfl
  have F14 := fun_mk (st := sTrl) l14 c14 k14
  have b14 := F14.binds (ps := ["kind"]) fun _ _ _ _ _ _ us hl => match us, hl with | [_], _ => rfl
  have F15 := fun_mk (st := sFk) l15 c15 k15
  have b15 := F15.binds (ps := ["kind", "field"]) fun _ _ _ _ _ _ us hl => match us, hl with | [_, _], _ => rfl
  have F16 := fun_mk (st := sNk) l16 c16 k16
  have b16 := F16.binds (ps := ["kind"]) fun _ _ _ _ _ _ us hl => match us, hl with | [_], _ => rfl
  have F17 := fun_mk (st := sWlk) l17 c17 k17
  have b17 := F17.binds (ps := ["kind", "trail"]) fun _ _ _ _ _ _ us hl => match us, hl with | [_, _], _ => rfl
  have F18 := fun_mk (st := sStp) l18 c18 k18
  have b18 := F18.binds (ps := ["kind", "step"]) fun _ _ _ _ _ _ us hl => match us, hl with | [_, _], _ => rfl
  have F19 := fun_mk (st := sTrs) l19 c19 k19
  have b19 := F19.binds (ps := ["kind"]) fun _ _ _ _ _ _ us hl => match us, hl with | [_], _ => rfl
  have F20 := fun_mk (st := sBeg) l20 c20 k20
  have b20 := F20.binds (ps := ["script"]) fun _ _ _ _ _ _ us hl => match us, hl with | [_], _ => rfl
  have F21 := fun_mk (st := sMix) l21 c21 k21
  have b21 := F21.binds (ps := ["state"]) fun _ _ _ _ _ _ us hl => match us, hl with | [_], _ => rfl
  have F22 := fun_mk (st := sDrw) l22 c22 k22
  have b22 := F22.binds (ps := ["state", "room"]) fun _ _ _ _ _ _ us hl => match us, hl with | [_, _], _ => rfl
  have F23 := fun_mk (st := sPck) l23 c23 k23
  have b23 := F23.binds (ps := ["state", "some"]) fun _ _ _ _ _ _ us hl => match us, hl with | [_, _], _ => rfl
  have F24 := fun_mk (st := sShf) l24 c24 k24
  have b24 := F24.binds (ps := ["state", "some"]) fun _ _ _ _ _ _ us hl => match us, hl with | [_, _], _ => rfl
  have F25 := fun_mk (st := sCgt) l25 c25 k25
  have b25 := F25.binds (ps := ["action"]) fun _ _ _ _ _ _ us hl => match us, hl with | [_], _ => rfl
  have F26 := fun_mk (st := sWds) l26 c26 k26
  have b26 := F26.binds (ps := []) fun _ _ _ _ _ _ us hl => match us, hl with | [], _ => rfl
  have F27 := fun_mk (st := sNam) l27 c27 k27
  have b27 := F27.binds (ps := ["state", "taken"]) fun _ _ _ _ _ _ us hl => match us, hl with | [_, _], _ => rfl
  have F28 := fun_mk (st := sTab) l28 c28 k28
  have b28 := F28.binds (ps := ["state"]) fun _ _ _ _ _ _ us hl => match us, hl with | [_], _ => rfl
  have F29 := fun_mk (st := sNmd) l29 c29 k29
  have b29 := F29.binds (ps := ["value", "table"]) fun _ _ _ _ _ _ us hl => match us, hl with | [_, _], _ => rfl
  have F30 := fun_mk (st := sCbw) l30 c30 k30
  have b30 := F30.binds (ps := ["kind"]) fun _ _ _ _ _ _ us hl => match us, hl with | [_], _ => rfl
  have F31 := fun_mk (st := sKnd) l31 c31 k31
  have b31 := F31.binds (ps := ["state", "deep", "cap"]) fun _ _ _ _ _ _ us hl => match us, hl with | [_, _, _], _ => rfl
  have F32 := fun_mk (st := sAll) l32 c32 k32
  have b32 := F32.binds (ps := ["kind"]) fun _ _ _ _ _ _ us hl => match us, hl with | [_], _ => rfl
  have F33 := fun_mk (st := sLat) l33 c33 k33
  have b33 := F33.binds (ps := ["kind", "trail"]) fun _ _ _ _ _ _ us hl => match us, hl with | [_, _], _ => rfl
  have F34 := fun_mk (st := sNkd) l34 c34 k34
  have b34 := F34.binds (ps := ["state"]) fun _ _ _ _ _ _ us hl => match us, hl with | [_], _ => rfl
  have F35 := fun_mk (st := sOth) l35 c35 k35
  have b35 := F35.binds (ps := ["state", "kind", "trail"]) fun _ _ _ _ _ _ us hl => match us, hl with | [_, _, _], _ => rfl
  have F36 := fun_mk (st := sWr) l36 c36 k36
  have b36 := F36.binds (ps := ["state", "kind", "due"]) fun _ _ _ _ _ _ us hl => match us, hl with | [_, _, _], _ => rfl
  have F37 := fun_mk (st := sLaw) l37 c37 k37
  have b37 := F37.binds (ps := ["script"]) fun _ _ _ _ _ _ us hl => match us, hl with | [_], _ => rfl
  have eR' := vals_of (eq_of_beq eR)
  have eZ : its.size ≤ sizeLine := by
    have := congrArg List.length (eq_of_beq eR)
    rw [List.length_map, List.length_map, Array.length_toList] at this
    rw [this, sizeLine_eq]
    decide
  have TP : MgP K mg f1 := { whl := PySem.W.mg_of X G a1, kwhl := k1, lett := ⟨_, PySem.W.mg_of X G vL⟩, digt := ⟨_, PySem.W.mg_of X G vD⟩, resv := ⟨aR, PySem.W.mg_of X G vR, fun H => .inr ⟨_, its, nR, lR, rfl, rfl, eZ, eR'⟩⟩, msig := ⟨_, PySem.W.mg_of X G vS⟩, isi := PySem.W.mg_none_of X G z_isinstance, len := PySem.W.mg_none_of X G z_len, str := PySem.W.mg_none_of X G z_str, int := PySem.W.mg_none_of X G z_int, bol := PySem.W.mg_none_of X G z_bool, tpl := PySem.W.mg_none_of X G z_tuple, all := PySem.W.mg_none_of X G z_all, set := PySem.W.mg_none_of X G z_set }
  have TK : MgK K mg f1 f2 f3 f4 f5 f6 f7 f9 f10 f11 := { TP with win := PySem.W.mg_of X G a2, kwin := k2, tof := PySem.W.mg_of X G a3, ktof := k3, tin := PySem.W.mg_of X G a4, ktin := k4, dbl := PySem.W.mg_of X G a5, kdbl := k5, nme := PySem.W.mg_of X G a6, knme := k6, pln := PySem.W.mg_of X G a7, kpln := k7, fm := PySem.W.mg_of X G a9, kfm := k9, fl := PySem.W.mg_of X G a10, kfl := k10, wc := PySem.W.mg_of X G a11, kwc := k11, mit := ⟨_, PySem.W.mg_of X G vI⟩, mfi := ⟨_, PySem.W.mg_of X G vF⟩, sum := PySem.W.mg_none_of X G z_sum }
  have TR : MgR K mg f8 f16 C := ⟨PySem.W.mg_of X G a8, k8, PySem.W.mg_of X G a16, k16, PySem.W.mg_of X G aC, kC, xC, sBC, tC, ⟨_, PySem.W.mg_of X G vP⟩, ⟨_, PySem.W.mg_of X G vW⟩⟩
  have TD : Fk K f1 f2 f3 f4 f5 f6 f7 f9 f10 f11 _ _ _ _ _ _ _ _ _ _ := ⟨F1, b1, F2, b2, F3, b3, F4, b4, F5, b5, F6, b6, F7, b7, F9, b9, F10, b10, F11, b11⟩
  have TS : MgS K mg f21 f22 := ⟨PySem.W.mg_none_of X G z_int, PySem.W.mg_none_of X G z_len, PySem.W.mg_of X G a21, k21, PySem.W.mg_of X G a22, k22⟩
  have TN : MgN K mg f21 f22 f23 f26 := { TS with pk := PySem.W.mg_of X G a23, kpk := k23, wd := PySem.W.mg_of X G a26, kwd := k26, rng := PySem.W.mg_none_of X G z_range, str := PySem.W.mg_none_of X G z_str }
  have TJ : MgJ K mg f30 f30 f30 f30 f30 := ⟨PySem.W.mg_of X G a30, k30, PySem.W.mg_none_of X G z_sum⟩
  have TL' : MgL K mg f24 f28 f29 f31 f27 f30 := ⟨PySem.W.mg_of X G a24, k24, PySem.W.mg_of X G a28, k28, PySem.W.mg_of X G a29, k29, PySem.W.mg_of X G a31, k31, PySem.W.mg_of X G a27, k27, PySem.W.mg_of X G a30, k30, PySem.W.mg_none_of X G z_list, PySem.W.mg_none_of X G z_tuple, PySem.W.mg_none_of X G z_isinstance, PySem.W.mg_none_of X G z_str, PySem.W.mg_none_of X G z_min, PySem.W.mg_none_of X G z_range, PySem.W.mg_none_of X G z_len⟩
  have TU : MgU K mg f19 f7 f16 f17 f18 f15 f1 f11 BT := ⟨PySem.W.mg_of X G a19, k19, PySem.W.mg_of X G a7, k7, PySem.W.mg_of X G a16, k16, PySem.W.mg_of X G a17, k17, PySem.W.mg_of X G a18, k18, PySem.W.mg_of X G a15, k15, PySem.W.mg_of X G a1, k1, PySem.W.mg_of X G a11, k11, PySem.W.mg_of X G aBT, kBT, xBT, sBBT, tBT, PySem.W.mg_none_of X G z_range, PySem.W.mg_none_of X G z_isinstance, PySem.W.mg_none_of X G z_str, PySem.W.mg_none_of X G z_tuple⟩
  have TA : MgA mg := ⟨PySem.W.mg_none_of X G z_range, PySem.W.mg_none_of X G z_isinstance, PySem.W.mg_none_of X G z_str, PySem.W.mg_none_of X G z_int, PySem.W.mg_none_of X G z_bool⟩
  have TB : MgB K mg f22 f23 f31 f29 f28 := ⟨PySem.W.mg_of X G a22, k22, PySem.W.mg_of X G a23, k23, PySem.W.mg_of X G a31, k31, PySem.W.mg_of X G a29, k29, PySem.W.mg_of X G a28, k28, PySem.W.mg_none_of X G z_list, PySem.W.mg_none_of X G z_tuple, PySem.W.mg_none_of X G z_len⟩
  have TV : MgV K mg CE BT f23 f22 f33 f12 f13 f35 f25 := ⟨PySem.W.mg_of X G a23, k23, PySem.W.mg_of X G a22, k22, PySem.W.mg_of X G a33, k33, PySem.W.mg_of X G a12, k12, PySem.W.mg_of X G a13, k13, PySem.W.mg_of X G a35, k35, PySem.W.mg_of X G a25, k25, PySem.W.mg_of X G aCE, PySem.W.mg_of X G aBT, exm_of sE iE tE sEBT, ⟨gBT, ggBT, sBBT, hdBT, clBT, spO, tkO, mrBT⟩, PySem.W.mg_none_of X G z_isinstance, PySem.W.mg_none_of X G z_range, PySem.W.mg_none_of X G z_len, PySem.W.mg_none_of X G z_tuple⟩
  have TW : MgW K mg CE C f20 f34 f32 f14 f30 f36 f23 f12 f13 f25 := ⟨PySem.W.mg_of X G a20, k20, PySem.W.mg_of X G a34, k34, PySem.W.mg_of X G a32, k32, PySem.W.mg_of X G a14, k14, PySem.W.mg_of X G a30, k30, PySem.W.mg_of X G a36, k36, PySem.W.mg_of X G a23, k23, PySem.W.mg_of X G a12, k12, PySem.W.mg_of X G a13, k13, PySem.W.mg_of X G a25, k25, PySem.W.mg_of X G aCE, PySem.W.mg_of X G aC, exm_of sE iE tE sEC, ⟨gC, ggC, sBC, hdC, clC, spO, tkO, mrC⟩, PySem.W.mg_none_of X G z_isinstance, PySem.W.mg_none_of X G z_range, PySem.W.mg_none_of X G z_len, PySem.W.mg_none_of X G z_min, PySem.W.mg_none_of X G z_list⟩
  have ma := PySem.W.mg_none_of X G z_abs
  refine ⟨PySem.W.fnOf "law" "law" (defArgs sLaw) (defBody sLaw) (defScope sLaw) .none kV37 dc37 pm37 an37 (.ref cL) ct37, [(cW, PTW), (cL, PTL)], spLaw K PTW PTL, fun p hp => ?_, fun p hp => ?_, fun p hp => ?_, fun s u => .of_eq rfl, fun H a ns hl _ hp hS => ?_, fun base KB GB hTB => ?_⟩
  · rcases List.mem_cons.mp hp with rfl | hp
    · exact hTW
    · rw [List.mem_singleton.mp hp]
      exact hTL
  · rcases List.mem_cons.mp hp with rfl | hp
    · exact npW
    · rw [List.mem_singleton.mp hp]
      exact npL
  · rcases List.mem_cons.mp hp with rfl | hp
    · exact PySem.W.codeHd_of_K X hdrW
    · rw [List.mem_singleton.mp hp]
      exact PySem.W.codeHd_of_K X hdrL
  · exact ⟨a, ns, rfl, hS, hl, hp _ (List.mem_cons_self ..), hp _ (List.mem_cons_of_mem _ (List.mem_cons_self ..)), fun _ => rfl⟩
  · have kT : KBinds K (PySem.W.fnOf "trails" "trails" (defArgs sTrl) (defBody sTrl) (defScope sTrl) .none kV14 dc14 pm14 an14 cd14 ct14) ["kind"] ["kind"] (fun us ws => us ++ ws) (fun us ws => us ++ ws) :=
      ⟨fun s us ws _ hl => match us, ws, hl with | [], [_], _ => .of_eq rfl | [_], [], _ => .of_eq rfl, fun r1 r2 => paired_app r1 r2⟩
    have kO : KBinds K (PySem.W.fnOf "offset_of" "offset_of" (defArgs sOff) (defBody sOff) (defScope sOff) .none kV13 dc13 pm13 an13 cd13 ct13) ["kind", "trail"] ["kind", "trail"] kw0 kw0 :=
      ⟨fun s us ws _ hl => match us, ws, hl with | [], [_, _], _ => .of_eq rfl, fun {vs us zs ws} r1 r2 => match vs, us, r1 with | _, _, .nil => r2 | _, _, .cons _ _ => .nil⟩
    have GD := ok_drw (P := l.prog) (w := w) (base := base) F22 TS F21 b21
    have GP := ok_pck (P := l.prog) (w := w) (base := base) F23 TS F21 b21 F22 b22
    have GW := ok_wds (P := l.prog) (w := w) (base := base) (mg := mg) F26
    have GN := ok_nam (P := l.prog) (w := w) (base := base) F27 TN F21 b21 F22 b22 F23 b23 F26 b26
    have GS := ok_shf (P := l.prog) (w := w) (base := base) F24 TS TL' F21 b21 F22 b22
    have GB := ok_tab (fW := f1) (fP := f1) (P := l.prog) (w := w) (base := base) F28 TS TL' GD b22 GN b27
    have GDN := ok_nmd (P := l.prog) (w := w) (base := base) F29 TL' b29 13
    have GC := fun n => ok_cbw (P := l.prog) (w := w) (base := base) TJ F30 b30 n
    have GK := ok_knd (P := l.prog) (w := w) (base := base) F31 TN TL' b31 GD b22 GP b23 GS b24 GC b30 4
    have GNk := ok_nk (P := l.prog) (w := w) (base := base) TD TK TR F8 b8 F16
    have GPl := ok_pl (P := l.prog) (w := w) (base := base) F7 TP
    have GH := ok_whl (P := l.prog) (w := w) (base := base) F1 TP
    have GWc : FnOk l.prog w K mg base CX0 5 f11 _ ["kind"] spWcA := fn_or fun n hn => (ok_wc (P := l.prog) (w := w) (base := base) TD TK n).mono (by omega)
    have GTr := ok_trs (P := l.prog) (w := w) (base := base) F19 TU b19 GPl b7 4
    have GFk := ok_fk (P := l.prog) (w := w) (base := base) F15 TU GWc b11
    have GSt := ok_stp (P := l.prog) (w := w) (base := base) F18 TU GWc b11 GFk b15 GPl b7 GH b1
    have GWk := ok_wlk (P := l.prog) (w := w) (base := base) F17 TU GSt b18
    have GI := ok_inn (P := l.prog) (w := w) (base := base) GNk b16 TU F12 GWk b17
    have GO := ok_off (P := l.prog) (w := w) (base := base) GNk b16 TU F13 GWk b17
    have GTl := ok_trl (P := l.prog) (w := w) (base := base) GNk b16 TU F14 GTr b19
    have GA := ok_all (P := l.prog) (w := w) (base := base) F32 TA
    have GL := ok_lat (P := l.prog) (w := w) (base := base) F33 TA
    have GNew := ok_nkd (P := l.prog) (w := w) (base := base) F34 TB GD b22 GP b23 GK b31 GDN b29 GB b28
    have GOt := ok_oth (P := l.prog) (w := w) (base := base) F35 TB GD b22 GP b23
    have GWr := ok_wr (P := l.prog) (w := w) (base := base) l36 c36 l25 c25 (Binds.all fun us hl => match us, hl with | [_], _ => rfl) TV (hTB _ (List.mem_cons_self ..)) hne GP b23 GD b22 GL b33 GI b12 GO b13 kO GOt b35
    exact ok_law (P := l.prog) (w := w) (base := base) l37 c37 l25 c25 (Binds.all fun us hl => match us, hl with | [_], _ => rfl) TW (hTB _ (List.mem_cons_of_mem _ (List.mem_cons_self ..))) hne (ok_beg F20 ma) b20 GNew b34 GA b32 GTl b14 kT (GC 4) b30 GWr b36 GP b23 GI b12 GO b13
end K1

open PySem PySem.W PyProof.Rows
set_option Elab.async false
set_option pp.maxSteps 700
set_option maxRecDepth 100000 in
set_option maxHeartbeats 0 in
theorem PySem.Challenge.cw_labelclocks_k01_trails_lead_to_words_holds : PySem.Challenge.rw_labelclocks_k01_trails_lead_to_words.Holds := by
  w_on; o_law; k_head; (case hw => w_witness2)
  k_fill
  refine LamX.walk_ofTs (l := PySem.Challenge.rw_labelclocks_k01_trails_lead_to_words) (n := 63) (k := 16) (x := "script") (CX := fun _ => L2.CX0) rfl (by decide) rfl ⟨rfl, by decide, by decide⟩ (fun w h Y => PySem.W.km_in_of Y) ?F (fun _ _ _ _ _ z => z)
  case F =>
    intro w mg fa h Y KX G hmg
    have hT8 := PySem.W.km_tabs_of Y
    refine' K1.all_mk KX G hmg ?a1 ?l1 ?c1 ?k1 ?a2 ?l2 ?c2 ?k2 ?a3 ?l3 ?c3 ?k3 ?a4 ?l4 ?c4 ?k4 ?a5 ?l5 ?c5 ?k5 ?a6 ?l6 ?c6 ?k6 ?a7 ?l7 ?c7 ?k7 ?a8 ?l8 ?c8 ?k8 ?a9 ?l9 ?c9 ?k9 ?a10 ?l10 ?c10 ?k10 ?a11 ?l11 ?c11 ?k11 ?a12 ?l12 ?c12 ?k12 ?a13 ?l13 ?c13 ?k13 ?a14 ?l14 ?c14 ?k14 ?a15 ?l15 ?c15 ?k15 ?a16 ?l16 ?c16 ?k16 ?a17 ?l17 ?c17 ?k17 ?a18 ?l18 ?c18 ?k18 ?a19 ?l19 ?c19 ?k19 ?a20 ?l20 ?c20 ?k20 ?a21 ?l21 ?c21 ?k21 ?a22 ?l22 ?c22 ?k22 ?a23 ?l23 ?c23 ?k23 ?a24 ?l24 ?c24 ?k24 ?a25 ?l25 ?c25 ?k25 ?a26 ?l26 ?c26 ?k26 ?a27 ?l27 ?c27 ?k27 ?a28 ?l28 ?c28 ?k28 ?a29 ?l29 ?c29 ?k29 ?a30 ?l30 ?c30 ?k30 ?a31 ?l31 ?c31 ?k31 ?a32 ?l32 ?c32 ?k32 ?a33 ?l33 ?c33 ?k33 ?a34 ?l34 ?c34 ?k34 ?a35 ?l35 ?c35 ?k35 ?a36 ?l36 ?c36 ?k36 ?a37 ?l37 ?c37 ?k37 ?z_len ?z_isinstance ?z_str ?z_abs ?z_int ?z_range ?z_min ?z_list ?z_bool ?z_tuple ?z_all ?z_set ?z_sum ?vL ?eL ?vD ?eD ?vS ?eS ?vI ?eI ?vF ?eF ?vP ?eP ?vW ?eW ?vR ?lR ?eR ?aCE ?sE ?iE ?tE ?spO ?tkO ?aC ?kC ?xC ?sBC ?tC ?sEC ?gC ?ggC ?hdC ?clC ?mrC ?aBT ?kBT ?xBT ?sBBT ?tBT ?sEBT ?gBT ?ggBT ?hdBT ?clBT ?mrBT ?hdrW ?npW ?hTW ?hdrL ?npL ?hTL ?hne
    (case a1 => k_is)
    (case l1 => k_is)
    (case c1 => k_is)
    (case k1 => k_is)
    (case a2 => k_is)
    (case l2 => k_is)
    (case c2 => k_is)
    (case k2 => k_is)
    (case a3 => k_is)
    (case l3 => k_is)
    (case c3 => k_is)
    (case k3 => k_is)
    (case a4 => k_is)
    (case l4 => k_is)
    (case c4 => k_is)
    (case k4 => k_is)
    (case a5 => k_is)
    (case l5 => k_is)
    (case c5 => k_is)
    (case k5 => k_is)
    (case a6 => k_is)
    (case l6 => k_is)
    (case c6 => k_is)
    (case k6 => k_is)
    (case a7 => k_is)
    (case l7 => k_is)
    (case c7 => k_is)
    (case k7 => k_is)
    (case a8 => k_is)
    (case l8 => k_is)
    (case c8 => k_is)
    (case k8 => k_is)
    (case a9 => k_is)
    (case l9 => k_is)
    (case c9 => k_is)
    (case k9 => k_is)
    (case a10 => k_is)
    (case l10 => k_is)
    (case c10 => k_is)
    (case k10 => k_is)
    (case a11 => k_is)
    (case l11 => k_is)
    (case c11 => k_is)
    (case k11 => k_is)
    (case a12 => k_is)
    (case l12 => k_is)
    (case c12 => k_is)
    (case k12 => k_is)
    (case a13 => k_is)
    (case l13 => k_is)
    (case c13 => k_is)
    (case k13 => k_is)
    (case a14 => k_is)
    (case l14 => k_is)
    (case c14 => k_is)
    (case k14 => k_is)
    (case a15 => k_is)
    (case l15 => k_is)
    (case c15 => k_is)
    (case k15 => k_is)
    (case a16 => k_is)
    (case l16 => k_is)
    (case c16 => k_is)
    (case k16 => k_is)
    (case a17 => k_is)
    (case l17 => k_is)
    (case c17 => k_is)
    (case k17 => k_is)
    (case a18 => k_is)
    (case l18 => k_is)
    (case c18 => k_is)
    (case k18 => k_is)
    (case a19 => k_is)
    (case l19 => k_is)
    (case c19 => k_is)
    (case k19 => k_is)
    (case a20 => k_is)
    (case l20 => k_is)
    (case c20 => k_is)
    (case k20 => k_is)
    (case a21 => k_is)
    (case l21 => k_is)
    (case c21 => k_is)
    (case k21 => k_is)
    (case a22 => k_is)
    (case l22 => k_is)
    (case c22 => k_is)
    (case k22 => k_is)
    (case a23 => k_is)
    (case l23 => k_is)
    (case c23 => k_is)
    (case k23 => k_is)
    (case a24 => k_is)
    (case l24 => k_is)
    (case c24 => k_is)
    (case k24 => k_is)
    (case a25 => k_is)
    (case l25 => k_is)
    (case c25 => k_is)
    (case k25 => k_is)
    (case a26 => k_is)
    (case l26 => k_is)
    (case c26 => k_is)
    (case k26 => k_is)
    (case a27 => k_is)
    (case l27 => k_is)
    (case c27 => k_is)
    (case k27 => k_is)
    (case a28 => k_is)
    (case l28 => k_is)
    (case c28 => k_is)
    (case k28 => k_is)
    (case a29 => k_is)
    (case l29 => k_is)
    (case c29 => k_is)
    (case k29 => k_is)
    (case a30 => k_is)
    (case l30 => k_is)
    (case c30 => k_is)
    (case k30 => k_is)
    (case a31 => k_is)
    (case l31 => k_is)
    (case c31 => k_is)
    (case k31 => k_is)
    (case a32 => k_is)
    (case l32 => k_is)
    (case c32 => k_is)
    (case k32 => k_is)
    (case a33 => k_is)
    (case l33 => k_is)
    (case c33 => k_is)
    (case k33 => k_is)
    (case a34 => k_is)
    (case l34 => k_is)
    (case c34 => k_is)
    (case k34 => k_is)
    (case a35 => k_is)
    (case l35 => k_is)
    (case c35 => k_is)
    (case k35 => k_is)
    (case a36 => k_is)
    (case l36 => k_is)
    (case c36 => k_is)
    (case k36 => k_is)
    (case a37 => k_is)
    (case l37 => k_is)
    (case c37 => k_is)
    (case k37 => k_is)
    (case z_len => k_is)
    (case z_isinstance => k_is)
    (case z_str => k_is)
    (case z_abs => k_is)
    (case z_int => k_is)
    (case z_range => k_is)
    (case z_min => k_is)
    (case z_list => k_is)
    (case z_bool => k_is)
    (case z_tuple => k_is)
    (case z_all => k_is)
    (case z_set => k_is)
    (case z_sum => k_is)
    (case vL => k_is)
    (case eL => decide +kernel)
    (case vD => k_is)
    (case eD => decide +kernel)
    (case vS => k_is)
    (case eS => decide +kernel)
    (case vI => k_is)
    (case eI => decide +kernel)
    (case vF => k_is)
    (case eF => decide +kernel)
    (case vP => k_is)
    (case eP => decide +kernel)
    (case vW => k_is)
    (case eW => decide +kernel)
    (case vR => k_is)
    (case lR => k_is)
    (case eR => decide +kernel)
    (case aCE => k_is)
    (case sE => k_is)
    (case iE => k_is)
    (case tE => k_is)
    (case spO => k_is)
    (case tkO => k_is)
    (case aC => k_is)
    (case kC => k_is)
    (case xC => k_exc)
    (case sBC => k_is)
    (case tC => k_is)
    (case sEC => k_is)
    (case gC => k_is)
    (case ggC => k_is)
    (case hdC => k_is)
    (case clC => k_is)
    (case mrC => k_is)
    (case aBT => k_is)
    (case kBT => k_is)
    (case xBT => k_exc)
    (case sBBT => k_is)
    (case tBT => k_is)
    (case sEBT => k_is)
    (case gBT => k_is)
    (case ggBT => k_is)
    (case hdBT => k_is)
    (case clBT => k_is)
    (case mrBT => k_is)
    (case hTW => exact hT8 _ (List.mem_cons_self ..))
    (case hTL => exact hT8 _ (List.mem_cons_of_mem _ (List.mem_cons_self ..)))
    (case hdrW => kernel_rfl)
    (case npW => kernel_rfl)
    (case hdrL => kernel_rfl)
    (case npL => kernel_rfl)
    (case hne => decide +kernel)

