import PyProof.Rows.All
import Wide.All
import OpenK.AllK
import Wide.FinOn
import HandS.ForMost
import HandS.Strs
import HandS.Zip
import HandS.IsInst
import HandS.WordsExc
import HandS.Style
import HandS.Lambda
import KE.KExcIs
import HandS.ExcIs
import PySem.Challenge.RW_labelclocks_k00_names_and_kinds_judged
import HandS.DeepEq
import HandS.Walk
import HandS.ExcOwn
import HandS.TupAny
import HandS.EndTab
import KE.KNestM
set_option Elab.async false
set_option linter.all false
set_option pp.maxSteps 900
set_option maxRecDepth 100000
set_option maxHeartbeats 2000000
/-! the set of a list of texts, however many (below 1000) -/
namespace K0
open PySem PySem.Spec PyProof.Rows
def grow (a : List Str) (x : Str) : List Str := if a.any (· == x) = true then a else a ++ [x]
def met (xs : List Str) : List Str := xs.foldl grow []
theorem met_step {xs : List Str} {i : Nat} {x : Str} (h : xs[i]? = some x) : met (xs.take (i + 1)) = grow (met (xs.take i)) x := by
  have e : xs.take (i + 1) = xs.take i ++ [x] := by rw [List.take_succ, h] <;> rfl
  unfold met
  rw [e, List.foldl_append]
  rfl
theorem grow_len (a : List Str) (x : Str) : (grow a x).length ≤ a.length + 1 := by
  unfold grow
  split
  · omega
  · rw [List.length_append]
    exact Nat.le_refl _
theorem fold_len : ∀ (xs a : List Str), (xs.foldl grow a).length ≤ a.length + xs.length
  | [], a => Nat.le_refl _
  | x :: xs, a => by
    have h1 := fold_len xs (grow a x)
    have h2 := grow_len a x
    show (xs.foldl grow (grow a x)).length ≤ a.length + (xs.length + 1)
    omega
theorem met_len (xs : List Str) : (met xs).length ≤ xs.length := by
  have h := fold_len xs []
  show (xs.foldl grow []).length ≤ xs.length
  simpa using h
theorem grow_any (a : List Str) (x k : Str) : (grow a x).any (· == k) = (a.any (· == k) || decide (k = x)) := by
  unfold grow
  split
  · rename_i h
    by_cases e : k = x
    · rw [e, h]
      rfl
    · rw [decide_eq_false e, Bool.or_false]
  · rw [List.any_append]
    by_cases e : k = x
    · rw [e, decide_eq_true rfl]
      simp
    · rw [decide_eq_false e]
      have : ([x].any (· == k)) = false := by simpa [beq_iff_eq] using fun h : x = k => e h.symm
      rw [this]
def txtSet (P : Program) (w : World) (h : Heap) (a : Addr) (l : List Str) : Prop := h.SetOf (PySem.strKind P w) a (fun k => l.any (· == k)) l.length
section
variable {P : Program} {w : World} {A : Around}
theorem txtSet_same {h h' : Heap} {a : Addr} {l : List Str} (z : txtSet P w h a l) (k : ∀ o, h.get? a = some o → h'.get? a = some o) : txtSet P w h' a l := by
  obtain ⟨o, es, ep, t, ho, r⟩ := z
  exact ⟨o, es, ep, t, k o ho, r⟩
theorem txtSet_fresh {h : Heap} {a : Addr} {led : Bool} (e : h.get? a = some { cls := .type "set", dict := none, data := .set #[] 0 (.fresh 0 0 led) }) : txtSet P w h a [] :=
  SetOf_congr ((setObjOf_fresh (knd := PySem.strKind P w) led).setOf e (by decide)) (fun _ => rfl) rfl
/-- the texts still to come, one by one -/
theorem update_txt {R : Result → Shared → Prop} {I : Addr} {fp wr : List Addr} {G : Array GenState → Array GenState → Prop} {n : Nat} {Pv : Nat → Value → Prop} {St : Nat → Shared → Prop}
    (W : WalksS P w A.in1 I fp wr G n Pv St) {a : Addr} (ha : a ∉ fp) {xs : List Str} (hn : xs.length = n) (few : xs.length < 1000) (hv : ∀ i v, Pv i v → ∃ x t, xs[i]? = some x ∧ v = .str x t) :
    ∀ (m i : Nat) (s : Shared), n - i = m → i ≤ n → St i s → txtSet P w s.heap a (met (xs.take i)) →
      (∀ s', Moved (a :: wr) G s s' → txtSet P w s'.heap a (met xs) → R (.ok (.ret .none)) s') → codeAny (model P w) A (.builtin "set.update.loop" ⟨[.ref a, .ref I], []⟩) R s := by
  have aw : a ∉ wr := fun z => ha (W.sub _ z)
  have up : ∀ b ∈ wr, b ∈ a :: wr := fun b z => List.mem_cons_of_mem _ z
  intro m
  induction m with
  | zero =>
    intro i s e hi st z hR
    obtain rfl : i = n := by omega
    refine codeAny_builtin F.entry_set_update_loop ?_
    rw [Around.under_plainId F.plain_set_update_loop _]
    refine wpAny_bind (W.done s _ _ st fun s' mv => ?_)
    refine wpAny_pure (hR s' (mv.mono up) ?_)
    have z' := txtSet_same z fun o q => mv.heap a o aw q
    rw [← hn, List.take_length] at z'
    exact z'
  | succ m ih =>
    intro i s e hi st z hR
    refine codeAny_builtin F.entry_set_update_loop ?_
    rw [Around.under_plainId F.plain_set_update_loop _]
    refine wpAny_bind (W.item i s _ _ (by omega) st fun v s' hp st' mv => ?_)
    obtain ⟨x, t, hx, rfl⟩ := hv i v hp
    have z' := txtSet_same z fun o q => mv.heap a o aw q
    have hl := met_len (xs.take i)
    rw [List.length_take] at hl
    refine wpAny_bind (wpAny_holding ?_)
    unfold setAdd
    refine wpAny_holding (wpAny_bind ((PySem.strKind P w).pyHash (k := x) (strKind_is _ _ _ _) ?_))
    refine wpAny_setAddHashed_of (knd := PySem.strKind P w) (s := { s' with toks := s'.toks + 1 }) (strKind_is _ _ _ _) rfl z' (by unfold scanBound; omega) fun h' sb z2 => ?_
    have z3 : txtSet P w h' a (met (xs.take (i + 1))) := by
      rw [met_step hx]
      refine SetOf_congr z2 (fun k => (grow_any _ _ _).symm) ?_
      unfold grow
      split <;> simp
    refine wpAny_pure ⟨plainId_quiet F.plain_set_update_loop _, ih (i + 1) _ (by omega) (by omega) (W.frame _ s' _ _ st' (Nat.le_succ _) fun b hb o q => ?_) z3 fun s2 mv2 z4 => ?_⟩
    · exact (sb.2 b fun q2 => ha (q2 ▸ hb)).trans q
    · refine hR s2 (Moved.trans W.gtrans ((mv.mono up).then_heap (Nat.le_succ _) fun b o hb q => ?_) mv2) z4
      exact (sb.2 b fun q2 => hb (q2 ▸ List.mem_cons_self)).trans q
end
end K0

set_option Elab.async false
set_option linter.all false
set_option pp.maxSteps 900
set_option maxRecDepth 100000
set_option maxHeartbeats 4000000
namespace K0
open PySem PySem.Spec PyProof.Rows
/-- a set as it is made, empty -/
abbrev emptyS (led : Bool) : Obj := { cls := .type "set", dict := none, data := .set #[] 0 (.fresh 0 0 led) }
section
variable {P : Program} {w : World} {A : Around} {E : Value → Shared → Prop} {s : Shared}
theorem strs_get : ∀ {us : List Value} {xs : List Str}, StrsAre us xs → ∀ (i : Nat) (v : Value), us[i]? = some v → ∃ x t, xs[i]? = some x ∧ v = .str x t
  | _, _, .nil, i, v, h => by cases h
  | _, _, .cons x t r, 0, v, h => ⟨x, t, rfl, (Option.some.inj h).symm⟩
  | _, _, .cons x t r, i + 1, v, h => strs_get r i v h
/-- set.__init__ of the new set at the heap's end -/
theorem init_txt {l : Addr} {items : Array Value} {xs : List Str} {led : Bool} (hh : A.handled = none) (hl : s.heap.IsList l items) (hi : StrsAre items.toList xs) (few : xs.length < 1000) :
    codeAny (model P w) A (.call (.builtin "set.__init__") ⟨[.ref s.heap.objs.size, .ref l], []⟩)
      (wants (fun r s2 => r = .none ∧ ∃ h' tk, s2 = { s with heap := h', toks := tk } ∧ txtSet P w h' s.heap.objs.size (met xs) ∧ ∀ b o, s.heap.get? b = some o → h'.get? b = some o) E) { s with heap := s.heap.push (emptyS led) } := by
  have at_ : (s.heap.push (emptyS led)).get? s.heap.objs.size = some (emptyS led) := Heap.get?_push_size _ rfl
  have ty : Shared.TypeIs { s with heap := s.heap.push (emptyS led) } (.ref s.heap.objs.size) "set" := ⟨_, at_, rfl⟩
  refine codeAny_call_builtin PySem.F.called_set.init.plain PySem.F.entry_set_init (check_set_init_1 ty ?_)
  obtain ⟨⟨ocls, odict, odata, oslots⟩, hol, hcl, nl, hdl⟩ := hl
  cases (show ocls = .type "list" from hcl)
  cases (show odata = .seq items nl from hdl)
  have ll : l < s.heap.objs.size := Heap.lt_size hol
  have size1 : (s.heap.push (emptyS led)).objs.size = s.heap.objs.size + 1 := Heap.size_push ..
  have hol' : (s.heap.push (emptyS led)).get? l = some { cls := .type "list", dict := odict, data := .seq items nl, slots := oslots } := Heap.get?_push_of_some _ hol
  have isl : (s.heap.push (emptyS led)).IsList l items := ⟨_, hol', rfl, nl, rfl⟩
  have s1 := PySem.F.sub_list_set
  have s2 := PySem.F.sub_list_frozenset
  have s3 : (Value.type "list" == Value.type "dict") = false := by decide
  unfold Builtin.«set.__init__» noKeywords Builtin.Frozenset.updateFrom
  generalize hPI : pyIter = PI
  wp_walk
  subst hPI
  refine wpAny_pyIter_list isl (wpAny_bind (wpAny_runValue ?_))
  have h3 : A.in1.in1.handled = none := by simp [hh]
  have nI : l ≠ (s.heap.push (emptyS led)).objs.size := by rw [size1]; exact Nat.ne_of_lt (Nat.lt_succ_of_lt ll)
  have nS : s.heap.objs.size ∉ [(s.heap.push (emptyS led)).objs.size, l] := by
    simp only [List.mem_cons, List.not_mem_nil, or_false, not_or]
    exact ⟨by rw [size1]; exact Nat.ne_of_lt (Nat.lt_succ_self _), Nat.ne_of_gt ll⟩
  have hn : xs.length = items.size := by rw [← StrsAre.len_eq hi, Array.length_toList]
  refine update_txt ((Walks.list h3 _ l nI items).toS) nS hn few (fun i v e => strs_get hi i v (by rw [Array.getElem?_toList]; exact e)) (items.size - 0) 0 _ rfl (Nat.zero_le _)
    ?_ ?_ ?_
  · exact ⟨⟨_, Heap.get?_push_size _ rfl, rfl, rfl⟩, isl.push _⟩
  · exact txtSet_fresh (Heap.get?_push_of_some _ at_)
  · intro s' mv z
    obtain ⟨h', g', d', tk', os'⟩ := s'
    cases (show g' = s.gens from mv.gens)
    cases (show d' = s.drawn from mv.drawn)
    cases (show os' = s.os from mv.os)
    show wpAny _ _ _ _ _ _
    refine wpAny_pure ?_
    show wpAny _ _ (ret Value.none) _ _ _
    refine wpAny_pure ⟨rfl, h', tk', rfl, z, fun b o q => ?_⟩
    have lb := Heap.lt_size q
    refine mv.heap b o ?_ (Heap.get?_push_of_some _ (Heap.get?_push_of_some _ q))
    simp only [List.mem_cons, List.not_mem_nil, or_false, not_or]
    exact ⟨Nat.ne_of_lt lb, by rw [size1]; exact Nat.ne_of_lt (Nat.lt_succ_of_lt lb)⟩
/-- set(xs), xs a list of texts -/
theorem set_txts {l : Addr} {items : Array Value} {xs : List Str} {Q : Value → Shared → Prop} (hh : A.handled = none) (hl : s.heap.IsList l items) (hi : StrsAre items.toList xs) (few : xs.length < 1000)
    (h : ∀ (h' : Heap) (tk : Nat), txtSet P w h' s.heap.objs.size (met xs) → (∀ b o, s.heap.get? b = some o → h'.get? b = some o) → Q (.ref s.heap.objs.size) { s with heap := h', toks := tk }) :
    wpAny (model P w) A (call (.type "set") [.ref l]) Q E s := by
  obtain ⟨c, tl, mro⟩ := PySem.F.called_set.mro
  have m1 := PySem.F.called_set.made
  have m2 := PySem.F.called_set.sub
  refine wpAny_call (codeAny_of_tree ?_)
  show wpAny _ _ (callAny (.type "set") _) _ _ _
  refine wpAny_pure ⟨Code.quiet_builtin _ (by decide +kernel), codeAny_builtin PySem.F.entry_type_call ?_⟩
  rw [Around.under_plain (weight_type_call_type "set" [.ref l] []) rfl]
  have m3 := PySem.F.called_set.notType
  have m4 := PySem.F.called_set.canCreate
  have m5 := PySem.F.typeCall_set_1 (.ref l)
  repeat any_goals first | assumption | wp_step
  refine codeAny_mono (code_set_new_1 (.ref l) (E := E) (Q₁ := fun v s1 => ∃ led, v = .ref s.heap.objs.size ∧ s1 = { s with heap := s.heap.push (emptyS led) }) fun led => ⟨led, rfl, rfl⟩) fun r s1 hr => ?_
  match r, hr with
  | .error e, hr => exact hr
  | .ok .next, hr => exact hr.elim
  | .ok .brk, hr => exact hr.elim
  | .ok .cont, hr => exact hr.elim
  | .ok (.ret v), hr =>
    obtain ⟨led, rfl, rfl⟩ := hr
    have ty : Shared.TypeIs { s with heap := s.heap.push (emptyS led) } (.ref s.heap.objs.size) "set" := ⟨_, Heap.get?_push_size _ rfl, rfl⟩
    have m6 := PySem.F.called_set.init.lookup
    have m7 := PySem.F.called_set.init.bind (.ref s.heap.objs.size)
    repeat any_goals first | assumption | wp_step
    refine codeAny_mono (init_txt (E := E) (led := led) (by simp [hh]) hl hi few) fun r s2 hr => ?_
    match r, hr with
    | .error e, hr => exact hr
    | .ok .next, hr => exact hr.elim
    | .ok .brk, hr => exact hr.elim
    | .ok .cont, hr => exact hr.elim
    | .ok (.ret v), hr =>
      obtain ⟨rfl, h', tk, rfl, z, k⟩ := hr
      repeat any_goals first | assumption | wp_step
      exact h _ _ z k
end
end K0

set_option Elab.async false
set_option linter.all false
set_option pp.maxSteps 900
set_option maxRecDepth 100000
set_option maxHeartbeats 2000000
namespace K0
open PySem PySem.Spec PyProof.Rows L2
def tLenTxts (K : PySem.W.Frag) (ta : TE) : TE := fun σ H Q => ta σ H fun x H1 => ∃ (l : Addr) (xs : List Str), x = .ref l ∧ SqL K H1 l (xs.map V.str) ∧ xs.length < 1000 ∧ Q (.int ((met xs).length : Nat)) H1
theorem pe_lenTxts {X : Cx} {a : Expr} {ta : TE} {p p2 q pos : Pos} (hc : X.calm = true) (hg : Gl X "len") (hm : X.mg "len" = none) (hg2 : Gl X "set") (hm2 : X.mg "set" = none) (ha : PE X a ta)
    (na : starEach [a] X.env = (false, eval a X.env) :: starEach [] X.env := by rfl) : PE X (.Call (.Name "len" p) [.Call (.Name "set" p2) [a] [] q] [] pos) (tLenTxts X.K ta) := by
  constructor
  intro pins s σ H Q I h
  refine Call_ (ld_blt I hg hm boot_len (callWith_builtin1 (args_cons ?_ rfl) rfl rfl))
  refine Call_ (ld_blt I hg2 hm2 boot_set (callWith_type1 (args_cons (thn (ha.run pins s σ H _ I h) fun v s1 hv => args_nil ?_) na) na rfl))
  obtain ⟨x, H1, I1, r1, l, xs, rfl, hq, few, q1⟩ := hv
  obtain rfl : v = Value.ref l := r1
  obtain ⟨its, r, pl, hz⟩ := I1.list hq
  refine set_txts (I1.ok.hd hc) pl.isList (by simpa using strsAre_of r) few fun h' tk z k => args_nil ?_
  obtain ⟨o, es, ep, t, ho, hex, hd, _, _, _, hf, hn⟩ := z
  have I2 : Inv X pins σ H1 { s1 with heap := h', toks := tk } := I1.kept k
  have ml := met_len xs
  exact call_len_set ho hex hd hf (by rw [hn] <;> omega) ⟨.int ((met xs).length : Nat), H1, I2.tok _, ⟨_, by rw [hn]⟩, q1⟩
theorem grow_in {a : List Str} {x : Str} (h : x ∈ a) : grow a x = a := by
  have e : a.any (· == x) = true := List.any_eq_true.mpr ⟨x, h, beq_self_eq_true x⟩
  exact if_pos e
theorem grow_out {a : List Str} {x : Str} (h : x ∉ a) : grow a x = a ++ [x] := by
  have e : ¬ a.any (· == x) = true := fun z => by
    obtain ⟨y, hy, e⟩ := List.any_eq_true.mp z
    have e : y = x := eq_of_beq e
    exact h (e ▸ hy)
  exact if_neg e
theorem fold_nodup : ∀ (xs a : List Str), (∀ x ∈ xs, x ∉ a) → xs.Nodup → xs.foldl grow a = a ++ xs
  | [], a, _, _ => by simp
  | x :: xs, a, h, nd => by
    obtain ⟨h1, h2⟩ := List.nodup_cons.mp nd
    show xs.foldl grow (grow a x) = _
    rw [grow_out (h x List.mem_cons_self), fold_nodup xs (a ++ [x]) (fun y hy z => ?_) h2]
    · simp
    · rcases List.mem_append.mp z with z | z
      · exact h y (List.mem_cons_of_mem _ hy) z
      · exact h1 (List.mem_singleton.mp z ▸ hy)
theorem fold_dup : ∀ (xs a : List Str), (∃ x ∈ xs, x ∈ a) → (xs.foldl grow a).length < a.length + xs.length
  | x :: xs, a, h => by
    show (xs.foldl grow (grow a x)).length < a.length + (xs.length + 1)
    by_cases hx : x ∈ a
    · rw [grow_in hx]
      have := fold_len xs a
      omega
    · rw [grow_out hx]
      obtain ⟨y, hy, hya⟩ := h
      rcases List.mem_cons.mp hy with e | e
      · exact absurd (e ▸ hya) hx
      · have := fold_dup xs (a ++ [x]) ⟨y, e, List.mem_append_left _ hya⟩
        rw [List.length_append] at this
        simp only [List.length_cons, List.length_nil] at this
        omega
theorem fold_dup2 : ∀ (xs a : List Str), (∀ x ∈ xs, x ∉ a) → ¬ xs.Nodup → (xs.foldl grow a).length < a.length + xs.length
  | [], a, _, nd => absurd List.nodup_nil nd
  | x :: xs, a, h, nd => by
    show (xs.foldl grow (grow a x)).length < a.length + (xs.length + 1)
    rw [grow_out (h x List.mem_cons_self)]
    by_cases h1 : x ∈ xs
    · have := fold_dup xs (a ++ [x]) ⟨x, h1, List.mem_append_right _ (List.mem_singleton.mpr rfl)⟩
      rw [List.length_append] at this
      simp only [List.length_cons, List.length_nil] at this
      omega
    · have := fold_dup2 xs (a ++ [x]) (fun y hy z => by
        rcases List.mem_append.mp z with z | z
        · exact h y (List.mem_cons_of_mem _ hy) z
        · exact h1 (List.mem_singleton.mp z ▸ hy)) fun z => nd (List.nodup_cons.mpr ⟨h1, z⟩)
      rw [List.length_append] at this
      simp only [List.length_cons, List.length_nil] at this
      omega
theorem met_dup (xs : List Str) : decide ((met xs).length < xs.length) = !decide xs.Nodup := by
  by_cases h : xs.Nodup
  · have e : met xs = xs := fold_nodup xs [] (fun _ _ z => by cases z) h
    rw [e, decide_eq_true h, decide_eq_false (Nat.lt_irrefl _)]
    rfl
  · have e := fold_dup2 xs [] (fun _ _ z => by cases z) h
    rw [decide_eq_false h, decide_eq_true (by simpa [met] using e)]
    rfl
end K0

set_option Elab.async false
set_option linter.all false
set_option pp.maxSteps 700
set_option maxRecDepth 100000
set_option maxHeartbeats 2000000
namespace K0
open PySem PySem.Spec PyProof.Rows L2
open TL (tl)
def top (i : Nat) : Stmt := PySem.Challenge.pw_labelclocks_k00_names_and_kinds_judged.main.body.getD i (.Pass ⟨0, 0, 0, 0⟩)
theorem ifT {c : Bool} {A B : Prop} (hc : c = true) (h : A) : if c = true then A else B := by
  rw [if_pos hc]
  exact h
theorem ifF {c : Bool} {A B : Prop} (hc : c = false) (h : B) : if c = true then A else B := by
  rw [hc, if_neg Bool.false_ne_true]
  exact h
theorem while_m {c : TT} {tb : TS} {D : Ends} {σ : L2.St} {H : Hp} (Pv : Nat → L2.St → Hp → Prop) (m : Nat) (h0 : Pv m σ H)
    (hs : ∀ n σ H, Pv n σ H → c σ H fun b H1 => if b = true then ∃ N : L2.St → Hp → Prop, (∀ σ' H', N σ' H' → ∃ m', m' < n ∧ Pv m' σ' H') ∧ tb { D with nx := N, ct := N, bk := D.nx } σ H1 else D.nx σ H1) : tWhile c tb D σ H :=
  ⟨Pv, ⟨m, h0⟩, hs⟩
theorem same_new {H : Hp} {p : Addr} {o : HO} (h : H p = none) : Same H (upd H p o) := fun b u e => by
  rw [upd_ne (ne_of_none e h)]
  exact e
theorem paired_app {α β : Type} {F : α → β → Prop} : ∀ {a : List α} {b : List β} {a' : List α} {b' : List β}, Paired F a b → Paired F a' b' → Paired F (a ++ a') (b ++ b')
  | _, _, _, _, .nil, q => q
  | _, _, _, _, .cons r t, q => .cons r (paired_app t q)
theorem paired_len {α β : Type} {F : α → β → Prop} {a : List α} {b : List β} (p : Paired F a b) : a.length = b.length := Paired.length p
section
variable {X : Cx} {o e : Expr} {to te : TE} {apos cpos : Pos}
theorem qApp (ho : PE X o to) (he : PE X e te) (hbase : attributeBase o "append" X.env (eval o X.env) = eval o X.env := by rfl)
    (hfew : ((backTo cpos (starEach (e :: []) X.env)).all (fun x => !x.1) && (backToKw cpos (keywordEach [] X.env)).all (fun x => x.1.isSome)
      && decide ((e :: ([] : List Expr)).length + ([] : List Keyword).length + (if ([] : List Keyword).isEmpty then 0 else 1) < 30)) = true := by rfl)
    (hline : (apos.endLine == cpos.line) = true := by rfl) (hs : starEach (e :: []) X.env = (false, eval e X.env) :: starEach [] X.env := by rfl) (hplain : (backTo cpos (starEach [] X.env)).any (·.1) = false := by rfl) :
    PE X (.Call (.Attribute o "append" apos) [e] [] cpos) (tBM X.K "list" rAppend to (tCons te tNil)) :=
  pe_bm PySem.F.plainAttrs_list PySem.F.slot_list_append PySem.F.type_list_append mt_append ho (pa_cons he pa_nil hs) hbase hfew hline hs hplain
end
theorem while_q {c : TT} {tb : TS} {D : Ends} {σ : L2.St} {H : Hp} (Pv : Nat → L2.St → Hp → Prop) (m : Nat) (Post : L2.St → Hp → Prop) (h0 : Pv m σ H)
    (hs : ∀ X : L2.St → Hp → Prop, (∀ σ H, Post σ H → X σ H) → ∀ n σ H, Pv n σ H → c σ H fun b H1 => if b = true then ∃ N : L2.St → Hp → Prop, (∀ σ' H', N σ' H' → ∃ m', m' < n ∧ Pv m' σ' H') ∧ tb { D with nx := N, ct := N, bk := D.nx } σ H1 else X σ H1)
    (hp : ∀ σ H, Post σ H → D.nx σ H) : tWhile c tb D σ H :=
  ⟨Pv, ⟨m, h0⟩, hs D.nx hp⟩
abbrev sBeg : Stmt := top 27
abbrev sMix : Stmt := top 28
abbrev sDrw : Stmt := top 29
abbrev sPck : Stmt := top 30
/-! ### the state of the draws -/
theorem k12 : ¬ (Sum.inr ("great" : Str) : Key) = Sum.inr ("cells" : Str) := by decide +kernel
theorem k13 : ¬ (Sum.inr ("great" : Str) : Key) = Sum.inr ("rest" : Str) := by decide +kernel
theorem k14 : ¬ (Sum.inr ("great" : Str) : Key) = Sum.inr ("turn" : Str) := by decide +kernel
theorem k23 : ¬ (Sum.inr ("cells" : Str) : Key) = Sum.inr ("rest" : Str) := by decide +kernel
theorem k24 : ¬ (Sum.inr ("cells" : Str) : Key) = Sum.inr ("turn" : Str) := by decide +kernel
theorem k34 : ¬ (Sum.inr ("rest" : Str) : Key) = Sum.inr ("turn" : Str) := by decide +kernel
def StKV (g c : Addr) (r t : Int) : List (Key × V) := [(Sum.inr ("great" : Str), V.ref g), (Sum.inr ("cells" : Str), V.ref c), (Sum.inr ("rest" : Str), V.int r), (Sum.inr ("turn" : Str), V.int t)]
section
variable {g c d : Addr} {r t : Int} {H : Hp}
theorem v_great : valV (StKV g c r t) (Sum.inr ("great" : Str)) = some (.ref g) := valV_pos rfl
theorem v_cells : valV (StKV g c r t) (Sum.inr ("cells" : Str)) = some (.ref c) := (valV_neg k12).trans (valV_pos rfl)
theorem v_rest : valV (StKV g c r t) (Sum.inr ("rest" : Str)) = some (.int r) := (valV_neg k13).trans ((valV_neg k23).trans (valV_pos rfl))
theorem v_turn : valV (StKV g c r t) (Sum.inr ("turn" : Str)) = some (.int t) := (valV_neg k14).trans ((valV_neg k24).trans ((valV_neg k34).trans (valV_pos rfl)))
theorem p_rest (x : Int) : putK (StKV g c r t) (Sum.inr ("rest" : Str)) (.int x) = StKV g c x t := by
  unfold putK
  rw [valV_any, v_rest, if_pos (show (some (V.int r)).isSome = true from rfl)]
  unfold StKV
  simp only [List.map_cons, List.map_nil, if_neg k13, if_neg k23, if_pos, if_neg (Ne.symm k34 : ¬ (Sum.inr ("turn" : Str) : Key) = Sum.inr ("rest" : Str))]
theorem p_turn (x : Int) : putK (StKV g c r t) (Sum.inr ("turn" : Str)) (.int x) = StKV g c r x := by
  unfold putK
  rw [valV_any, v_turn, if_pos (show (some (V.int t)).isSome = true from rfl)]
  unfold StKV
  simp only [List.map_cons, List.map_nil, if_neg k14, if_neg k24, if_neg k34, if_pos]
theorem g_great (h : H d = some (.dK (StKV g c r t))) : DGet H d (.str ("great" : Str)) (some (.ref g)) := by
  have e := DGet.k (k := Sum.inr ("great" : Str)) h
  rw [v_great] at e
  exact e
theorem g_cells (h : H d = some (.dK (StKV g c r t))) : DGet H d (.str ("cells" : Str)) (some (.ref c)) := by
  have e := DGet.k (k := Sum.inr ("cells" : Str)) h
  rw [v_cells] at e
  exact e
theorem g_rest (h : H d = some (.dK (StKV g c r t))) : DGet H d (.str ("rest" : Str)) (some (.int r)) := by
  have e := DGet.k (k := Sum.inr ("rest" : Str)) h
  rw [v_rest] at e
  exact e
theorem g_turn (h : H d = some (.dK (StKV g c r t))) : DGet H d (.str ("turn" : Str)) (some (.int t)) := by
  have e := DGet.k (k := Sum.inr ("turn" : Str)) h
  rw [v_turn] at e
  exact e
theorem s_rest (h : H d = some (.dK (StKV g c r t))) (x : Int) : DPut H d (.str ("rest" : Str)) (.int x) (upd H d (.dK (StKV g c x t))) := by
  have e := DPut.k (k := Sum.inr ("rest" : Str)) (v := .int x) h (by rw [sizeLine_eq]; show 4 < _; omega)
  rw [p_rest] at e
  exact e
theorem s_turn (h : H d = some (.dK (StKV g c r t))) (x : Int) : DPut H d (.str ("turn" : Str)) (.int x) (upd H d (.dK (StKV g c r x))) := by
  have e := DPut.k (k := Sum.inr ("turn" : Str)) (v := .int x) h (by rw [sizeLine_eq]; show 4 < _; omega)
  rw [p_turn] at e
  exact e
end
/-- the state at d: great at g, cells at c; at most n turns were made -/
structure StX (H : Hp) (d g c : Addr) (n : Nat) (r t : Int) (gs cs : List Int) : Prop where
  dk : H d = some (.dK (StKV g c r t))
  gl : H g = some (.lst (gs.map V.int))
  cl : H c = some (.lst (cs.map V.int))
  gc : g ≠ c
  r0 : 0 ≤ r
  g0 : ∀ x ∈ gs, 0 ≤ x
  t0 : 0 ≤ t
  tn : t ≤ n
  gn : gs.length ≤ 63
  cn : cs.length ≤ 63
def StA (H : Hp) (d g c : Addr) (n : Nat) : Prop := ∃ r t gs cs, StX H d g c n r t gs cs
theorem StX.dg {H : Hp} {d g c : Addr} {n : Nat} {r t : Int} {gs cs : List Int} (S : StX H d g c n r t gs cs) : d ≠ g := ne_of S.dk S.gl (by intro z; cases z)
theorem StX.dc {H : Hp} {d g c : Addr} {n : Nat} {r t : Int} {gs cs : List Int} (S : StX H d g c n r t gs cs) : d ≠ c := ne_of S.dk S.cl (by intro z; cases z)
theorem StX.keep {H H' : Hp} {d g c : Addr} {n : Nat} {r t : Int} {gs cs : List Int} (S : StX H d g c n r t gs cs) (k : Same H H') : StX H' d g c n r t gs cs :=
  ⟨k _ _ S.dk, k _ _ S.gl, k _ _ S.cl, S.gc, S.r0, S.g0, S.t0, S.tn, S.gn, S.cn⟩
theorem StA.keep {H H' : Hp} {d g c : Addr} {n : Nat} (S : StA H d g c n) (k : Same H H') : StA H' d g c n := by
  obtain ⟨r, t, gs, cs, S⟩ := S
  exact ⟨r, t, gs, cs, S.keep k⟩
theorem StA.mono {H : Hp} {d g c : Addr} {n m : Nat} (S : StA H d g c n) (h : n ≤ m) : StA H d g c m := by
  obtain ⟨r, t, gs, cs, S⟩ := S
  exact ⟨r, t, gs, cs, S.dk, S.gl, S.cl, S.gc, S.r0, S.g0, S.t0, by have := S.tn; omega, S.gn, S.cn⟩
/-- all but the state's dict and great stay -/
def Kp (d g : Addr) (H H' : Hp) : Prop := ∀ b o, H b = some o → b ≠ d → b ≠ g → H' b = some o
theorem Kp.of {d g : Addr} {H H' : Hp} (s : Same H H') : Kp d g H H' := fun b o e _ _ => s b o e
theorem Kp.refl {d g : Addr} (H : Hp) : Kp d g H H := fun _ _ e _ _ => e
theorem Kp.trans {d g : Addr} {H H1 H2 : Hp} (a : Kp d g H H1) (b : Kp d g H1 H2) : Kp d g H H2 := fun c o e h1 h2 => b c o (a c o e h1 h2) h1 h2
theorem Kp.put {d g : Addr} {H : Hp} {o : HO} : Kp d g H (upd H d o) := fun b u e h1 _ => by
  rw [upd_ne h1]
  exact e
theorem Kp.putg {d g : Addr} {H : Hp} {o : HO} : Kp d g H (upd H g o) := fun b u e _ h2 => by
  rw [upd_ne h2]
  exact e
theorem StX.rest {H : Hp} {d g c : Addr} {n : Nat} {r t : Int} {gs cs : List Int} (S : StX H d g c n r t gs cs) {x : Int} (hx : 0 ≤ x) : StX (upd H d (.dK (StKV g c x t))) d g c n x t gs cs :=
  ⟨upd_same, by rw [upd_ne S.dg.symm]; exact S.gl, by rw [upd_ne S.dc.symm]; exact S.cl, S.gc, hx, S.g0, S.t0, S.tn, S.gn, S.cn⟩
theorem StX.turn {H : Hp} {d g c : Addr} {n : Nat} {r t : Int} {gs cs : List Int} (S : StX H d g c n r t gs cs) : StX (upd H d (.dK (StKV g c r (t + 1)))) d g c (n + 1) r (t + 1) gs cs :=
  ⟨upd_same, by rw [upd_ne S.dg.symm]; exact S.gl, by rw [upd_ne S.dc.symm]; exact S.cl, S.gc, S.r0, S.g0, by have := S.t0; omega, by have := S.tn; omega, S.gn, S.cn⟩
theorem dpInts {K : PySem.W.Frag} {H : Hp} : ∀ gs : List Int, DpAll K H (gs.map V.int) (gs.map PyData.int)
  | [] => .nil
  | x :: r => .cons (.int x) (dpInts r)
theorem layInts : ∀ gs : List Int, PyData.canLayAll0 (gs.map PyData.int) = true
  | [] => rfl
  | x :: r => by
    show (true && PyData.canLayAll0 (r.map PyData.int)) = true
    rw [layInts r]
    rfl
theorem depInts : ∀ gs : List Int, PyData.depthAll (gs.map PyData.int) = 0
  | [] => rfl
  | x :: r => by
    show max 0 (PyData.depthAll (r.map PyData.int)) = 0
    rw [depInts r]
    rfl
theorem shInts (gs : List Int) : SeqAt.shaped (.list (gs.map PyData.int)) = true := by
  unfold SeqAt.shaped
  show (PyData.canLayAll0 (gs.map PyData.int) && decide (PyData.depthAll (gs.map PyData.int) + 1 ≤ 64)) = true
  rw [layInts, depInts]
  rfl
def spMix : Sp := fun vs H Q _ => ∃ (d g c : Addr) (n : Nat), vs = [.ref d] ∧ StA H d g c n ∧ n ≤ 1000000000 ∧ ∀ (v : Int) (H' : Hp), 0 ≤ v → StA H' d g c (n + 1) → Kp d g H H' → Q (.int v) H'
def spDrw : Sp := fun vs H Q _ => ∃ (d g c : Addr) (n : Nat) (room : Int), vs = [.ref d, .int room] ∧ StA H d g c n ∧ n ≤ 1000000000 ∧ 0 < room ∧ room < 1073741824 ∧
  ∀ (v : Int) (H' : Hp), 0 ≤ v → v < room → StA H' d g c (n + 1) → Kp d g H H' → Q (.int v) H'
def spPck : Sp := fun vs H Q _ => ∃ (d g c a : Addr) (n : Nat) (xs : List V), vs = [.ref d, .ref a] ∧ StA H d g c n ∧ n ≤ 1000000000 ∧ H a = some (.lst xs) ∧ a ≠ g ∧ xs ≠ [] ∧ xs.length ≤ 1000000 ∧
  ∀ (v : V) (H' : Hp), v ∈ xs → StA H' d g c (n + 1) → Kp d g H H' → Q v H'
structure MgS (K : PySem.W.Frag) (mg : Str → Option Value) (fM fD : Addr) : Prop where
  int : mg "int" = none
  len : mg "len" = none
  mx : mg "_law_mixed" = some (.ref fM)
  kmx : PySem.W.keepIn K (.ref fM) = true
  dr : mg "_law_draw" = some (.ref fD)
  kdr : PySem.W.keepIn K (.ref fD) = true
section
variable {P : Program} {w : World} {K : PySem.W.Frag} {mg : Str → Option Value} {base : Heap}
theorem scMix : FnScope ["state", "turn", "found", "prime", "blend", "cell"] ["state"] (defScope sMix) := ⟨rfl, rfl, rfl, by decide +kernel, rfl, by decide +kernel, by decide +kernel⟩
theorem ok_mix {f fM fD : Addr} {fd : FuncData} (F : Fun K "_law_mixed" "_law_mixed" sMix f fd) (T : MgS K mg fM fD) : FnOk P w K mg base CX0 1 f fd ["state"] spMix := by
  refine F.ok scMix (fun vs H Q E h => ?_) (fun cdv A outer s H vs Q E hr h => ?_)
  · obtain ⟨d, g, c, n, rfl, _⟩ := h
    rfl
  · obtain ⟨d, g, c, n, rfl, ⟨r, t, gs, cs, S⟩, hn, k⟩ := h
    have hu := hu_of hr
    refine ⟨_, pss_cons (ps_par (i := 1) (j := 2) (by rfl) scMix.nd rfl rfl (by decide) rfl rfl (pa_cons (pe_op op_add (pe_dget hu (pv 0) pe_str (fun _ _ => rfl)) pe_int) (pa_cons pe_int pa_nil)) (by rfl))
      (pss_cons (ps_dput hu (pv 0) pe_str (pv 1) rfl)
      (pss_cons (ps_for PassesOwn.never rfl (pi_list (pe_lst (pa_cons pe_int (pa_cons pe_int (pa_cons pe_int (pa_cons pe_int pa_nil)))))) (pg_name (i := 3) scMix.nd rfl (Or.inl rfl))
        (pss_cons (ps_set (i := 4) scMix.nd rfl (Or.inl rfl) (pe_op op_add (pe_op op_mul pe_int (pv 1)) (pe_op op_fdivN (pv 3) pe_int)))
        (pss_cons (ps_for PassesOwn.never rfl (pi_list (pe_dget hu (pv 0) pe_str (fun _ _ => rfl))) (pg_name (i := 5) scMix.nd rfl (Or.inl rfl))
          (pss_one (ps_set (i := 4) scMix.nd rfl (Or.inl rfl) (pe_op op_mod (pe_callTy call_int1 (by rfl) T.int (by decide +kernel) (pa_cons (pe_op op_add (pe_op op_add (pe_op op_mul (pv 4) pe_int) (pv 5)) (pv 1)) pa_nil)) (pv 3)))))
        (pss_one (ps_set (i := 2) scMix.nd rfl (Or.inl rfl) (pe_op op_add (pe_op op_mul (pv 2) pe_int) (pe_op op_mod (pe_callTy call_int1 (by rfl) T.int (by decide +kernel) (pa_cons (pe_op op_pow (pv 4) pe_int) pa_nil)) (pv 3))))))))
      (pss_one (ps_ret (pv 2))))), ?_⟩
    refine ⟨_, rfl, d, _, rfl, g_turn S.dk, _, _, rfl, rfl, ⟨_, _, rfl, ?_⟩⟩
    refine ⟨_, rfl, _, rfl, d, _, rfl, s_turn S.dk _, ?_⟩
    have S1 := S.turn
    have t0 := S.t0
    have tn := S.tn
    refine ⟨(by show 4 ≤ sizeLine; decide), fun l hl => ?_⟩
    have S2 := S1.keep (same_new (o := .lst [V.int 2147483629, V.int 2147483647, V.int 2147483563, V.int 2147483587]) hl)
    have kp : Kp d g H (upd (upd H d (.dK (StKV g c r (t + 1)))) l (.lst [V.int 2147483629, V.int 2147483647, V.int 2147483563, V.int 2147483587])) := Kp.put.trans (Kp.of (same_new hl))
    generalize hH1 : upd (upd H d (.dK (StKV g c r (t + 1)))) l (.lst [V.int 2147483629, V.int 2147483647, V.int 2147483563, V.int 2147483587]) = H1 at S2 kp
    have hl1 : H1 l = some (.lst [V.int 2147483629, V.int 2147483647, V.int 2147483563, V.int 2147483587]) := by rw [← hH1, upd_same]
    refine ⟨l, rfl, ⟨_, SqL.of (by first | exact upd_same | exact hl1)⟩, for_list (K := K) (a := l) (xs := [V.int 2147483629, V.int 2147483647, V.int 2147483563, V.int 2147483587])
      (fun i σ H' => ∃ (fd : Int) (pv bv cv : Option V), σ = [some (.ref d), some (.int (t + 1)), some (.int fd), pv, bv, cv] ∧ 0 ≤ fd ∧ H' = H1) ⟨0, none, none, none, rfl, Int.le_refl _, by first | rfl | exact hH1⟩ (fun i σ H' _ ⟨_, _, _, _, _, _, e⟩ => by rw [e]; exact SqL.of hl1) ?_ ?_⟩
    · rintro i x σ H' hi ⟨fd, pv, bv, cv, rfl, hfd, rfl⟩
      have hm := List.mem_of_getElem? hi
      obtain ⟨pr, rfl, hp0, hp1⟩ : ∃ pr : Int, x = .int pr ∧ 0 < pr ∧ pr < 2147483648 := by
        simp only [List.mem_cons, List.not_mem_nil, or_false] at hm
        rcases hm with rfl | rfl | rfl | rfl
        · exact ⟨_, rfl, by decide, by decide⟩
        · exact ⟨_, rfl, by decide, by decide⟩
        · exact ⟨_, rfl, by decide, by decide⟩
        · exact ⟨_, rfl, by decide, by decide⟩
      have hq : pr.fdiv 41 = pr / 41 := Int.fdiv_eq_ediv_of_nonneg _ (by decide)
      refine ⟨_, rfl, _, _, rfl, rfl, .inl ⟨by decide, by decide⟩, _, rfl, _, _, rfl, rfl, ⟨by decide, by decide⟩, _, _, rfl, rfl, ?_⟩
      refine ⟨_, rfl, d, _, rfl, g_cells S2.dk, c, rfl, ⟨_, SqL.of S2.cl⟩, for_list (K := K) (a := c) (xs := cs.map V.int)
        (fun i σ H'' => ∃ (bl : Int) (cv : Option V), σ = [some (.ref d), some (.int (t + 1)), some (.int fd), some (.int pr), some (.int bl), cv] ∧ -9000000000000000000 < bl ∧ bl < 9000000000000000000 ∧ H'' = H') ⟨_, cv, rfl, by omega, by omega, rfl⟩ (fun i σ H'' _ ⟨_, _, _, _, _, e⟩ => by rw [e]; exact SqL.of S2.cl) ?_ ?_⟩
      · rintro j y σ H'' hj ⟨bl, cv2, rfl, hb1, hb2, rfl⟩
        rw [List.getElem?_map] at hj
        obtain ⟨z, _, rfl⟩ := Option.map_eq_some_iff.mp hj
        refine ⟨_, rfl, _, _, rfl, rfl, .inr ⟨by decide, by decide⟩, _, rfl, _, _, rfl, rfl, _, rfl, _, _, rfl, rfl, .inl ⟨_, rfl, _, rfl, _, _, rfl, rfl, hp0, ?_⟩⟩
        refine ⟨_, _, rfl, ?_, ?_, rfl⟩
        · have := Int.emod_nonneg (bl * 48271 + z + (t + 1)) (Int.ne_of_gt hp0)
          omega
        · have := Int.emod_lt_of_pos (bl * 48271 + z + (t + 1)) hp0
          omega
      · rintro σ H'' ⟨bl, cv2, rfl, hb1, hb2, rfl⟩
        refine ⟨_, rfl, _, _, rfl, rfl, .inr ⟨by decide, by decide⟩, _, rfl, _, _, rfl, rfl, ⟨by decide, by decide, by omega⟩, .inl ⟨_, rfl, _, rfl, _, _, rfl, rfl, hp0, _, _, rfl, rfl, ?_⟩⟩
        refine ⟨_, _, _, _, rfl, ?_, rfl⟩
        have := Int.emod_nonneg (bl ^ (5 : Int).toNat) (Int.ne_of_gt hp0)
        omega
    · rintro σ H' ⟨fd, pv, bv, cv, rfl, hfd, rfl⟩
      refine ⟨_, rfl, k fd H' hfd ⟨_, _, _, _, S2⟩ kp⟩
end
/-- a statement, a word of one's own, the rest -/
def tMid (t u : TS) : TS := fun D σ H => ∃ M : L2.St → Hp → Prop, t { D with nx := M } σ H ∧ ∀ σ1 H1, M σ1 H1 → u D σ1 H1
section
variable {X : Cx} {o e : Expr} {to te : TE} {apos cpos : Pos}
theorem pss_mid {st : Stmt} {rest : List Stmt} {t u : TS} (h1 : PS X st t) (h2 : PSs X rest u) : PSs X (st :: rest) (tMid t u) := by
  constructor
  intro pins s σ H D I h
  obtain ⟨M, ha, hb⟩ := h
  refine wpAny_execs_cons (thn (h1.run pins s σ H { D with nx := M } I ha) ?_)
  intro f s1 q
  match f, q with
  | .next, ⟨σ1, H1, I1, q⟩ => exact h2.run pins s1 σ1 H1 D I1 (hb σ1 H1 q)
  | .ret v, q => exact q
  | .brk, q => exact q
  | .cont, q => exact q
theorem qPopAt (ho : PE X o to) (he : PE X e te) (hbase : attributeBase o "pop" X.env (eval o X.env) = eval o X.env := by rfl)
    (hfew : ((backTo cpos (starEach (e :: []) X.env)).all (fun x => !x.1) && (backToKw cpos (keywordEach [] X.env)).all (fun x => x.1.isSome)
      && decide ((e :: ([] : List Expr)).length + ([] : List Keyword).length + (if ([] : List Keyword).isEmpty then 0 else 1) < 30)) = true := by rfl)
    (hline : (apos.endLine == cpos.line) = true := by rfl) (hs : starEach (e :: []) X.env = (false, eval e X.env) :: starEach [] X.env := by rfl) (hplain : (backTo cpos (starEach [] X.env)).any (·.1) = false := by rfl) :
    PE X (.Call (.Attribute o "pop" apos) [e] [] cpos) (tBM X.K "list" rPopAt to (tCons te tNil)) :=
  pe_bm PySem.F.plainAttrs_list PySem.F.slot_list_pop PySem.F.type_list_pop mt_popAt ho (pa_cons he pa_nil hs) hbase hfew hline hs hplain
end
theorem StX.pop {H : Hp} {d g c : Addr} {n : Nat} {r t x : Int} {gs cs : List Int} (S : StX H d g c n r t (x :: gs) cs) : 0 ≤ x ∧ StX (upd (upd H g (.lst (gs.map V.int))) d (.dK (StKV g c x t))) d g c n x t gs cs := by
  have hx := S.g0 x (List.mem_cons_self ..)
  refine ⟨hx, upd_same, by rw [upd_ne S.dg.symm, upd_same], by rw [upd_ne S.dc.symm, upd_ne S.gc.symm]; exact S.cl, S.gc, hx, fun y hy => S.g0 y (List.mem_cons_of_mem _ hy), S.t0, S.tn, by have := S.gn; simp only [List.length_cons] at this; omega, S.cn⟩
section
variable {P : Program} {w : World} {K : PySem.W.Frag} {mg : Str → Option Value} {base : Heap}
theorem scDrw : FnScope ["state", "room", "found"] ["state", "room"] (defScope sDrw) := ⟨rfl, rfl, rfl, by decide +kernel, rfl, by decide +kernel, by decide +kernel⟩
theorem ok_drw {f fM fD : Addr} {fd fdM : FuncData} (F : Fun K "_law_draw" "_law_draw" sDrw f fd) (T : MgS K mg fM fD) (FM : Fun K "_law_mixed" "_law_mixed" sMix fM fdM) (bM : L2.Binds K fdM ["state"] []) : FnOk P w K mg base CX0 2 f fd ["state", "room"] spDrw := by
  have GM : FnOk P w K mg base CX0 1 fM fdM ["state"] spMix := ok_mix FM T
  refine F.ok scDrw (fun vs H Q E h => ?_) (fun cdv A outer s H vs Q E hr h => ?_)
  · obtain ⟨d, g, c, n, room, rfl, _⟩ := h
    rfl
  · obtain ⟨d, g, c, n, room, rfl, ⟨r, t, gs, cs, S⟩, hn, hr0, hr1, k⟩ := h
    have hu := hu_of hr
    refine ⟨_, pss_mid (ps_if (pt_cmpR op_eq (pe_dget hu (pv 0) pe_str (fun _ _ => rfl)) pe_int (nomark _))
        (pss_one (ps_dput hu (pv 0) pe_str (pe_ifExp (pt_cmpR (op_neD hr.units) (pe_dget hu (pv 0) pe_str (fun _ _ => rfl)) (pe_lst pa_nil) (nomark _))
          (qPopAt (pe_dget hu (pv 0) pe_str (fun _ _ => rfl)) pe_int) (pe_call GM hr (by rfl) T.mx T.kmx bM .nil pass0 (pa_cons (pv 0) pa_nil))) rfl)) pss_nil)
      (pss_cons (ps_set (i := 2) scDrw.nd rfl (Or.inl rfl) (pe_op op_mod (pe_callTy call_int1 (by rfl) T.int (by decide +kernel) (pa_cons (pe_dget hu (pv 0) pe_str (fun _ _ => rfl)) pa_nil)) (pv 1)))
      (pss_cons (ps_dput hu (pv 0) pe_str (pe_op op_fdivN (pe_dget hu (pv 0) pe_str (fun _ _ => rfl)) (pv 1)) rfl)
      (pss_one (ps_ret (pv 2))))), ?_⟩
    refine ⟨fun σ1 H1 => σ1 = [some (.ref d), some (.int room), none] ∧ StA H1 d g c (n + 1) ∧ Kp d g H H1, ?_, ?_⟩
    · refine ⟨_, rfl, d, _, rfl, g_rest S.dk, rfl, _, rfl, ?_⟩
      by_cases h0 : r = 0
      · refine ifT (decide_eq_true (by rw [h0])) ?_
        refine ⟨_, rfl, d, _, rfl, g_great S.dk, Nat.zero_le _, fun l hl => ?_⟩
        have S1 := S.keep (same_new (o := .lst []) hl)
        refine ⟨_, .list [], .lst (SqL.of S1.gl) (dpInts gs), .lst (SqL.of upd_same) .nil, shInts gs, by decide, _, rfl, ?_⟩
        cases gs with
        | nil =>
          refine ifF rfl ?_
          refine ⟨_, rfl, d, g, c, n, rfl, ⟨r, t, [], cs, S1⟩, hn, fun v H' hv S2 kp => ?_⟩
          obtain ⟨r2, t2, gs2, cs2, S2⟩ := S2
          refine ⟨_, rfl, d, _, rfl, s_rest S2.dk v, rfl, ⟨v, t2, gs2, cs2, S2.rest hv⟩, (Kp.of (same_new hl)).trans (kp.trans Kp.put)⟩
        | cons x gs =>
          refine ifT rfl ?_
          obtain ⟨hx, S2⟩ := S1.pop
          refine ⟨_, rfl, d, _, rfl, g_great S1.dk, .inl ⟨rfl, _, SqL.of S1.gl⟩, g, _, 0, 0, .int x, rfl, rfl, S1.gl, (by decide), (by decide), (by first | rfl | (unfold seqIndex?; simp)), rfl, ?_⟩
          refine ⟨_, rfl, d, _, rfl, s_rest (by rw [upd_ne S1.dg]; exact S1.dk) x, rfl, ?_, (Kp.of (same_new hl)).trans (Kp.putg.trans Kp.put)⟩
          exact StA.mono ⟨x, t, gs, cs, S2⟩ (Nat.le_succ _)
      · refine ifF (decide_eq_false (fun h => h0 (by injection h))) ?_
        exact ⟨rfl, StA.mono ⟨r, t, gs, cs, S⟩ (Nat.le_succ _), Kp.refl _⟩
    · rintro σ1 H1 ⟨rfl, ⟨r, t, gs, cs, S⟩, kp⟩
      refine ⟨_, rfl, d, _, rfl, g_rest S.dk, .inl ⟨_, rfl, _, rfl, _, _, rfl, rfl, hr0, ?_⟩⟩
      refine ⟨_, rfl, d, _, rfl, g_rest S.dk, _, rfl, _, _, rfl, rfl, ⟨by omega, by omega⟩, _, rfl, d, _, rfl, s_rest S.dk _, ?_⟩
      have hq : 0 ≤ r.fdiv room := by
        rw [Int.fdiv_eq_ediv_of_nonneg _ (by omega)]
        exact Int.ediv_nonneg S.r0 (by omega)
      exact ⟨_, rfl, k _ _ (Int.emod_nonneg _ (by omega)) (Int.emod_lt_of_pos _ hr0) ⟨_, _, _, _, S.rest hq⟩ (kp.trans Kp.put)⟩
end
theorem merge_st (g c : Addr) : mergeK [] (StKV g c 0 0) = StKV g c 0 0 := by
  have e1 : putK [] (Sum.inr ("great" : Str) : Key) (V.ref g) = [(Sum.inr ("great" : Str), V.ref g)] := by
    rw [putK_new _ valV_nil]
    rfl
  have e2 : putK [((Sum.inr ("great" : Str) : Key), V.ref g)] (Sum.inr ("cells" : Str)) (V.ref c) = [(Sum.inr ("great" : Str), V.ref g), (Sum.inr ("cells" : Str), V.ref c)] := by
    rw [putK_new _ ((valV_neg k12).trans valV_nil)]
    rfl
  have e3 : putK [((Sum.inr ("great" : Str) : Key), V.ref g), (Sum.inr ("cells" : Str), V.ref c)] (Sum.inr ("rest" : Str)) (V.int 0) = [(Sum.inr ("great" : Str), V.ref g), (Sum.inr ("cells" : Str), V.ref c), (Sum.inr ("rest" : Str), V.int 0)] := by
    rw [putK_new _ ((valV_neg k13).trans ((valV_neg k23).trans valV_nil))]
    rfl
  have e4 : putK [((Sum.inr ("great" : Str) : Key), V.ref g), (Sum.inr ("cells" : Str), V.ref c), (Sum.inr ("rest" : Str), V.int 0)] (Sum.inr ("turn" : Str)) (V.int 0) = StKV g c 0 0 := by
    rw [putK_new _ ((valV_neg k14).trans ((valV_neg k24).trans ((valV_neg k34).trans valV_nil)))]
    rfl
  show putK (putK (putK (putK [] (Sum.inr ("great" : Str) : Key) (V.ref g)) (Sum.inr ("cells" : Str)) (V.ref c)) (Sum.inr ("rest" : Str)) (V.int 0)) (Sum.inr ("turn" : Str)) (V.int 0) = _
  rw [e1, e2, e3, e4]
def spBeg (K : PySem.W.Frag) : Sp := fun vs H Q _ => ∃ (a : Addr) (ns : List Int), vs = [.ref a] ∧ SqL K H a (ns.map V.int) ∧ ns.length ≤ 63 ∧
  ∀ (d g c : Addr) (H' : Hp), StA H' d g c 0 → Same H H' → H d = none → H g = none → Q (.ref d) H'
section
variable {P : Program} {w : World} {K : PySem.W.Frag} {mg : Str → Option Value} {base : Heap}
theorem scPck : FnScope ["state", "some"] ["state", "some"] (defScope sPck) := ⟨rfl, rfl, rfl, by decide +kernel, rfl, by decide +kernel, by decide +kernel⟩
theorem ok_pck {f fM fD : Addr} {fd fdM fdD : FuncData} (F : Fun K "_law_pick" "_law_pick" sPck f fd) (T : MgS K mg fM fD) (FM : Fun K "_law_mixed" "_law_mixed" sMix fM fdM) (bM : L2.Binds K fdM ["state"] [])
    (FD : Fun K "_law_draw" "_law_draw" sDrw fD fdD) (bD : L2.Binds K fdD ["state", "room"] []) : FnOk P w K mg base CX0 3 f fd ["state", "some"] spPck := by
  have GD : FnOk P w K mg base CX0 2 fD fdD ["state", "room"] spDrw := ok_drw FD T FM bM
  refine F.ok scPck (fun vs H Q E h => ?_) (fun cdv A outer s H vs Q E hr h => ?_)
  · obtain ⟨d, g, c, a, n, xs, rfl, _⟩ := h
    rfl
  · obtain ⟨d, g, c, a, n, xs, rfl, S, hn, ha, hag, hne, hlen, k⟩ := h
    refine ⟨_, pss_one (ps_ret (pe_ix ix_list (pv 1) (pe_call GD hr (by rfl) T.dr T.kdr bD .nil pass0 (pa_cons (pv 0) (pa_cons (pe_callB call_len_seq (by rfl) T.len PySem.boot_len (pa_cons (pv 1) pa_nil)) pa_nil))) (fun _ _ => rfl))), ?_⟩
    have hpos : 0 < xs.length := List.length_pos_iff.mpr hne
    have had : a ≠ d := by
      obtain ⟨r, t, gs, cs, S⟩ := S
      exact ne_of ha S.dk (by intro z; cases z)
    refine ⟨_, rfl, _, rfl, _, rfl, a, _, rfl, .inl (SqL.of ha), d, g, c, n, (xs.length : Int), rfl, S, hn, by omega, by omega, fun v H' h0 h1 S2 kp => ?_⟩
    have hi : v.toNat < xs.length := by omega
    exact ⟨a, xs, v, xs[v.toNat], rfl, rfl, SqL.of (kp _ _ ha had hag), at_of (j := v.toNat) (by omega) (List.getElem?_eq_getElem hi), k _ _ (List.getElem_mem hi) S2 kp⟩
theorem scBeg : FnScope ["script", "great", "cell"] ["script"] (defScope sBeg) := ⟨rfl, rfl, rfl, by decide +kernel, rfl, by decide +kernel, by decide +kernel⟩
theorem ok_beg {f : Addr} {fd : FuncData} (F : Fun K "_law_begun" "_law_begun" sBeg f fd) (ma : mg "abs" = none) : FnOk P w K mg base CX0 1 f fd ["script"] (spBeg K) := by
  refine F.ok scBeg (fun vs H Q E h => ?_) (fun cdv A outer s H vs Q E hr h => ?_)
  · obtain ⟨a, ns, rfl, _⟩ := h
    rfl
  · obtain ⟨a, ns, rfl, hS, hlen, k⟩ := h
    refine ⟨_, pss_cons (ps_setLc (i := 1) (own := [("cell", 2)]) (g := gName 2) (by rfl) scBeg.nd rfl rfl (sw_true rfl rfl rfl (by decide +kernel)) (pi_list (pv 0)) (blkOk_by (own := [("cell", 2)]) (N := ["script", "great", "cell"]) (sc := defScope sBeg) (by decide +kernel)) (fun _ _ _ _ _ => pg_name (i := 2) scBeg.nd rfl (Or.inl rfl))
        (fun _ _ _ _ _ => pts_one (pt_cmpR op_ge (pe_callB call_abs (by rfl) ma (by decide +kernel) (pa_cons (pv 2) pa_nil)) (pe_op op_pow pe_int pe_int) (nomark _)))
        (fun _ _ _ _ _ => pe_op op_sub (pe_callB call_abs (by rfl) ma (by decide +kernel) (pa_cons (pv 2) pa_nil)) (pe_op op_pow pe_int pe_int)))
      (pss_one (ps_ret (pe_disp (pps_cons pe_str (pv 1) (pps_cons pe_str (pe_lc (own := [("cell", 2)]) (g := gName 2) (tt := tYes) (by rfl) scBeg.nd (pi_list (pv 0)) (blkOk_by (own := [("cell", 2)]) (N := ["script", "great", "cell"]) (sc := defScope sBeg) (by decide +kernel)) (fun _ _ _ _ _ => pg_name (i := 2) scBeg.nd rfl (Or.inl rfl)) (fun _ _ _ _ _ => pts_nil)
        (fun _ _ _ _ _ => pe_callB call_abs (by rfl) ma (by decide +kernel) (pa_cons (pv 2) pa_nil))) (pps_cons pe_str pe_int (pps_cons pe_str pe_int pps_nil)))) (by rfl) (by rfl) (fun z => by cases z) (by decide)))), ?_⟩
    refine ⟨_, rfl, a, rfl, ⟨_, hS⟩, fun g hg => lc_list (K := K) (a := a) (xs := ns.map V.int)
      (fun i H' => ∃ gs : List Int, H' g = some (.lst (gs.map V.int)) ∧ (∀ x ∈ gs, 0 ≤ x) ∧ gs.length ≤ i ∧ Same H H') ⟨[], upd_same, (fun x hx => by cases hx), Nat.le_refl _, same_new hg⟩ (fun i H' _ ⟨_, _, _, _, s1⟩ => s1.seq hS) ?_ ?_⟩
    · rintro i x H' hi ⟨gs, h1, h2, h3, s1⟩
      have hil : i < (ns.map V.int).length := (List.getElem?_eq_some_iff.mp hi).1
      rw [List.length_map] at hil
      rw [List.getElem?_map] at hi
      obtain ⟨z, _, rfl⟩ := Option.map_eq_some_iff.mp hi
      refine ⟨rfl, ?_⟩
      refine ⟨_, rfl, z, rfl, _, _, rfl, rfl, ⟨by decide, by decide, by decide⟩, _, _, rfl, rfl, _, rfl, ?_⟩
      by_cases hz : (10 : Int) ^ (18 : Int).toNat ≤ (if z < 0 then -z else z)
      · refine ifT (decide_eq_true hz) ?_
        refine ⟨_, rfl, z, rfl, _, _, rfl, rfl, ⟨by decide, by decide, by decide⟩, _, _, rfl, rfl, ?_⟩
        refine ⟨gs.map V.int, h1, by rw [List.length_map, sizeLine_eq]; omega, gs ++ [(if z < 0 then -z else z) - (10 : Int) ^ (18 : Int).toNat], ?_, ?_, ?_, ?_⟩
        · rw [upd_same, List.map_append]
          rfl
        · intro x hx
          rcases List.mem_append.mp hx with hx | hx
          · exact h2 x hx
          · rw [List.mem_singleton.mp hx]
            omega
        · rw [List.length_append]
          show gs.length + 1 ≤ i + 1
          omega
        · intro b o e
          rw [upd_ne (ne_of_none e hg)]
          exact s1 _ _ e
      · refine ifF (decide_eq_false hz) ?_
        exact ⟨gs, h1, h2, by omega, s1⟩
    · rw [List.length_map]
      rintro H1 ⟨gs, h1, h2, h3, s1⟩
      refine fun p hp => ?_
      have hgp : g ≠ p := ne_of_none h1 hp
      refine ⟨_, rfl, _, rfl, a, rfl, ⟨_, (s1.trans (same_new hp)).seq hS⟩, fun c hc => lc_list (K := K) (a := a) (xs := ns.map V.int)
        (fun i H' => ∃ cs : List Int, H' c = some (.lst (cs.map V.int)) ∧ cs.length ≤ i ∧ Same (upd H1 p (.dK [])) H') ⟨[], upd_same, Nat.le_refl _, same_new hc⟩ (fun i H' _ ⟨_, _, _, s2⟩ => ((s1.trans (same_new hp)).trans s2).seq hS) ?_ ?_⟩
      · rintro i x H' hi ⟨cs, h4, h5, s2⟩
        have hil : i < (ns.map V.int).length := (List.getElem?_eq_some_iff.mp hi).1
        rw [List.length_map] at hil
        rw [List.getElem?_map] at hi
        obtain ⟨z, _, rfl⟩ := Option.map_eq_some_iff.mp hi
        refine ⟨rfl, ?_⟩
        refine ⟨_, rfl, z, rfl, cs.map V.int, h4, by rw [List.length_map, sizeLine_eq]; omega, cs ++ [if z < 0 then -z else z], ?_, ?_, ?_⟩
        · rw [upd_same, List.map_append]
          rfl
        · rw [List.length_append]
          show cs.length + 1 ≤ i + 1
          omega
        · intro b o e
          rw [upd_ne (ne_of_none e hc)]
          exact s2 _ _ e
      · rw [List.length_map]
        rintro H2 ⟨cs, h4, h5, s2⟩
        have hpc : p ≠ c := ne_of_none upd_same hc
        have hgc : g ≠ c := ne_of_none (by rw [upd_ne hgp]; exact h1) hc
        refine ⟨s2 _ _ upd_same, StKV g c 0 0, rfl, (by show 4 ≤ 15; decide), ?_⟩
        rw [merge_st]
        refine k p g c _ ⟨0, 0, gs, cs, upd_same, ?_, ?_, hgc, Int.le_refl _, h2, Int.le_refl _, Int.le_refl _, by omega, by omega⟩ ?_ (s1.free hp) hg
        · rw [upd_ne hgp]
          exact s2 _ _ (by rw [upd_ne hgp]; exact h1)
        · rw [upd_ne hpc.symm]
          exact h4
        · intro b o e
          have hbp : b ≠ p := ne_of_none (s1 _ _ e) hp
          rw [upd_ne hbp]
          exact s2 _ _ (by rw [upd_ne hbp]; exact s1 _ _ e)
end
abbrev sWds : Stmt := top 33
abbrev sNam : Stmt := top 34
def wd1 : List Str := ["again", "and", "ask", "body", "break", "call", "else", "fail", "function", "give", "if", "local", "no", "not"]
def wd2 : List Str := ["number", "or", "over", "place", "record", "rest", "row", "show", "size", "store", "truth", "unit"]
def wd3 : List Str := ["use", "while", "worth", "yes"]
def wds : List Str := wd1 ++ wd2 ++ wd3
/-- a short text of ASCII signs -/
def okS (m : Nat) (x : Str) : Bool := x.cps.all (fun c => decide (c < 128)) && (decide (1 ≤ x.length) && decide (x.length ≤ m))
theorem okS_of {m : Nat} {x : Str} (h1 : ∀ c ∈ tl x, c < 128) (h2 : 1 ≤ x.length) (h3 : x.length ≤ m) : okS m x = true := by
  unfold okS
  rw [decide_eq_true h2, decide_eq_true h3, Bool.and_true, Bool.and_true, Array.all_eq_true]
  intro i hi
  exact decide_eq_true (h1 _ (by rw [Array.mem_toList_iff]; exact Array.getElem_mem hi))
theorem okS_to {m : Nat} {x : Str} (h : okS m x = true) : (∀ c ∈ tl x, c < 128) ∧ 1 ≤ x.length ∧ x.length ≤ m := by
  unfold okS at h
  simp only [Bool.and_eq_true, decide_eq_true_eq] at h
  refine ⟨fun c hc => ?_, h.2.1, h.2.2⟩
  have h1 := Array.all_eq_true.mp h.1
  obtain ⟨i, hi, e⟩ := Array.mem_iff_getElem.mp (Array.mem_toList_iff.mp hc)
  have := of_decide_eq_true (h1 i hi)
  rw [e] at this
  exact this
theorem okS_app {m n k : Nat} {x y : Str} (h : okS m x = true) (h' : okS n y = true) (hk : m + n ≤ k) : okS k (x ++ y) = true := by
  obtain ⟨a1, a2, a3⟩ := okS_to h
  obtain ⟨b1, b2, b3⟩ := okS_to h'
  have e : (x ++ y).length = x.length + y.length := by rw [TL.len_tl, TL.tl_append, List.length_append, TL.len_tl x, TL.len_tl y]
  refine okS_of (fun c hc => ?_) (by omega) (by omega)
  rw [TL.tl_append] at hc
  rcases List.mem_append.mp hc with hc | hc
  · exact a1 c hc
  · exact b1 c hc
theorem okS_mono {m n : Nat} {x : Str} (h : okS m x = true) (hk : m ≤ n) : okS n x = true := by
  obtain ⟨a1, a2, a3⟩ := okS_to h
  exact okS_of a1 a2 (by omega)
theorem pick_str {m : Nat} {ws : List Str} (h : ws.all (okS m) = true) {v : V} (hv : v ∈ ws.map V.str) : ∃ x : Str, v = .str x ∧ okS m x = true := by
  obtain ⟨x, hx, rfl⟩ := List.mem_map.mp hv
  exact ⟨x, rfl, List.all_eq_true.mp h x hx⟩
def spWds : Sp := fun vs H Q _ => vs = [] ∧ ∀ (p : Addr) (H' : Hp), Same H H' → H p = none → H' p = some (.lst (wds.map V.str)) → Q (.ref p) H'
/-- the law's names; ts: those that are taken -/
def spNam : Sp := fun vs H Q _ => ∃ (d g c a : Addr) (n : Nat) (ts : List Str), vs = [.ref d, .ref a] ∧ StA H d g c n ∧ n ≤ 900000000 ∧ H a = some (.lst (ts.map V.str)) ∧ ts.length ≤ 60 ∧ a ≠ g ∧
  ∀ (x : Str) (H' : Hp), okS 10 x = true → StA H' d g c (n + 12) → Kp d g H H' → Q (.str x) H'
structure MgN (K : PySem.W.Frag) (mg : Str → Option Value) (fM fD fP fW : Addr) : Prop extends MgS K mg fM fD where
  pk : mg "_law_pick" = some (.ref fP)
  kpk : PySem.W.keepIn K (.ref fP) = true
  wd : mg "_law_tx_words" = some (.ref fW)
  kwd : PySem.W.keepIn K (.ref fW) = true
  rng : mg "range" = none
  str : mg "str" = none
section
variable {X : Cx}
theorem op_mul_str : OpR X (binaryOp .Mult) (fun x y H Q => ∃ (i : Str) (n : Int), x = .str i ∧ y = .int n ∧ 1 ≤ n ∧ n ≤ 1000 ∧ i.length ≤ 1000 ∧ Q (.str (Txt.mul i n)) H) := by
  intro pins s σ H x y v u Q I rx ry h
  obtain ⟨i, n, rfl, rfl, h0, h1, h2, q⟩ := h
  obtain ⟨t, rfl⟩ := rx
  obtain ⟨t', rfl⟩ := ry
  refine SB.mul ⟨?_, ?_, ?_⟩ fun t' k => ⟨.str _, H, I.tok _, ⟨_, rfl⟩, q⟩
  · rw [decide_eq_false (by omega), decide_eq_false (by omega)]
    rfl
  · intro _ _
    have : (1000 : Int) ≤ (2 ^ 63 - 1) / n := by
      refine Int.le_ediv_of_mul_le (by omega) ?_
      omega
    omega
  · intro _ _
    have : i.length * n.toNat ≤ 1000 * 1000 := Nat.mul_le_mul h2 (by omega)
    exact decide_eq_false (show ¬ (i.length * n.toNat > sizeLine) by rw [sizeLine_eq]; omega)
end
section
variable {P : Program} {w : World} {K : PySem.W.Frag} {mg : Str → Option Value} {base : Heap}
theorem scWds : FnScope ["found"] [] (defScope sWds) := ⟨rfl, rfl, rfl, by decide +kernel, rfl, by decide +kernel, by decide +kernel⟩
theorem ok_wds {f : Addr} {fd : FuncData} (F : Fun K "_law_tx_words" "_law_tx_words" sWds f fd) : FnOk P w K mg base CX0 1 f fd [] spWds := by
  refine F.ok scWds (fun vs H Q E h => ?_) (fun cdv A outer s H vs Q E hr h => ?_)
  · obtain ⟨rfl, _⟩ := h
    rfl
  · obtain ⟨rfl, k⟩ := h
    have s1 {X : Cx} := @pe_str X
    refine ⟨_, pss_cons (ps_set (i := 0) scWds.nd rfl (Or.inl rfl) (pe_lst (pa_cons pe_str (pa_cons pe_str (pa_cons pe_str (pa_cons pe_str (pa_cons pe_str (pa_cons pe_str (pa_cons pe_str (pa_cons pe_str (pa_cons pe_str (pa_cons pe_str (pa_cons pe_str (pa_cons pe_str (pa_cons pe_str (pa_cons pe_str pa_nil))))))))))))))))
      (pss_cons (ps_set (i := 0) scWds.nd rfl (Or.inl rfl) (pe_op op_cat (pv 0) (pe_lst (pa_cons pe_str (pa_cons pe_str (pa_cons pe_str (pa_cons pe_str (pa_cons pe_str (pa_cons pe_str (pa_cons pe_str (pa_cons pe_str (pa_cons pe_str (pa_cons pe_str (pa_cons pe_str (pa_cons pe_str pa_nil)))))))))))))))
      (pss_one (ps_ret (pe_op op_cat (pv 0) (pe_lst (pa_cons pe_str (pa_cons pe_str (pa_cons pe_str (pa_cons pe_str pa_nil))))))))), ?_⟩
    refine ⟨(by show 14 ≤ sizeLine; decide), fun p hp => ?_⟩
    refine ⟨_, rfl, (by show 12 ≤ sizeLine; decide), fun q hq => ⟨p, q, wd1.map V.str, wd2.map V.str, rfl, rfl, ?_, upd_same, (by show 14 + 12 ≤ sizeLine; decide), fun r hr => ?_⟩⟩
    · rw [upd_ne (ne_of_none upd_same hq)]
      exact upd_same
    · refine ⟨_, rfl, (by show 4 ≤ sizeLine; decide), fun q2 hq2 => ⟨r, q2, (wd1 ++ wd2).map V.str, wd3.map V.str, rfl, rfl, ?_, upd_same, (by show 26 + 4 ≤ sizeLine; decide), fun r2 hr2 => ?_⟩⟩
      · rw [upd_ne (ne_of_none upd_same hq2), List.map_append]
        exact upd_same
      · refine k r2 _ (Same.trans (Same.trans (Same.trans (same_new hp) (same_new hq)) (Same.trans (same_new hr) (same_new hq2))) (same_new hr2)) (Same.free (Same.trans (Same.trans (same_new hp) (same_new hq)) (Same.trans (same_new hr) (same_new hq2))) hr2) ?_
        · rw [upd_same]
          unfold wds
          rw [List.map_append, List.map_append, List.map_append]
end
end K0

set_option Elab.async false
set_option linter.all false
set_option pp.maxSteps 700
set_option maxRecDepth 100000
set_option maxHeartbeats 2000000
namespace K0
open PySem PySem.Spec PyProof.Rows L2
open TL (tl)
def L26 : Str := "abcdefghijklmnopqrstuvwxyz"
def D10 : Str := "0123456789"
def nm12 : List Str := ["put", "read", "item", "field", "name", "own", "plus", "less", "units", "rows", "e", "n0"]
theorem at_sign {xs : List Nat} {z : Int} {j : Nat} {v : Nat} (e : z = (j : Int)) (h : xs[j]? = some v) : atI xs z = some v := by
  rw [e]
  exact atI_nat h
/-- a sign of a text by a drawn number -/
theorem item_ok {m : Nat} {z : Str} (h : okS m z = true) {v : Int} (h0 : 0 ≤ v) (h1 : v < z.length) : ∃ c, atI z.cps.toList v = some c ∧ okS 1 ⟨#[c]⟩ = true := by
  have hl : v.toNat < (tl z).length := by
    rw [← TL.len_tl z]
    omega
  refine ⟨(tl z)[v.toNat], at_sign ?_ (List.getElem?_eq_getElem hl), okS_of (fun c hc => ?_) (Nat.le_refl _) (Nat.le_refl _)⟩
  · omega
  · have e : c = (tl z)[v.toNat] := by simpa using hc
    rw [e]
    exact (okS_to h).1 _ (List.getElem_mem hl)
def digs (i : Nat) : Str := toString (i : Int)
theorem digs_ok : ∀ i : Fin 90, okS 2 (digs i.val) = true := by decide +kernel
def cnd (x : Str) (i : Nat) : Str := cutS x none (some 1) ++ digs i
def cands (x : Str) : List Str := x :: (List.range 90).map (cnd x)
theorem cut1_ok {m : Nat} {x : Str} (h : okS m x = true) : okS 1 (cutS x none (some 1)) = true := by
  obtain ⟨h1, h2, h3⟩ := okS_to h
  have e : tl (cutS x none (some 1)) = (tl x).take 1 := by
    show ((x.cps.toList.drop (HT.sIx x.length 0 none)).take (HT.sIx x.length x.length (some ((1 : Nat) : Int)) - HT.sIx x.length 0 none)) = _
    rw [HT.sIx_nat, HT.sIx_none, List.drop_zero]
    congr 1
    omega
  have hl : (tl x).length = x.length := (TL.len_tl x).symm
  refine okS_of (fun c hc => ?_) ?_ ?_
  · rw [e] at hc
    exact h1 c (List.mem_of_mem_take hc)
  · rw [TL.len_tl, e, List.length_take]
    omega
  · rw [TL.len_tl, e, List.length_take]
    omega
theorem cnd_ok {m : Nat} {x : Str} (h : okS m x = true) {i : Nat} (hi : i < 90) : okS 3 (cnd x i) = true := okS_app (cut1_ok h) (digs_ok ⟨i, hi⟩) (by decide)
theorem cands_ok {x : Str} (h : okS 10 x = true) : ∀ y ∈ cands x, okS 10 y = true := by
  intro y hy
  rcases List.mem_cons.mp hy with rfl | hy
  · exact h
  · obtain ⟨i, hi, rfl⟩ := List.mem_map.mp hy
    exact okS_mono (cnd_ok h (List.mem_range.mp hi)) (by decide)
def dig (c : Nat) : Bool := decide (48 ≤ c) && decide (c ≤ 57)
def sec (x : Str) : Bool := match (tl x)[1]? with
  | some c => dig c
  | none => false
theorem wds_sec : wds.all (fun w => !sec w) = true := by decide +kernel
theorem digs_fst : ∀ i : Fin 90, (match (tl (digs i.val))[0]? with | some c => dig c | none => false) = true := by decide +kernel
theorem digs_nd : ((List.range 90).map digs).Nodup := by decide +kernel
theorem cnd_sec {m : Nat} {x : Str} (h : okS m x = true) {i : Nat} (hi : i < 90) : sec (cnd x i) = true := by
  obtain ⟨_, h2, h3⟩ := okS_to (cut1_ok h)
  have hl : (tl (cutS x none (some 1))).length = 1 := by
    rw [← TL.len_tl]
    omega
  have e : (tl (cnd x i))[1]? = (tl (digs i))[0]? := by
    unfold cnd
    rw [TL.tl_append, List.getElem?_append_right (by omega), hl]
  have q := digs_fst ⟨i, hi⟩
  unfold sec
  rw [e]
  exact q
theorem not_word {m : Nat} {x : Str} (h : okS m x = true) {i : Nat} (hi : i < 90) : inV (.str (cnd x i)) (wds.map V.str) = false := by
  unfold inV
  rw [List.any_eq_false]
  intro y hy
  obtain ⟨w, hw, rfl⟩ := List.mem_map.mp hy
  show ¬ (w == cnd x i) = true
  intro z
  have z := eq_of_beq z
  have q := List.all_eq_true.mp wds_sec w hw
  rw [z, cnd_sec h hi] at q
  cases q
theorem pig {α : Type} [DecidableEq α] : ∀ (l ts : List α), l.Nodup → (∀ x ∈ l, x ∈ ts) → l.length ≤ ts.length
  | [], ts, _, _ => Nat.zero_le _
  | x :: l, ts, nd, h => by
    obtain ⟨h1, h2⟩ := List.nodup_cons.mp nd
    have hx := h x List.mem_cons_self
    have ih := pig l (ts.erase x) h2 fun y hy => (List.mem_erase_of_ne fun (e : y = x) => h1 (e ▸ hy)).mpr (h y (List.mem_cons_of_mem _ hy))
    rw [List.length_erase_of_mem hx] at ih
    have := List.length_pos_of_mem hx
    show l.length + 1 ≤ ts.length
    omega
theorem tl_one {x y : Str} (h : tl x = tl y) : x = y := by
  obtain ⟨a⟩ := x
  obtain ⟨b⟩ := y
  exact congrArg Str.mk (Array.toList_inj.mp h)
theorem cnd_inj {x : Str} {i j : Nat} (e : cnd x i = cnd x j) : digs i = digs j := by
  have q := congrArg tl e
  unfold cnd at q
  rw [TL.tl_append, TL.tl_append] at q
  exact tl_one (List.append_cancel_left q)
theorem free_cnd (x : Str) {ts : List Str} (h : ts.length ≤ 60) : ∃ i, i < 90 ∧ cnd x i ∉ ts := by
  refine Classical.byContradiction fun z => ?_
  have all : ∀ y ∈ (List.range 90).map (cnd x), y ∈ ts := fun y hy => by
    obtain ⟨i, hi, rfl⟩ := List.mem_map.mp hy
    exact Classical.byContradiction fun q => z ⟨i, List.mem_range.mp hi, q⟩
  have nd : ((List.range 90).map (cnd x)).Nodup := by
    refine List.Pairwise.map (R := fun i j => digs i ≠ digs j) _ (fun i j q e => q (cnd_inj e)) ?_
    exact List.pairwise_map.mp digs_nd
  have := pig _ ts nd all
  rw [List.length_map, List.length_range] at this
  omega
theorem inV_str {x : Str} {ts : List Str} : inV (.str x) (ts.map V.str) = decide (x ∈ ts) := by
  unfold inV
  by_cases h : x ∈ ts
  · rw [decide_eq_true h]
    exact List.any_eq_true.mpr ⟨.str x, List.mem_map.mpr ⟨x, h, rfl⟩, beq_self_eq_true x⟩
  · rw [decide_eq_false h, List.any_eq_false]
    intro y hy
    obtain ⟨w, hw, rfl⟩ := List.mem_map.mp hy
    show ¬ (w == x) = true
    intro z
    exact h (eq_of_beq z ▸ hw)
theorem str_flat : ∀ ts : List Str, (ts.map V.str).all flatV = true
  | [] => rfl
  | _ :: ts => str_flat ts
theorem wds_flat : (wds.map V.str).all flatV = true := by decide +kernel
theorem o26 : okS 26 L26 = true := by decide +kernel
theorem o36 : okS 36 (L26 ++ D10) = true := by decide +kernel
theorem l26 : L26.length = 26 := by decide +kernel
theorem l36 : (L26 ++ D10).length = 36 := by decide +kernel
theorem o12 : nm12.all (okS 10) = true := by decide +kernel
theorem ints5 {v : V} (h : v ∈ [V.int 1, V.int 0, V.int 2, V.int 7, V.int 3]) : ∃ m : Nat, v = .int (m : Int) ∧ m ≤ 7 := by
  simp only [List.mem_cons, List.not_mem_nil, or_false] at h
  rcases h with rfl | rfl | rfl | rfl | rfl
  · exact ⟨1, rfl, by decide⟩
  · exact ⟨0, rfl, by decide⟩
  · exact ⟨2, rfl, by decide⟩
  · exact ⟨7, rfl, by decide⟩
  · exact ⟨3, rfl, by decide⟩
theorem StA.ne_g {H : Hp} {d g c : Addr} {n : Nat} (S : StA H d g c n) {p : Addr} (hp : H p = none) : p ≠ g ∧ p ≠ d := by
  obtain ⟨r, t, gs, cs, S⟩ := S
  exact ⟨(ne_of_none S.gl hp).symm, (ne_of_none S.dk hp).symm⟩
section
variable {P : Program} {w : World} {K : PySem.W.Frag} {mg : Str → Option Value} {base : Heap}
theorem scNam : FnScope ["state", "taken", "letters", "found", "lap", "some", "at", "name"] ["state", "taken"] (defScope sNam) := ⟨rfl, rfl, rfl, by decide +kernel, rfl, by decide +kernel, by decide +kernel⟩
theorem ok_nam {f fM fD fP fW : Addr} {fd fdM fdD fdP fdW : FuncData} (F : Fun K "_law_tx_name" "_law_tx_name" sNam f fd) (T : MgN K mg fM fD fP fW) (FM : Fun K "_law_mixed" "_law_mixed" sMix fM fdM) (bM : L2.Binds K fdM ["state"] [])
    (FD : Fun K "_law_draw" "_law_draw" sDrw fD fdD) (bD : L2.Binds K fdD ["state", "room"] []) (FP : Fun K "_law_pick" "_law_pick" sPck fP fdP) (bP : L2.Binds K fdP ["state", "some"] [])
    (FW : Fun K "_law_tx_words" "_law_tx_words" sWds fW fdW) (bW : L2.Binds K fdW [] []) : FnOk P w K mg base CX0 4 f fd ["state", "taken"] spNam := by
  have GD : FnOk P w K mg base CX0 2 fD fdD ["state", "room"] spDrw := ok_drw FD T.toMgS FM bM
  have GP : FnOk P w K mg base CX0 3 fP fdP ["state", "some"] spPck := ok_pck FP T.toMgS FM bM FD bD
  have GW : FnOk P w K mg base CX0 1 fW fdW [] spWds := ok_wds FW
  refine F.ok scNam (fun vs H Q E h => ?_) (fun cdv A outer s H vs Q E hr h => ?_)
  · obtain ⟨d, g, c, a, n, ts, rfl, _⟩ := h
    rfl
  · obtain ⟨d, g, c, a, n, ts, rfl, S, hn, ha, hts, hag, k⟩ := h
    have hr1 : Room 1 _ := hr.mono (by decide)
    have hr2 : Room 2 _ := hr.mono (by decide)
    refine ⟨_, pss_cons (ps_set (i := 2) scNam.nd rfl (Or.inl rfl) pe_str)
      (pss_cons (ps_set (i := 3) scNam.nd rfl (Or.inr rfl) (pe_ix ix_str (pv 2) (pe_call GD hr2 (by rfl) T.dr T.kdr bD .nil pass0 (pa_cons (pv 0) (pa_cons pe_int pa_nil))) (fun _ _ => rfl)))
      (pss_cons (ps_for PassesOwn.never rfl (pi_range1 (by rfl) T.rng (pa_cons (pe_call GP hr (by rfl) T.pk T.kpk bP .nil pass0 (pa_cons (pv 0) (pa_cons (pe_lst (pa_cons pe_int (pa_cons pe_int (pa_cons pe_int (pa_cons pe_int (pa_cons pe_int pa_nil)))))) pa_nil))) pa_nil)) (pg_name (i := 4) scNam.nd rfl (Or.inl rfl))
        (pss_one (ps_set (i := 3) scNam.nd rfl (Or.inr rfl) (pe_op op_add_str (pv 3) (pe_ix ix_str (pe_op op_add_str (pv 2) pe_str) (pe_call GD hr2 (by rfl) T.dr T.kdr bD .nil pass0 (pa_cons (pv 0) (pa_cons pe_int pa_nil))) (fun _ _ => rfl))))))
      (pss_mid (ps_if (pt_cmpR op_eq (pe_call GD hr2 (by rfl) T.dr T.kdr bD .nil pass0 (pa_cons (pv 0) (pa_cons pe_int pa_nil))) pe_int (nomark _))
        (pss_one (ps_set (i := 3) scNam.nd rfl (Or.inr rfl) (pe_call GP hr (by rfl) T.pk T.kpk bP .nil pass0 (pa_cons (pv 0) (pa_cons (pe_lst (pa_cons pe_str (pa_cons pe_str (pa_cons pe_str (pa_cons pe_str (pa_cons pe_str (pa_cons pe_str (pa_cons pe_str (pa_cons pe_str (pa_cons pe_str (pa_cons pe_str (pa_cons pe_str (pa_cons pe_str pa_nil))))))))))))) pa_nil))))) pss_nil)
      (pss_cons (ps_set (i := 5) scNam.nd rfl (Or.inl rfl) (pe_op op_cat (pe_lst (pa_cons (pv 3) pa_nil)) (pe_lc (own := [("at", 6)]) (g := gName 6) (tt := tYes) (by rfl) scNam.nd (pi_range1 (by rfl) T.rng (pa_cons pe_int pa_nil))
          (blkOk_by (own := [("at", 6)]) (N := ["state", "taken", "letters", "found", "lap", "some", "at", "name"]) (sc := defScope sNam) (by decide +kernel)) (fun _ _ _ _ _ => pg_name (i := 6) scNam.nd rfl (Or.inl rfl)) (fun _ _ _ _ _ => pts_nil)
          (fun _ _ _ _ _ => pe_op op_add_str (pe_slice sl_str (pv 3) po_none (po_some pe_int)) (pe_callTy call_str_int (by rfl) T.str (by decide +kernel) (pa_cons (pv 6) pa_nil))))))
      (pss_one (ps_ret (pe_ix ix_list (pe_lc (own := [("name", 7)]) (g := gName 7) (by rfl) scNam.nd (pi_list (pv 5))
          (blkOk_by (own := [("name", 7)]) (N := ["state", "taken", "letters", "found", "lap", "some", "at", "name"]) (sc := defScope sNam) (by decide +kernel)) (fun _ _ _ _ _ => pg_name (i := 7) scNam.nd rfl (Or.inl rfl))
          (fun _ _ _ _ _ => pts_one (PW.pt (pw_and (pt_cmpR (show OpR _ (compareOp .NotIn) (rIn K true) from op_notIn_seq) (pv 7) (pv 1) (by rfl)) (pw_and1 (pt_cmpR (show OpR _ (compareOp .NotIn) (rIn K true) from op_notIn_seq) (pv 7) (pe_call0 GW hr1 (by rfl) T.wd T.kwd bW .nil pass0) (by rfl))))))
          (fun _ _ _ _ _ => pv 7)) pe_int (fun _ _ => rfl)))))))), ?_⟩
    refine ⟨_, rfl, _, rfl, d, g, c, n, 26, rfl, S, by omega, by decide, by decide, fun v H1 h0 h1 S1 kp1 => ?_⟩
    obtain ⟨c1, e1, ok1⟩ := item_ok o26 h0 (by rw [l26]; exact h1)
    refine ⟨L26, v, c1, rfl, rfl, (by decide +kernel), e1, ?_⟩
    -- for lap in range(..)
    refine ⟨_, rfl, (by show 5 ≤ sizeLine; decide), fun l hl => ?_⟩
    refine ⟨d, g, c, l, n + 1, _, rfl, S1.keep (same_new hl), by omega, upd_same, (S1.ne_g hl).1, by simp, by decide, fun v2 H2 hv2 S2 kp2 => ?_⟩
    obtain ⟨m, rfl, hm⟩ := ints5 hv2
    have kpa : Kp d g H H2 := kp1.trans ((Kp.of (same_new hl)).trans kp2)
    refine ⟨_, rfl, by omega, by omega, for_range (lo := 0) (n := ((m : Nat) : Int).toNat)
      (fun i σ H' => ∃ (x : Str) (lv : Option V), σ = [some (.ref d), some (.ref a), some (.str L26), some (.str x), lv, none, none, none] ∧ okS (i + 1) x = true ∧ StA H' d g c (n + 2 + i) ∧ Kp d g H H')
      ⟨_, none, rfl, ok1, S2, kpa⟩ ?_ ?_⟩
    · rintro i σ H' hi ⟨x, lv, rfl, okx, S3, kp3⟩
      have hi7 : i < 7 := by omega
      refine ⟨_, rfl, _, rfl, L26, D10, rfl, rfl, (by decide +kernel), _, rfl, d, g, c, n + 2 + i, 36, rfl, S3, by omega, by decide, by decide, fun v3 H3 h2 h3 S4 kp4 => ?_⟩
      obtain ⟨c2, e2, ok2⟩ := item_ok o36 h2 (by rw [l36]; exact h3)
      refine ⟨L26 ++ D10, v3, c2, rfl, rfl, (by decide +kernel), e2, ?_⟩
      have oka := okS_app okx ok2 (Nat.le_refl _)
      refine ⟨x, ⟨#[c2]⟩, rfl, rfl, ?_, _, _, rfl, oka, S4, kp3.trans kp4⟩
      have := (okS_to okx).2.2
      rw [sizeLine_eq]
      show x.length + 1 ≤ _
      omega
    · rintro σ H3 ⟨x, lv, rfl, okx, S3, kp3⟩
      have hm8 : ((m : Nat) : Int).toNat ≤ 7 := by omega
      have okx := okS_mono (n := 10) okx (by omega)
      have S3 := S3.mono (m := n + 9) (by omega)
      -- if draw == 0
      refine ⟨fun σ' H' => ∃ x : Str, σ' = [some (.ref d), some (.ref a), some (.str L26), some (.str x), lv, none, none, none] ∧ okS 10 x = true ∧ StA H' d g c (n + 12) ∧ Kp d g H H', ?_, ?_⟩
      · refine ⟨_, rfl, d, g, c, n + 9, 6, rfl, S3, by omega, by decide, by decide, fun v4 H4 _ _ S4 kp4 => ?_⟩
        refine ⟨rfl, _, rfl, ?_⟩
        by_cases hv : V.int v4 = V.int 0
        · refine ifT (decide_eq_true hv) ?_
          refine ⟨_, rfl, (by show 12 ≤ sizeLine; decide), fun l2 hl2 => ?_⟩
          refine ⟨d, g, c, l2, n + 10, nm12.map V.str, rfl, S4.keep (same_new hl2), by omega, upd_same, (S4.ne_g hl2).1, by simp [nm12], by decide, fun v5 H5 hv5 S5 kp5 => ?_⟩
          obtain ⟨y, rfl, oky⟩ := pick_str o12 hv5
          exact ⟨y, rfl, oky, S5.mono (by omega), kp3.trans (kp4.trans ((Kp.of (same_new hl2)).trans kp5))⟩
        · refine ifF (decide_eq_false hv) ?_
          exact ⟨x, rfl, okx, S4.mono (by omega), kp3.trans kp4⟩
      · rintro σ' H4 ⟨x, rfl, okx, S4, kp4⟩
        have hxs : x.length ≤ sizeLine := by
          have := (okS_to okx).2.2
          rw [sizeLine_eq]
          omega
        have ha4 : H4 a = some (.lst (ts.map V.str)) := kp4 _ _ ha (by
          obtain ⟨r, t, gs, cs, S⟩ := S
          exact ne_of ha S.dk (by intro z; cases z)) hag
        -- some = [found] + [..]
        refine ⟨_, rfl, (by show 1 ≤ sizeLine; decide), fun l3 hl3 => ?_⟩
        refine ⟨90, rfl, by decide, by decide, fun D hD => lc_range (lo := 0) (n := 90)
          (fun i H' => H' D = some (.lst (((List.range i).map (cnd x)).map V.str)) ∧ Same (upd H4 l3 (.lst [V.str x])) H') ⟨upd_same, same_new hD⟩ ?_ ?_⟩
        · rintro i H' hi ⟨h1, s1⟩
          refine ⟨rfl, ?_⟩
          have od : okS 2 (digs i) = true := digs_ok ⟨i, hi⟩
          have e0 : (0 : Int) + (i : Nat) = (i : Nat) := Int.zero_add _
          rw [e0]
          refine ⟨_, rfl, _, rfl, x, rfl, hxs, _, rfl, (i : Nat), rfl, ?_, cutS x none (some 1), digs i, rfl, rfl, ?_, _, h1, ?_, ?_, ?_⟩
          · rw [Int.natAbs_natCast]
            exact Nat.lt_of_le_of_lt (Nat.log2_le_self i) (by omega)
          · have h3 := (okS_to (cut1_ok okx)).2.2
            have h4 := (okS_to od).2.2
            rw [sizeLine_eq]
            omega
          · rw [List.length_map, List.length_map, List.length_range, sizeLine_eq]
            omega
          · rw [upd_same, List.range_succ, List.map_append, List.map_append]
            rfl
          · intro b o e
            rw [upd_ne (ne_of_none e hD)]
            exact s1 _ _ e
        · rintro H5 ⟨h1, s1⟩
          refine ⟨l3, D, [.str x], _, rfl, rfl, s1 _ _ upd_same, h1, (by rw [List.length_map, List.length_map, List.length_range, sizeLine_eq]; show 1 + 90 ≤ _; omega), fun mm hmm => ?_⟩
          have s5 : Same H4 (upd H5 mm (.lst ([V.str x] ++ (((List.range 90).map (cnd x)).map V.str)))) := ((same_new hl3).trans s1).trans (same_new hmm)
          have hc5 : (upd H5 mm (.lst ([V.str x] ++ (((List.range 90).map (cnd x)).map V.str)))) mm = some (.lst ((cands x).map V.str)) := upd_same
          generalize upd H5 mm (.lst ([V.str x] ++ (((List.range 90).map (cnd x)).map V.str))) = H6 at s5 hc5 ⊢
          -- return [name for ..][0]
          refine ⟨_, rfl, mm, rfl, ⟨_, SqL.of hc5⟩, fun R hR => lc_list (K := K) (a := mm) (xs := (cands x).map V.str)
            (fun i H' => ∃ acc : List Str, H' R = some (.lst (acc.map V.str)) ∧ (∀ y ∈ acc, okS 10 y = true) ∧ (∀ j nm, j < i → (cands x)[j]? = some nm → inV (.str nm) (ts.map V.str) = false → inV (.str nm) (wds.map V.str) = false → acc ≠ []) ∧ acc.length ≤ i ∧ Same H6 H')
            ⟨[], upd_same, (fun y hy => by cases hy), (fun j nm z => by omega), Nat.le_refl _, same_new hR⟩ (fun i H' _ ⟨_, _, _, _, _, s6⟩ => SqL.of (s6 _ _ hc5)) ?_ ?_⟩
          · rintro i y H' hi ⟨acc, h2, h3, h4, h5, s6⟩
            have hil : i < ((cands x).map V.str).length := (List.getElem?_eq_some_iff.mp hi).1
            have hlc : ((cands x).map V.str).length = 91 := by
              rw [List.length_map]
              unfold cands
              rw [List.length_cons, List.length_map, List.length_range]
            rw [List.getElem?_map] at hi
            obtain ⟨nm, hnm, rfl⟩ := Option.map_eq_some_iff.mp hi
            have okn := cands_ok okx nm (List.mem_of_getElem? hnm)
            refine ⟨rfl, ?_⟩
            have keep : ∀ {H7 : Hp}, Same H6 H7 → inV (.str nm) (ts.map V.str) = true ∨ inV (.str nm) (wds.map V.str) = true → ∀ j nm', j < i + 1 → (cands x)[j]? = some nm' → inV (.str nm') (ts.map V.str) = false → inV (.str nm') (wds.map V.str) = false → acc ≠ [] := by
              intro H7 _ hb j nm' hj hn' f1 f2
              by_cases e : j = i
              · rw [e, hnm] at hn'
                obtain rfl := Option.some.inj hn'
                rcases hb with hb | hb
                · rw [f1] at hb
                  cases hb
                · rw [f2] at hb
                  cases hb
              · exact h4 j nm' (by omega) hn' f1 f2
            refine ⟨_, rfl, _, rfl, a, ts.map V.str, rfl, .inl (SqL.of (s6 _ _ (s5 _ _ ha4))), rfl, str_flat ts, _, rfl, ?_⟩
            cases hit : inV (.str nm) (ts.map V.str) with
            | true =>
              refine ifF (by rfl) ?_
              refine ifF rfl ?_
              exact ⟨acc, h2, h3, keep s6 (.inl hit), by omega, s6⟩
            | false =>
              refine ifT (by rfl) ?_
              refine ⟨_, rfl, rfl, fun wp H7 s7 hwn hw7 => ?_⟩
              refine ⟨wp, _, rfl, .inl (SqL.of hw7), rfl, wds_flat, _, rfl, ?_⟩
              have fin : Same H6 H7 := s6.trans s7
              cases hin : inV (.str nm) (wds.map V.str) with
              | false =>
                refine ifT (by rfl) ?_
                refine ⟨_, rfl, acc.map V.str, s7 _ _ h2, by rw [List.length_map, sizeLine_eq]; omega, acc ++ [nm], ?_, ?_, ?_, ?_, ?_⟩
                · rw [upd_same, List.map_append]
                  rfl
                · intro y hy
                  rcases List.mem_append.mp hy with hy | hy
                  · exact h3 y hy
                  · rw [List.mem_singleton.mp hy]
                    exact okn
                · intro j nm' _ _ _ _ z
                  simp at z
                · rw [List.length_append]
                  show acc.length + 1 ≤ i + 1
                  omega
                · intro b o e
                  rw [upd_ne (ne_of_none e hR)]
                  exact fin _ _ e
              | true =>
                refine ifF (by rfl) ?_
                exact ⟨acc, s7 _ _ h2, h3, keep fin (.inr hin), by omega, fin⟩
          · rintro H7 ⟨acc, h2, h3, h4, h5, s6⟩
            have hlc : ((cands x).map V.str).length = 91 := by
              rw [List.length_map]
              unfold cands
              rw [List.length_cons, List.length_map, List.length_range]
            cases acc with
            | nil =>
              obtain ⟨i0, hi0, hf⟩ := free_cnd x hts
              have q : (cands x)[i0 + 1]? = some (cnd x i0) := by
                show ((List.range 90).map (cnd x))[i0]? = _
                rw [List.getElem?_map, List.getElem?_range hi0]
                rfl
              exact absurd rfl (h4 (i0 + 1) (cnd x i0) (by omega) q (inV_str.trans (decide_eq_false hf)) (not_word okx hi0))
            | cons y r =>
              refine ⟨R, _, 0, .str y, rfl, rfl, SqL.of h2, atI_nat (j := 0) rfl, ?_⟩
              exact k y H7 (h3 y (List.mem_cons_self ..)) (S4.keep (s5.trans s6)) (kp4.trans (Kp.of (s5.trans s6)))
end
end K0

set_option Elab.async false
set_option linter.all false
set_option pp.maxSteps 700
set_option maxRecDepth 100000
set_option maxHeartbeats 2000000
namespace K0
open PySem PySem.Spec PyProof.Rows L2
open TL (tl)
open LamX (GivesTo CodeO Tabs TabS TabB tLam pe_lamcall lamCx lamEnv lamS_by ExtN)
abbrev sCgt : Stmt := top 32
/-! ### an error that was caught and is kept -/
def exh (a : Addr) (cls : Value) (d : Option Addr) : HO := .ext fun h => ∃ (oe : Obj) (vs : Array Value), h.get? a = some oe ∧ Zc cls d oe ∧ oe.data = .fields vs
theorem exh_ok {P : Program} {w : World} {H : Hp} {h : Heap} {a : Addr} {cls : Value} {d : Option Addr} {oe : Obj} {vs : Array Value} (e : h.get? a = some oe) (z : Zc cls d oe) (hd : oe.data = .fields vs) : ObjOk P w H h a (exh a cls d) :=
  ⟨⟨oe, vs, e, z, hd⟩, ⟨oe, e⟩, fun h1 h2 x k => by
    obtain ⟨o1, v1, e1, z1, d1⟩ := x
    exact ⟨o1, v1, k _ e1, z1, d1⟩⟩
theorem exh_at {P : Program} {w : World} {H : Hp} {h : Heap} {a : Addr} {cls : Value} {d : Option Addr} (hok : HOk P w H h) (e : H a = some (exh a cls d)) : ∃ (oe : Obj) (vs : Array Value), h.get? a = some oe ∧ Zc cls d oe ∧ oe.data = .fields vs := by
  have x : ObjOk P w H h a (.ext fun h => ∃ (oe : Obj) (vs : Array Value), h.get? a = some oe ∧ Zc cls d oe ∧ oe.data = .fields vs) := hok a _ e
  exact x.1
section
variable {X : Cx} {pins : List (Addr × Obj)} {σ : L2.St} {H : Hp} {s : Shared}
theorem inv_track {a : Addr} {oe : Obj} {vs : Array Value} {cls : Value} {d : Option Addr} (I : Inv X pins σ H s) (ha : s.heap.get? a = some oe) (hz : Zc cls d oe) (hd : oe.data = .fields vs) (na : H a = none)
    (n0 : X.s_0.heap.get? a = none) (nL : a ≠ X.env.locals) (np : ∀ p ∈ X.pn ++ pins, p.1 ≠ a) : Inv X pins σ (upd H a (exh a cls d)) s := by
  have nH : ∀ {b : Addr} {o : HO}, H b = some o → b ≠ a := fun {b o} e => ne_of_none e na
  refine ⟨I.ok, I.os, I.bare, ⟨I.base.keep, I.base.slot, ?_, I.base.there, ?_, ?_, ?_⟩, I.loc, I.cell, ?_, ?_, ?_, ?_, I.len⟩
  · intro b o q n hx
    have : b ≠ a := fun z => by rw [z, n0] at q; cases q
    rw [upd_ne this]
    exact I.base.free b o q n hx
  · intro b xs q
    have q1 := I.base.tups b xs q
    rw [upd_ne (nH q1)]
    exact q1
  · intro b o u q
    have q1 := I.base.frzs b o u q
    rw [upd_ne (nH q1)]
    exact q1
  · intro b ps q
    obtain ⟨more, q1⟩ := I.base.tbls b ps q
    exact ⟨more, by rw [upd_ne (nH q1)]; exact q1⟩
  · rw [upd_ne nL.symm]
    exact I.free
  · intro x c e
    obtain ⟨v, o, h1, h2⟩ := I.cell x c e
    have : c ≠ a := fun z => by
      rw [z, ha] at h1
      cases h1
      rw [hd] at h2
      cases h2
    rw [upd_ne this]
    exact I.freeC x c e
  · intro p hp
    obtain ⟨p1, p2, p3, p4, p5⟩ := I.pin p hp
    exact ⟨p1, by rw [upd_ne (np p hp)]; exact p2, p3, p4, p5⟩
  · intro b o e
    by_cases hb : b = a
    · subst hb
      rw [upd_same] at e
      cases e
      exact exh_ok ha hz hd
    · rw [upd_ne hb] at e
      exact (I.hok b o e).stay (fun c v _ q => q) (fun c q => by rw [upd_ne (nH q)]; exact q) fun c xs q => by rw [upd_ne (nH q)]; exact q
end
/-- try .. except x as n: the error stays known behind the suite -/
def wKp (K : PySem.W.Frag) (c : Value) (i : Nat) (ts : Addr → Value → Option Addr → TS) (Wout : WX) (D : Ends) : WX := fun cls d σ H =>
  ∃ b, PySem.W.exmOne K cls c = some b ∧ (b = true → ∀ a, H a = none → ts a cls d { nx := fun σ' H' => D.nx (σ'.set i none) (upd H' a (exh a cls d)), rt := fun v H' => D.rt v (upd H' a (exh a cls d)), bk := fun σ' H' => D.bk (σ'.set i none) (upd H' a (exh a cls d)), ct := fun σ' H' => D.ct (σ'.set i none) (upd H' a (exh a cls d)) } (σ.set i (some (.ref a))) H) ∧ (b = false → Wout cls d σ H)
section
variable {X : Cx} {x n : Str} {c : Value} {i : Nat} {body suite : List Stmt} {b₀ : Stmt} {np pos pos' : Pos} {tb : WX → TS} {ts : Addr → Value → Option Addr → TS} {Wout : WX}
theorem ps_try_keep (hs : X.stack = X.env :: X.outer) (hf : X.env.frame = some X.env.locals) (hex : X.ex = []) (hN : X.N.Nodup) (hi : X.N[i]? = some n) (hln : X.env.kindOf n = some .local) (hc : Names X x c) (tk : Takes X Wout)
    (hb : ∀ (W : WX) (pn : List (Addr × Obj)) (xe : Value → Shared → Prop), Takes (X.tr pn xe) W → PassesOwn (model X.prog X.w) X.A X.env xe → PSs (X.tr pn xe) body (tb W))
    (hsu : ∀ (a : Addr) (oe : Obj) (cls : Value) (d : Option Addr) (pn : List (Addr × Obj)), Zc cls d oe → (∃ vs, oe.data = .fields vs) → PSs (X.suite a ((a, oe) :: pn)) (b₀ :: suite) (ts a cls d)) :
    PS X (.Try body [.ExceptHandler (some (.Name x np)) (some n) (b₀ :: suite) pos'] [] [] pos) (fun D σ H => tb (wKp X.K c i ts Wout D) D σ H) := by
  refine ⟨fun pins s σ H D I h => ?_⟩
  have ok := I.ok
  have hfr : X.A.frames = some (X.env :: X.outer) := by rw [ok.frames, hs]
  have hloc : Loc X.env.scope n := .inl hln
  refine wpAny_Try_except ?_
  refine wpAny_mono ((hb (wKp X.K c i ts Wout D) (X.pn ++ pins) (fun e s₁ => wpAny (model X.prog X.w) X.A (noteFrame e X.env) (fun _ s₂ => wpAny (model X.prog X.w) X.A (setFlight e none) (fun _ s₃ =>
    wpAny (model X.prog X.w) X.A (handleBy e X.env [.ExceptHandler (some (.Name x np)) (some n) (b₀ :: suite) pos']) (SP X pins D) X.xe s₃) X.xe s₂) X.xe s₁) (fun u s' xx => ?_) PassesOwn.looking).run [] s σ H D (I.toTry _) h) (fun f s1 hsp => ?_) (fun e s1 he => he)
  · obtain ⟨a, B, sI, pins', σ', H', cls, d, rfl, J', nb, up, sky, na, os, ag, b, hb1, hyes, hno⟩ := xx
    have J : Inv X pins σ' H' sI := J'.ofTry ok
    have sky' : Sky B (X.env :: X.outer) a (Zc cls d) X.env.locals s'.heap := by rw [← hs]; exact sky
    show wpAny (model X.prog X.w) X.A (noteFrame (.ref a) X.env) _ _ _
    refine Sky.land Zc.steady hfr hf sky' fun h3 fl3 up3 => ?_
    have J3 : Inv X pins σ' H' { s' with heap := h3 } := J.landed nb fl3.1 (up.trans up3) os ag
    obtain ⟨oe3, vs3, he3, hz3, hd3⟩ := fl3.there
    have nfr : a ∉ frs (X.env :: X.outer) := fun hm => by
      obtain ⟨_, o', e', hnf⟩ := fl3.2.2.1.mem hm
      rw [he3] at e'; cases e'
      exact hnf _ hd3
    have nL : a ≠ X.env.locals := fun z => nfr (List.mem_filterMap.mpr ⟨X.env, List.mem_cons_self, by rw [hf, z]⟩)
    have nF : a ∉ X.fs := fun hm => by
      obtain ⟨e, he, q⟩ := List.mem_filterMap.mp hm
      exact nfr (List.mem_filterMap.mpr ⟨e, List.mem_cons_of_mem _ he, q⟩)
    have ba : B.get? a = none := fl3.2.1
    have nS : a ∉ frs X.stack := by rw [hs]; exact nfr
    -- the error is newer than the def's entry, and than all that is pinned
    have nI : sI.heap.get? a = none := by
      cases e : sI.heap.get? a with
      | none => rfl
      | some o =>
        have := nb a o e nS
        rw [ba] at this
        cases this
    have n0 : X.s_0.heap.get? a = none := by
      cases e : X.s_0.heap.get? a with
      | none => rfl
      | some o =>
        obtain ⟨o', e'⟩ := J.base.there a o e (by rw [hex]; exact List.not_mem_nil)
        rw [nI] at e'
        cases e'
    have npn : ∀ p ∈ X.pn ++ pins, p.1 ≠ a := fun p hp z => by
      have := (J.pin p hp).1
      rw [z, nI] at this
      cases this
    have S3 := J3.suite he3 hd3 na nL nF
    refine wpAny_handleBy_cons (codeAny_handlers_test ?_) (by intro q; cases q)
    have LT : PySem.W.Looks (model X.prog X.w) h3 (typeOf (.ref a)) cls := fun A Q E s k q => wpAny_typeOf_ref (k _ _ he3) (by rw [hz3.1]; exact q)
    have LM := PySem.W.exm_one (M := model X.prog X.w) (J3.kIn) LT hb1
    have test : ∀ {Q : Value → Shared → Prop} {E : Value → Shared → Prop}, Q c { s' with heap := h3 } → wpAny (model X.prog X.w) (X.A.mark (some (.ref a))) (eval (.Name x np) X.env) Q E { s' with heap := h3 } := fun {Q E} q => by
      obtain ⟨hg, hdbg, hm | ⟨hm, hv, hnn⟩⟩ := hc
      · exact ld_glob (X := X.suite a ((a, oe3) :: (X.pn ++ pins))) S3 hg hm q hdbg
      · exact ld_blt (X := X.suite a ((a, oe3) :: (X.pn ++ pins))) S3 hg hm hv q hnn hdbg
    refine test (LM.here ?_)
    cases b with
    | true =>
      refine codeAny_handlers_suite_as ?_
      refine HandSPX.lands_againZ fl3 fun h4 fl4 up4 => ?_
      have J4 : Inv X pins σ' H' { s' with heap := h4 } := J.landed nb fl4.1 ((up.trans up3).trans up4) os ag
      obtain ⟨oe4, vs4, he4, hz4, hd4⟩ := fl4.there
      have S4 := J4.suite he4 hd4 na nL nF
      refine store_ok (X := X.suite a ((a, oe4) :: (X.pn ++ pins))) (v := .ref a) S4 hN hi hloc rfl (fun s5 S5 => ?_) (.inr hln)
      refine wpAny_mono ((hsu a oe4 cls d (X.pn ++ pins) hz4 ⟨_, hd4⟩).run [] s5 _ H' _ S5 (hyes rfl a na)) (fun f s6 hsp => ?_) (fun _ _ z => False.elim z)
      have end_ : ∀ {σ6 : L2.St} {H6 : Hp} {Q : Shared → Prop}, Inv (X.suite a ((a, oe4) :: (X.pn ++ pins))) [] σ6 H6 s6 → (∀ s7, Inv X pins (σ6.set i none) (upd H6 a (exh a cls d)) s7 → Q s7) →
          wpAny (model X.prog X.w) X.A (do bindName X.env n .none; unbindBehindTheSuite X.env n pos') (fun _ s7 => Q s7) X.xe s6 := fun {σ6 H6 Q} S6 hq => by
        obtain ⟨g1, g2, _, _, _⟩ := S6.pin (a, oe4) (List.mem_append_left _ List.mem_cons_self)
        exact gone_ok (inv_track (S6.unsuite ok) g1 hz4 hd4 g2 n0 nL npn) hN hi hln hq
      cases f with
      | next =>
        obtain ⟨σ6, H6, S6, q6⟩ := hsp
        exact end_ S6 fun s7 J7 => ⟨_, _, J7, q6⟩
      | brk =>
        obtain ⟨σ6, H6, S6, q6⟩ := hsp
        exact end_ S6 fun s7 J7 => ⟨_, _, J7, q6⟩
      | cont =>
        obtain ⟨σ6, H6, S6, q6⟩ := hsp
        exact end_ S6 fun s7 J7 => ⟨_, _, J7, q6⟩
      | ret u =>
        obtain ⟨v6, σ6, H6, S6, r6, q6⟩ := hsp
        exact end_ S6 fun s7 J7 => ⟨_, _, _, J7, r6, q6⟩
    | false =>
      show wpAny _ X.A (handleBy (.ref a) X.env []) _ _ _
      refine wpAny_handleBy_nil ?_
      obtain ⟨k1, k2, k3, oe, vs, T, oT, ts', he, hz, hd, h1, hr⟩ := id fl3
      unfold PySem.passOn
      refine wpAny_bind (wpAny_field he hd h1 ?_)
      rw [if_neg (show ¬ ((Value.ref T == Value.none) = true) from by simp)]
      have fin : wpAny (model X.prog X.w) X.A (setFlight (.ref a) X.env.frame) (fun _ s4 => wpAny (model X.prog X.w) X.A (throw (.ref a) : Sem Flow) (SP X pins D) X.xe s4) X.xe { s' with heap := h3 } := by
        rw [hf]
        refine HandSPX.setFlight_upZ fl3 fun h4 hh4 up4 => wpAny_throw (tk _ _ ?_)
        exact ⟨a, B, sI, pins, σ', H', cls, d, rfl, J, nb, (up.trans up3).trans up4, .inr (.inr (by rw [hs]; exact hh4)), na, os, ag, hno rfl⟩
      first
        | exact wpAny_bind (wpAny_pure (wpAny_bind fin))
        | exact wpAny_bind fin
  · cases f with
    | next =>
      obtain ⟨σ', H', J', q⟩ := hsp
      exact wpAny_execs_nil ⟨σ', H', J'.ofTry ok, q⟩
    | brk =>
      obtain ⟨σ', H', J', q⟩ := hsp
      exact ⟨σ', H', J'.ofTry ok, q⟩
    | cont =>
      obtain ⟨σ', H', J', q⟩ := hsp
      exact ⟨σ', H', J'.ofTry ok, q⟩
    | ret u =>
      obtain ⟨v, σ', H', J', r, q⟩ := hsp
      exact ⟨v, σ', H', J'.ofTry ok, r, q⟩
end
/-! ### what is asked of a kept error -/
theorem exh_inst {X : Cx} {pins : List (Addr × Obj)} {σ : L2.St} {H : Hp} {s : Shared} {a D dd : Addr} {fs : List (Str × V)} (I : Inv X pins σ H s) (h1 : H a = some (exh a (.ref D) (some dd))) (h2 : H dd = some (.xd fs)) :
    ∃ (oe od : Obj) (mA : Str → Option Value), PySem.W.InstAt s.heap a oe D (some od) ∧ (∀ f, RelO (fs.lookup f) (mA f)) ∧ ∀ n, PySem.W.lookIn n od = some (mA n) := by
  obtain ⟨oe, vs, ha, hz, hd⟩ := exh_at I.hok h1
  have hx : ObjOk X.prog X.w H s.heap dd (.xd fs) := I.hok dd _ h2
  obtain ⟨mA, hns, hr⟩ := hx
  obtain ⟨od, ho, hl⟩ := lookIn_ns hns
  exact ⟨oe, od, mA, ⟨ha, hz.1, by unfold PySem.W.notCls; rw [hd] <;> rfl, by rw [hz.2]; exact ho⟩, hr, hl⟩
/-- isinstance(e, c), e a kept error of the class at D -/
def rIsH (K : PySem.W.Frag) (D : Addr) : List V → Hp → VK → Prop := fun xs H Q => ∃ (a dd : Addr) (fs : List (Str × V)) (c : V) (cv : Value) (b : Bool), xs = [.ref a, c] ∧ (∀ u, RelV c u → u = cv) ∧ H a = some (exh a (.ref D) (some dd)) ∧ H dd = some (.xd fs) ∧
  PySem.W.kitOne K (.ref D) cv = some b ∧ Q (.bl b) H
theorem call_isH {X : Cx} {D : Addr} (C : ExcC X.K D) : CallR X (.builtin "isinstance") (rIsH X.K D) := by
  intro pins s σ H xs us Q I r h
  obtain ⟨a, dd, fs, c, cv, b, rfl, hcv, h1, h2, e, q⟩ := h
  obtain ⟨u1, u2, rfl, r1, r2⟩ := vals2 r
  cases r1
  have ec := hcv _ r2
  subst ec
  obtain ⟨oe, od, mA, J, _, _⟩ := exh_inst I h1 h2
  have hcl : (PySem.W.clsIn X.K D).isSome = true := by
    obtain ⟨cd, hc, _⟩ := PySem.W.any_some C.hd
    rw [hc]
    rfl
  exact PySem.W.kia_one (PySem.W.kitx_exc hcl C.hg C.hk C.hs C.ha C.hn C.ht C.hm) I.kIn J e (fun z => nomatch z) fun tk => ⟨.bl b, H, I.kept (t' := tk) fun _ _ z => z, rfl, q⟩
theorem pss_len {X : Cx} {body : List Stmt} {t : TS} {n : Nat} (h : PSs X body t) (hn : X.N.length = n) : PSs X body (fun D σ H => σ.length = n → t D σ H) :=
  ⟨fun pins s σ H D I hh => h.run pins s σ H D I (hh (I.len.trans hn))⟩
theorem pe_weak {X : Cx} {e : Expr} {te : TE} (he : PE X e te) : PE X e (fun σ H Q => ∃ Qc : VK, te σ H Qc ∧ ∀ v H1, Qc v H1 → Q v H1) := by
  refine ⟨fun pins s σ H Q I h => ?_⟩
  obtain ⟨Qc, h, k⟩ := h
  exact thn (he.run pins s σ H Qc I h) fun u s1 ⟨v, H1, I1, r, q⟩ => ⟨v, H1, I1, r, k v H1 q⟩
/-- f(k = v, ..) -/
theorem pe_callK0 {X : Cx} {CX : CXT} {k : Nat} {f : Addr} {fd : FuncData} {ps ks : List Str} {sp : Sp} {E : XK} {x : Str} {p pos : Pos} {kws : List Keyword} {tk : TA} {g : List Value → List Value → List Value} {gV : List V → List V → List V}
    (F : FnOk X.prog X.w X.K X.mg X.base CX k f fd ps sp) (hr : Room k X.A) (hg : Gl X x) (hm : X.mg x = some (.ref f)) (hk : PySem.W.keepIn X.K (.ref f) = true) (hb : KBinds X.K fd ps ks g gV) (hx : Passes CX X E)
    (hkw : PK X kws tk) (hall : (backToKw pos (keywordEach kws X.env)).all (·.1.isSome) = true := by rfl) (hks : (backToKw pos (keywordEach kws X.env)).filterMap (·.1) = ks := by rfl)
    (hdb : (x == ("__debug__" : Str)) = false := by decide) (hpl : ((backTo pos (starEach [] X.env)).any (·.1) || (backToKw pos (keywordEach kws X.env)).any (·.1.isNone)) = false := by rfl) :
    PE X (.Call (.Name x p) [] kws pos) (fun σ H Q => tk σ H fun zs H2 => sp (gV [] zs) H2 Q E) := by
  refine ⟨fun pins s σ H Q I h => ?_⟩
  refine wpAny_Call_Name_kw (ld_glob I hg hm ?_ hdb)
  refine PySem.W.callWith_KW0 (h₀ := X.base) I.ok.mod.kin hk hall ?_ hpl
  refine thn (hkw.run pos pins s σ H _ I h) fun ws s2 ⟨zs, H2, I2, rz, q2⟩ => ⟨I2.kIn, ?_⟩
  rw [hks]
  exact run_fnk F hr hb hx I2 .nil rz q2
/-- _law_caught(action): what the call raises, kept; or None -/
def TTc (K : PySem.W.Frag) (CE : Addr) : (XK → Hp → VK → Prop) → Hp → VK → Prop := fun tl H Q =>
  tl (fun cls d H1 => ∃ b, PySem.W.exmOne K cls (.ref CE) = some b ∧ (b = true → ∀ a, H1 a = none → Q (.ref a) (upd H1 a (exh a cls d))) ∧ (b = false → False)) H (fun _ H1 => Q .non H1)
abbrev NC : List Str := ["action", "found", "error"]
theorem scC : FnScope NC ["action"] (defScope sCgt) := ⟨rfl, rfl, rfl, by decide +kernel, rfl, by decide +kernel, by decide +kernel⟩
theorem caught_gives {X : Cx} {CE g : Addr} {cdg : Value} {q : Str} (hme : X.mg "ClockError" = some (.ref CE)) : GivesTo X NC "_law_caught" (defScope sCgt) g cdg (defBody sCgt) "action" q (TTc X.K CE) := by
  intro f c' s H Q tl act hc h
  refine ⟨_, pss_cons (ps_set (i := 1) scC.nd rfl (Or.inl rfl) pe_non)
    (pss_cons (ps_try_keep (X := (cxOf C8.CX0 X.prog X.w X.K X.mg X.base NC "_law_caught" (defScope sCgt) g cdg X.A X.stack s H C8.E0).nox) (c := .ref CE) (i := 2)
      (tb := fun W D σ H => ∃ (Ech : XK) (Qc : VK), (∀ cls d σ' H', Ech cls d H' → W cls d σ' H') ∧ σ[0]? = some (some (.ref f)) ∧ H c' = some (CodeO c' q) ∧ tl Ech H Qc ∧ ∀ v H1, Qc v H1 → D.nx σ H1)
      rfl rfl rfl scC.nd rfl rfl ⟨rfl, rfl, .inl hme⟩ takes0 (fun W pn xe tk _ => ?_) (fun a oe cls d pn _ _ => pss_len (X := Cx.suite (cxOf C8.CX0 X.prog X.w X.K X.mg X.base NC "_law_caught" (defScope sCgt) g cdg X.A X.stack s H C8.E0).nox a ((a, oe) :: pn)) (n := 3) (pss_one (ps_set (i := 1) scC.nd rfl (Or.inl rfl) (pv 2))) rfl))
    (pss_one (ps_ret (pv 1)))), ?_⟩
  · refine ⟨fun pins s' σ H' D I h' => ?_⟩
    obtain ⟨Ech, Qc, hW, h1, h2, h3, h4⟩ := h'
    have hp := fun p1 p2 => act W pn xe Ech p1 p2 tk hW
    exact (pss_one (ps_expr (pe_weak (hp _ _)))).run pins s' σ H' D I ⟨Qc, ⟨h1, h2, h3⟩, h4⟩
  · refine ⟨_, _, ?_, rfl, hc, h, fun v H1 q => ⟨_, rfl, q⟩⟩
    rintro cls d σ' H' ⟨b, e1, e2, e3⟩
    refine ⟨b, e1, fun hb a ha hl => ?_, fun hb => (e3 hb).elim⟩
    match σ', hl with
    | [x, y, z], _ => exact ⟨_, rfl, _, rfl, e2 hb a ha⟩
    | [], hl => simp at hl
    | [_], hl => simp at hl
    | [_, _], hl => simp at hl
    | _ :: _ :: _ :: _ :: _, hl => simp at hl
end K0

set_option Elab.async false
set_option linter.all false
set_option pp.maxSteps 700
set_option maxRecDepth 100000
set_option maxHeartbeats 2000000
namespace K0
open PySem PySem.Spec PyProof.Rows L2
open TL (tl)
/-! ### any value that the law makes, as data -/
inductive Dt where
  | non | bl (b : Bool) | int (i : Int) | str (s : Str) | lst (l : List Dt) | tup (l : List Dt) | dic
mutual
inductive DV (g : Addr) (H : Hp) : V → Dt → Prop
  | non : DV g H .non .non
  | bl (b : Bool) : DV g H (.bl b) (.bl b)
  | int (i : Int) : DV g H (.int i) (.int i)
  | str {s : Str} (h : s.length ≤ 1000) : DV g H (.str s) (.str s)
  | lst {a : Addr} {xs : List V} {ds : List Dt} (e : H a = some (.lst xs)) (n : a ≠ g) (h : ds.length ≤ 1000) (r : DVs g H xs ds) : DV g H (.ref a) (.lst ds)
  | tup {a : Addr} {xs : List V} {ds : List Dt} (e : H a = some (.tup xs)) (h : ds.length ≤ 1000) (r : DVs g H xs ds) : DV g H (.ref a) (.tup ds)
  | dic {a : Addr} (e : H a = some (.dK [])) : DV g H (.ref a) .dic
inductive DVs (g : Addr) (H : Hp) : List V → List Dt → Prop
  | nil : DVs g H [] []
  | cons {v : V} {vs : List V} {d : Dt} {ds : List Dt} (h : DV g H v d) (r : DVs g H vs ds) : DVs g H (v :: vs) (d :: ds)
end
structure Kv (g : Addr) (H H' : Hp) : Prop where
  lst : ∀ b xs, H b = some (.lst xs) → b ≠ g → H' b = some (.lst xs)
  tup : ∀ b xs, H b = some (.tup xs) → H' b = some (.tup xs)
  dic : ∀ b, H b = some (.dK []) → H' b = some (.dK [])
theorem Kv.of {g : Addr} {H H' : Hp} (s : Same H H') : Kv g H H' := ⟨fun b xs e _ => s _ _ e, fun b xs e => s _ _ e, fun b e => s _ _ e⟩
theorem Kv.trans {g : Addr} {H H1 H2 : Hp} (a : Kv g H H1) (b : Kv g H1 H2) : Kv g H H2 := ⟨fun c xs e n => b.lst _ _ (a.lst _ _ e n) n, fun c xs e => b.tup _ _ (a.tup _ _ e), fun c e => b.dic _ (a.dic _ e)⟩
theorem Kv.kp {g d c : Addr} {H H' : Hp} {n : Nat} (S : StA H d g c n) (k : Kp d g H H') : Kv g H H' := by
  obtain ⟨r, t, gs, cs, S⟩ := S
  refine ⟨fun b xs e n => k _ _ e (fun z => ?_) n, fun b xs e => k _ _ e (fun z => ?_) (fun z => ?_), fun b e => k _ _ e (fun z => ?_) (fun z => ?_)⟩
  · rw [z, S.dk] at e
    cases e
  · rw [z, S.dk] at e
    cases e
  · rw [z, S.gl] at e
    cases e
  · rw [z, S.dk] at e
    have q := Option.some.inj e
    unfold StKV at q
    cases q
  · rw [z, S.gl] at e
    cases e
mutual
theorem DV.keep {g : Addr} {H H' : Hp} (k : Kv g H H') : ∀ {v : V} {d : Dt}, DV g H v d → DV g H' v d
  | _, _, .non => .non
  | _, _, .bl b => .bl b
  | _, _, .int i => .int i
  | _, _, .str h => .str h
  | _, _, .lst e n h r => .lst (k.lst _ _ e n) n h (DVs.keep k r)
  | _, _, .tup e h r => .tup (k.tup _ _ e) h (DVs.keep k r)
  | _, _, .dic e => .dic (k.dic _ e)
theorem DVs.keep {g : Addr} {H H' : Hp} (k : Kv g H H') : ∀ {v : List V} {d : List Dt}, DVs g H v d → DVs g H' v d
  | _, _, .nil => .nil
  | _, _, .cons h r => .cons (DV.keep k h) (DVs.keep k r)
end
theorem DVs.len {g : Addr} {H : Hp} : ∀ {xs : List V} {ds : List Dt}, DVs g H xs ds → xs.length = ds.length
  | _, _, .nil => rfl
  | _, _, .cons _ r => congrArg (· + 1) r.len
theorem DVs.at_ {g : Addr} {H : Hp} : ∀ {xs : List V} {ds : List Dt}, DVs g H xs ds → ∀ {i : Nat} {v : V}, xs[i]? = some v → ∃ d, ds[i]? = some d ∧ DV g H v d
  | _, _, .nil, _, _, e => by cases e
  | _, _, .cons h r, 0, _, e => by
    obtain rfl := Option.some.inj e
    exact ⟨_, rfl, h⟩
  | _, _, .cons h r, i + 1, _, e => r.at_ (i := i) e
theorem DVs.at' {g : Addr} {H : Hp} : ∀ {xs : List V} {ds : List Dt}, DVs g H xs ds → ∀ {i : Nat} {d : Dt}, ds[i]? = some d → ∃ v, xs[i]? = some v ∧ DV g H v d
  | _, _, .nil, _, _, e => by cases e
  | _, _, .cons h r, 0, _, e => by
    obtain rfl := Option.some.inj e
    exact ⟨_, rfl, h⟩
  | _, _, .cons h r, i + 1, _, e => r.at' (i := i) e
theorem DVs.app {g : Addr} {H : Hp} : ∀ {xs ys : List V} {ds es : List Dt}, DVs g H xs ds → DVs g H ys es → DVs g H (xs ++ ys) (ds ++ es)
  | _, _, _, _, .nil, q => q
  | _, _, _, _, .cons h r, q => .cons h (r.app q)
def isStr : Dt → Bool | .str _ => true | _ => false
def isTup : Dt → Bool | .tup _ => true | _ => false
def isBl : Dt → Bool | .bl _ => true | _ => false
def isInt : Dt → Bool | .int _ => true | _ => false
theorem DV.ty {K : PySem.W.Frag} {g : Addr} {H : Hp} {v : V} {d : Dt} (h : DV g H v d) : ∃ t, TyX K H v t ∧ PySem.W.kitOne K t (.type "str") = some (isStr d) ∧ PySem.W.kitOne K t (.type "tuple") = some (isTup d) ∧
    PySem.W.kitOne K t (.type "bool") = some (isBl d) ∧ PySem.W.kitOne K t (.type "int") = some (isInt d || isBl d) := by
  cases h with
  | non => exact ⟨_, .base .non, kit_ty (show kitB "NoneType" "str" = some false by decide +kernel), kit_ty (show kitB "NoneType" "tuple" = some false by decide +kernel), kit_ty (show kitB "NoneType" "bool" = some false by decide +kernel), kit_ty (show kitB "NoneType" "int" = some false by decide +kernel)⟩
  | bl b => exact ⟨_, .base (.bl _), kit_ty (show kitB "bool" "str" = some false by decide +kernel), kit_ty (show kitB "bool" "tuple" = some false by decide +kernel), kit_ty (show kitB "bool" "bool" = some true by decide +kernel), kit_ty (show kitB "bool" "int" = some true by decide +kernel)⟩
  | int i => exact ⟨_, .base (.int _), kit_ty (show kitB "int" "str" = some false by decide +kernel), kit_ty (show kitB "int" "tuple" = some false by decide +kernel), kit_ty (show kitB "int" "bool" = some false by decide +kernel), kit_ty (show kitB "int" "int" = some true by decide +kernel)⟩
  | str h => exact ⟨_, .base (.str _), kit_ty (show kitB "str" "str" = some true by decide +kernel), kit_ty (show kitB "str" "tuple" = some false by decide +kernel), kit_ty (show kitB "str" "bool" = some false by decide +kernel), kit_ty (show kitB "str" "int" = some false by decide +kernel)⟩
  | lst e n h r => exact ⟨_, .base (.lst e), kit_ty (show kitB "list" "str" = some false by decide +kernel), kit_ty (show kitB "list" "tuple" = some false by decide +kernel), kit_ty (show kitB "list" "bool" = some false by decide +kernel), kit_ty (show kitB "list" "int" = some false by decide +kernel)⟩
  | tup e h r => exact ⟨_, .base (.tup e), kit_ty (show kitB "tuple" "str" = some false by decide +kernel), kit_ty (show kitB "tuple" "tuple" = some true by decide +kernel), kit_ty (show kitB "tuple" "bool" = some false by decide +kernel), kit_ty (show kitB "tuple" "int" = some false by decide +kernel)⟩
  | dic e => exact ⟨_, .base (.dK e), kit_ty (show kitB "dict" "str" = some false by decide +kernel), kit_ty (show kitB "dict" "tuple" = some false by decide +kernel), kit_ty (show kitB "dict" "bool" = some false by decide +kernel), kit_ty (show kitB "dict" "int" = some false by decide +kernel)⟩
/-! ### any value == a text -/
section
open PySem.SeqAt
variable {s : Shared}
theorem dict_eq_str_no (l : Addr) (c : Value) (es : Array DictEntry) (n : Nat) (dd : Option Addr) (sl : Array (Option Value)) (b : Str) (u : PySem.Tok) :
    Meets (Builtin.«dict.__eq__» ⟨[.ref l, .str b u], []⟩) (fun _ R s => c = .type "dict" ∧ s.heap.get? l = some { cls := c, dict := dd, data := .dict es n, slots := sl } ∧ R (.ok (.ret .notImplemented)) s) :=
  .of_wp fun prog w A R s h => by obtain ⟨hp, g, d, tk, os⟩ := s; obtain ⟨rfl, ho, h⟩ := h; have f1 := PySem.F.sub_str_dict; wp_walk using wpAny_loadPart' ho; exact ⟨_, rfl, h⟩
theorem str_eq_dict_no (b : Str) (u : PySem.Tok) (l : Addr) (c : Value) (es : Array DictEntry) (n : Nat) (dd : Option Addr) (sl : Array (Option Value)) :
    Meets (Builtin.«str.__eq__» ⟨[.str b u, .ref l], []⟩) (fun _ R s => s.heap.get? l = some { cls := c, dict := dd, data := .dict es n, slots := sl } ∧ R (.ok (.ret .notImplemented)) s) :=
  .of_wp fun prog w A R s h => by obtain ⟨hp, g, d, tk, os⟩ := s; obtain ⟨ho, h⟩ := h; wp_walk using wpAny_loadPart' ho, wpAny_load ho; exact ⟨_, rfl, h⟩
theorem rc_dict_str {A : Around} {l : Addr} {c : Value} {es : Array DictEntry} {n : Nat} {dd : Option Addr} {sl : Array (Option Value)} (b : Str) (u : PySem.Tok) (hc : c = .type "dict") (ho : s.heap.get? l = some { cls := c, dict := dd, data := .dict es n, slots := sl }) (hu : A.units < cLine) :
    RcAt A s (.ref l) (.str b u) false := by
  intro prog w E Q h
  exact rc_eq_decline_or (k := false) ⟨_, ho, hc⟩ (typeIs_str s b u) (by decide) PySem.F.sub_str_dict PySem.F.slot_dict_eq PySem.F.slot_str_eq_refl
    (fun _ q => call_meets PySem.F.slot_dict_eq ⟨_, ho, hc⟩ PySem.F.entry_dict_eq (PySem.F.args_dict_eq_2 _ _) (dict_eq_str_no l c es n dd sl b u) ⟨hc, ho, q⟩)
    (fun _ q => call_meets PySem.F.slot_str_eq_refl (typeIs_str s b u) PySem.F.entry_str_eq (PySem.F.args_str_eq_2 _ _) (str_eq_dict_no b u l c es n dd sl) ⟨ho, q⟩)
    (fun _ q => wpAny_of_eq (rfl : isSame (.ref l) (.str b u) = pure false) q) (.inr hu) h
end
def eqS (d : Dt) (z : Str) : Bool := match d with
  | .str s => s == z
  | _ => false
section
variable {X : Cx}
theorem op_eqS (hu : X.A.units + 64 < cLine) : OpR X (compareOp .Eq) (fun x y H Q => ∃ (g : Addr) (d : Dt) (z : Str), y = .str z ∧ DV g H x d ∧ Q (.bl (eqS d z)) H) := by
  intro pins s σ H x y v u Q I rx ry h
  obtain ⟨g, d, z, rfl, hd, q⟩ := h
  obtain ⟨tz, rfl⟩ := (show ∃ t, u = Value.str z t from ry)
  have hu' : X.A.units < cLine := by omega
  cases hd with
  | non =>
    cases (show v = Value.none from rx)
    exact SeqAt.RcAt.none_str z tz _ _ _ _ (fin_bl I q rfl)
  | bl b =>
    cases (show v = Value.bool b from rx)
    exact SeqAt.RcAt.bool_str b z tz _ _ _ _ (fin_bl I q rfl)
  | int i =>
    obtain ⟨ti, rfl⟩ := (show ∃ t, v = Value.int i t from rx)
    exact SeqAt.RcAt.int_str i ti z tz _ _ _ _ (fin_bl I q rfl)
  | @str b hb =>
    obtain ⟨ti, rfl⟩ := (show ∃ t, v = Value.str b t from rx)
    exact SeqAt.RcAt.str_str b ti z tz _ _ _ _ (fin_bl I q rfl)
  | @lst a xs ds e n h r =>
    cases (show v = Value.ref a from rx)
    obtain ⟨us, r1, p1, _⟩ := I.list (SqL.of e : SqL X.K H a xs)
    exact SeqAt.RcAt.list_str z tz p1.isList hu' _ _ _ _ (fin_bl I q rfl)
  | @tup a xs ds e h r =>
    cases (show v = Value.ref a from rx)
    obtain ⟨us, r1, p1, _⟩ := I.tuple (SqT.of e : SqT X.K H a xs)
    exact SeqAt.RcAt.tuple_str z tz p1 hu' _ _ _ _ (fin_bl I q rfl)
  | @dic a e =>
    cases (show v = Value.ref a from rx)
    obtain ⟨_, _, _, _, o, es, ep, ho, hx, hd, _⟩ := (show ObjOk X.prog X.w H s.heap a (.dK []) from I.hok a _ e)
    obtain ⟨oc, od, odt, osl⟩ := o
    cases (show odt = .dict es ep from hd)
    exact rc_dict_str z tz hx.1 ho hu' _ _ _ _ (fin_bl I q rfl)
end
end K0

set_option Elab.async false
set_option linter.all false
set_option pp.maxSteps 700
set_option maxRecDepth 100000
set_option maxHeartbeats 2000000
namespace K0
open PySem PySem.Spec PyProof.Rows L2
open TL (tl)
abbrev sWhl : Stmt := top 4
abbrev sWin : Stmt := top 5
abbrev sTof : Stmt := top 6
abbrev sTin : Stmt := top 7
abbrev sDbl : Stmt := top 8
abbrev sNm : Stmt := top 18
abbrev sPl : Stmt := top 19
/-! ### what the document calls a name -/
def isLet (c : Nat) : Bool := decide (c ∈ L26.cps.toList)
def isSgn (c : Nat) : Bool := isLet c || decide (c ∈ D10.cps.toList)
def nameS (s : Str) : Bool := (decide (1 ≤ s.length) && decide (s.length ≤ 8)) && (isLet ((tl s).getD 0 0) && ((tl s).all isSgn && !decide (s ∈ wds)))
def nameB : Dt → Bool | .str s => nameS s | _ => false
def plainS (s : Str) : Bool := s == "number" || s == "truth"
def plainB : Dt → Bool | .str s => plainS s | _ => false
def lenIs (n : Nat) : Dt → Bool | .tup l => decide (l.length = n) | _ => false
def lenIn (lo hi : Int) : Dt → Bool | .tup l => decide (lo ≤ (l.length : Int)) && decide ((l.length : Int) ≤ hi) | _ => false
def intIn (lo hi : Int) : Dt → Bool | .int i => decide (lo ≤ i) && decide (i ≤ hi) | _ => false
/-- a question about any value -/
def spAsk (f : Dt → Bool) : Sp := fun vs H Q _ => ∃ (g : Addr) (v : V) (d : Dt), vs = [v] ∧ DV g H v d ∧ ∀ H', Same H H' → Q (.bl (f d)) H'
def spWin : Sp := fun vs H Q _ => ∃ (g : Addr) (v : V) (d : Dt) (lo hi : Int), vs = [v, .int lo, .int hi] ∧ DV g H v d ∧ ∀ H', Same H H' → Q (.bl (intIn lo hi d)) H'
def spTof : Sp := fun vs H Q _ => ∃ (g : Addr) (v : V) (d : Dt) (n : Nat), vs = [v, .int (n : Nat)] ∧ DV g H v d ∧ ∀ H', Same H H' → Q (.bl (lenIs n d)) H'
def spTin : Sp := fun vs H Q _ => ∃ (g : Addr) (v : V) (d : Dt) (lo hi : Int), vs = [v, .int lo, .int hi] ∧ DV g H v d ∧ ∀ H', Same H H' → Q (.bl (lenIn lo hi d)) H'
def spDbl (K : PySem.W.Frag) : Sp := fun vs H Q _ => ∃ (a : Addr) (xs : List Str), vs = [.ref a] ∧ SqL K H a (xs.map V.str) ∧ xs.length < 1000 ∧ ∀ H', Same H H' → Q (.bl (!decide xs.Nodup)) H'
structure MgP (K : PySem.W.Frag) (mg : Str → Option Value) (fWhl : Addr) : Prop where
  whl : mg "is_whole" = some (.ref fWhl)
  kwhl : PySem.W.keepIn K (.ref fWhl) = true
  lett : ∃ t, mg "LETTERS" = some (.str L26 t)
  digt : ∃ t, mg "DIGITS" = some (.str D10 t)
  resv : ∃ a, mg "RESERVED" = some (.ref a) ∧ ∀ H, SqT K H a (wds.map V.str)
  msig : ∃ t, mg "MOST_SIGNS" = some (.int 8 t)
  isi : mg "isinstance" = none
  len : mg "len" = none
  str : mg "str" = none
  int : mg "int" = none
  bol : mg "bool" = none
  tpl : mg "tuple" = none
  all : mg "all" = none
  set : mg "set" = none
section
variable {P : Program} {w : World} {K : PySem.W.Frag} {mg : Str → Option Value} {base : Heap}
theorem scWhl : FnScope ["value"] ["value"] (defScope sWhl) := ⟨rfl, rfl, rfl, by decide +kernel, rfl, by decide +kernel, by decide +kernel⟩
theorem ok_whl {f fW : Addr} {fd : FuncData} (F : Fun K "is_whole" "is_whole" sWhl f fd) (T : MgP K mg fW) : FnOk P w K mg base CX0 1 f fd ["value"] (spAsk isInt) := by
  refine F.ok scWhl (fun vs H Q E h => ?_) (fun cdv A outer s H vs Q E hr h => ?_)
  · obtain ⟨g, v, d, rfl, _⟩ := h
    rfl
  · obtain ⟨g, v, d, rfl, hd, k⟩ := h
    obtain ⟨t, ht, k1, k2, k3, k4⟩ := hd.ty (K := K)
    refine ⟨_, pss_one (ps_ret (pe_and (pe_callB call_isi (by rfl) T.isi (by decide +kernel) (pa_cons (pv 0) (pa_cons (pe_bltn (v := .ty "int") (by rfl) T.int boot_int rfl) pa_nil)))
      (pe_one (pe_not (pe_callB call_isi (by rfl) T.isi (by decide +kernel) (pa_cons (pv 0) (pa_cons (pe_bltn (v := .ty "bool") (by rfl) T.bol boot_bool rfl) pa_nil))))))), ?_⟩
    refine ⟨_, rfl, _, _, _, _, _, rfl, .ty "int", ht, k4, _, rfl, ?_⟩
    cases d with
    | int i => exact iteT ⟨_, rfl, _, _, _, _, _, rfl, .ty "bool", ht, k3, _, rfl, k H (Same.refl H)⟩
    | bl b => exact iteT ⟨_, rfl, _, _, _, _, _, rfl, .ty "bool", ht, k3, _, rfl, k H (Same.refl H)⟩
    | non => exact iteF (k H (Same.refl H))
    | str s => exact iteF (k H (Same.refl H))
    | lst l => exact iteF (k H (Same.refl H))
    | tup l => exact iteF (k H (Same.refl H))
    | dic => exact iteF (k H (Same.refl H))
theorem scWin : FnScope ["value", "low", "high"] ["value", "low", "high"] (defScope sWin) := ⟨rfl, rfl, rfl, by decide +kernel, rfl, by decide +kernel, by decide +kernel⟩
theorem ok_win {f fW : Addr} {fd fdW : FuncData} (F : Fun K "is_within" "is_within" sWin f fd) (T : MgP K mg fW) (FW : Fun K "is_whole" "is_whole" sWhl fW fdW) (bW : L2.Binds K fdW ["value"] []) : FnOk P w K mg base CX0 2 f fd ["value", "low", "high"] spWin := by
  have GW : FnOk P w K mg base CX0 1 fW fdW ["value"] (spAsk isInt) := ok_whl FW T
  refine F.ok scWin (fun vs H Q E h => ?_) (fun cdv A outer s H vs Q E hr h => ?_)
  · obtain ⟨g, v, d, lo, hi, rfl, _⟩ := h
    rfl
  · obtain ⟨g, v, d, lo, hi, rfl, hd, k⟩ := h
    refine ⟨_, pss_one (ps_ret (pe_and (pe_call GW hr (by rfl) T.whl T.kwhl bW .nil pass0 (pa_cons (pv 0) pa_nil)) (pe_one (pe_chain op_le op_le (pv 1) (pv 0) (pv 2))))), ?_⟩
    refine ⟨_, rfl, g, v, d, rfl, hd, fun H' s => ⟨_, rfl, ?_⟩⟩
    cases hd with
    | int i =>
      refine iteT ⟨_, rfl, _, rfl, _, _, rfl, rfl, _, rfl, ?_⟩
      have e : intIn lo hi (.int i) = (decide (lo ≤ i) && decide (i ≤ hi)) := rfl
      by_cases h1 : lo ≤ i
      · rw [decide_eq_true h1] at e ⊢
        refine iteT ⟨_, rfl, _, _, rfl, rfl, ?_⟩
        have q := k H' s
        rw [e] at q
        exact q
      · rw [decide_eq_false h1] at e ⊢
        refine iteF ?_
        have q := k H' s
        rw [e] at q
        exact q
    | bl b => exact iteF (k H' s)
    | non => exact iteF (k H' s)
    | str z => exact iteF (k H' s)
    | lst _ _ _ _ => exact iteF (k H' s)
    | tup _ _ _ => exact iteF (k H' s)
    | dic _ => exact iteF (k H' s)
theorem scTof : FnScope ["value", "many"] ["value", "many"] (defScope sTof) := ⟨rfl, rfl, rfl, by decide +kernel, rfl, by decide +kernel, by decide +kernel⟩
theorem ok_tof {f fW : Addr} {fd : FuncData} (F : Fun K "is_tuple_of" "is_tuple_of" sTof f fd) (T : MgP K mg fW) : FnOk P w K mg base CX0 1 f fd ["value", "many"] spTof := by
  refine F.ok scTof (fun vs H Q E h => ?_) (fun cdv A outer s H vs Q E hr h => ?_)
  · obtain ⟨g, v, d, n, rfl, _⟩ := h
    rfl
  · obtain ⟨g, v, d, n, rfl, hd, k⟩ := h
    obtain ⟨t, ht, k1, k2, k3, k4⟩ := hd.ty (K := K)
    refine ⟨_, pss_one (ps_ret (pe_and (pe_callB call_isi (by rfl) T.isi (by decide +kernel) (pa_cons (pv 0) (pa_cons (pe_bltn (v := .ty "tuple") (by rfl) T.tpl boot_tuple rfl) pa_nil)))
      (pe_one (pe_cmpR op_eq (pe_callB call_len_seq (by rfl) T.len PySem.boot_len (pa_cons (pv 0) pa_nil)) (pv 1) (nomark _))))), ?_⟩
    refine ⟨_, rfl, _, _, _, _, _, rfl, .ty "tuple", ht, k2, _, rfl, ?_⟩
    cases hd with
    | @tup a xs ds e h r =>
      refine iteT ⟨_, rfl, a, xs, rfl, .inr (SqT.of e), _, rfl, rfl, ?_⟩
      have q := k H (Same.refl H)
      have e2 : decide (V.int (xs.length : Nat) = V.int (n : Nat)) = lenIs n (.tup ds) := by
        rw [r.len]
        show _ = decide (ds.length = n)
        rw [decide_eq_decide]
        exact ⟨fun z => by injection z with z; omega, fun z => by rw [z]⟩
      rw [e2]
      exact q
    | int i => exact iteF (k H (Same.refl H))
    | bl b => exact iteF (k H (Same.refl H))
    | non => exact iteF (k H (Same.refl H))
    | str z => exact iteF (k H (Same.refl H))
    | lst _ _ _ _ => exact iteF (k H (Same.refl H))
    | dic _ => exact iteF (k H (Same.refl H))
theorem scTin : FnScope ["value", "low", "high"] ["value", "low", "high"] (defScope sTin) := ⟨rfl, rfl, rfl, by decide +kernel, rfl, by decide +kernel, by decide +kernel⟩
theorem ok_tin {f fW : Addr} {fd : FuncData} (F : Fun K "is_tuple_within" "is_tuple_within" sTin f fd) (T : MgP K mg fW) : FnOk P w K mg base CX0 1 f fd ["value", "low", "high"] spTin := by
  refine F.ok scTin (fun vs H Q E h => ?_) (fun cdv A outer s H vs Q E hr h => ?_)
  · obtain ⟨g, v, d, lo, hi, rfl, _⟩ := h
    rfl
  · obtain ⟨g, v, d, lo, hi, rfl, hd, k⟩ := h
    obtain ⟨t, ht, k1, k2, k3, k4⟩ := hd.ty (K := K)
    refine ⟨_, pss_one (ps_ret (pe_and (pe_callB call_isi (by rfl) T.isi (by decide +kernel) (pa_cons (pv 0) (pa_cons (pe_bltn (v := .ty "tuple") (by rfl) T.tpl boot_tuple rfl) pa_nil)))
      (pe_one (pe_chain op_le op_le (pv 1) (pe_callB call_len_seq (by rfl) T.len PySem.boot_len (pa_cons (pv 0) pa_nil)) (pv 2))))), ?_⟩
    refine ⟨_, rfl, _, _, _, _, _, rfl, .ty "tuple", ht, k2, _, rfl, ?_⟩
    cases hd with
    | @tup a xs ds e h r =>
      refine iteT ⟨_, rfl, _, rfl, a, xs, rfl, .inr (SqT.of e), _, _, rfl, rfl, _, rfl, ?_⟩
      have q := k H (Same.refl H)
      have e2 : lenIn lo hi (.tup ds) = (decide (lo ≤ (xs.length : Int)) && decide ((xs.length : Int) ≤ hi)) := by
        rw [r.len]
        rfl
      rw [e2] at q
      by_cases h1 : lo ≤ (xs.length : Int)
      · rw [decide_eq_true h1] at q ⊢
        exact iteT ⟨_, rfl, _, _, rfl, rfl, q⟩
      · rw [decide_eq_false h1] at q ⊢
        exact iteF q
    | int i => exact iteF (k H (Same.refl H))
    | bl b => exact iteF (k H (Same.refl H))
    | non => exact iteF (k H (Same.refl H))
    | str z => exact iteF (k H (Same.refl H))
    | lst _ _ _ _ => exact iteF (k H (Same.refl H))
    | dic _ => exact iteF (k H (Same.refl H))
theorem scDbl : FnScope ["rows"] ["rows"] (defScope sDbl) := ⟨rfl, rfl, rfl, by decide +kernel, rfl, by decide +kernel, by decide +kernel⟩
theorem ok_dbl {f fW : Addr} {fd : FuncData} (F : Fun K "has_doubles" "has_doubles" sDbl f fd) (T : MgP K mg fW) : FnOk P w K mg base CX0 1 f fd ["rows"] (spDbl K) := by
  refine F.ok scDbl (fun vs H Q E h => ?_) (fun cdv A outer s H vs Q E hr h => ?_)
  · obtain ⟨a, xs, rfl, _⟩ := h
    rfl
  · obtain ⟨a, xs, rfl, hS, few, k⟩ := h
    refine ⟨_, pss_one (ps_ret (pe_cmpR op_lt (pe_lenTxts rfl (by rfl) T.len (by rfl) T.set (pv 0)) (pe_callB call_len_seq (by rfl) T.len PySem.boot_len (pa_cons (pv 0) pa_nil)) (nomark _))), ?_⟩
    refine ⟨_, rfl, a, xs, rfl, hS, few, _, rfl, a, _, rfl, .inl hS, _, _, rfl, rfl, ?_⟩
    have q := k H (Same.refl H)
    rw [← met_dup xs] at q
    have e : decide (((met xs).length : Int) < ((xs.map V.str).length : Int)) = decide ((met xs).length < xs.length) := by
      rw [List.length_map, decide_eq_decide]
      omega
    show Q (.bl (decide (((met xs).length : Int) < ((xs.map V.str).length : Int)))) H
    rw [e]
    exact q
theorem scPl : FnScope ["value"] ["value"] (defScope sPl) := ⟨rfl, rfl, rfl, by decide +kernel, rfl, by decide +kernel, by decide +kernel⟩
theorem two_str {s a b : Str} : inV (.str s) [.str a, .str b] = (s == a || s == b) := by
  show ((a == s) || ((b == s) || false)) = _
  rw [Bool.or_false, Bool.beq_comm (a := a), Bool.beq_comm (a := b)]
theorem ok_pl {f fW : Addr} {fd : FuncData} (F : Fun K "is_plain" "is_plain" sPl f fd) (T : MgP K mg fW) : FnOk P w K mg base CX0 1 f fd ["value"] (spAsk plainB) := by
  refine F.ok scPl (fun vs H Q E h => ?_) (fun cdv A outer s H vs Q E hr h => ?_)
  · obtain ⟨g, v, d, rfl, _⟩ := h
    rfl
  · obtain ⟨g, v, d, rfl, hd, k⟩ := h
    obtain ⟨t, ht, k1, k2, k3, k4⟩ := hd.ty (K := K)
    refine ⟨_, pss_one (ps_ret (pe_and (pe_callB call_isi (by rfl) T.isi (by decide +kernel) (pa_cons (pv 0) (pa_cons (pe_bltn (v := .ty "str") (by rfl) T.str boot_str rfl) pa_nil)))
      (pe_one (pe_cmpR op_in_seq (pv 0) (pe_tup (pa_cons pe_str (pa_cons pe_str pa_nil))) (by rfl))))), ?_⟩
    refine ⟨_, rfl, _, _, _, _, _, rfl, .ty "str", ht, k1, _, rfl, ?_⟩
    cases hd with
    | @str z h =>
      refine iteT ⟨_, rfl, (by show 2 ≤ sizeLine; decide), fun p hp => ⟨p, _, rfl, .inr (SqT.of upd_same), rfl, rfl, ?_⟩⟩
      have q := k _ (same_new (o := .tup [V.str "number", V.str "truth"]) hp)
      have e : inV (.str z) [.str "number", .str "truth"] = plainB (.str z) := two_str
      rw [← e] at q
      exact q
    | tup _ _ _ => exact iteF (k H (Same.refl H))
    | int i => exact iteF (k H (Same.refl H))
    | bl b => exact iteF (k H (Same.refl H))
    | non => exact iteF (k H (Same.refl H))
    | lst _ _ _ _ => exact iteF (k H (Same.refl H))
    | dic _ => exact iteF (k H (Same.refl H))
end
end K0

set_option Elab.async false
set_option linter.all false
set_option pp.maxSteps 700
set_option maxRecDepth 100000
set_option maxHeartbeats 2000000
namespace K0
open PySem PySem.Spec PyProof.Rows L2
open TL (tl)
section
variable {P : Program} {w : World} {K : PySem.W.Frag} {mg : Str → Option Value} {base : Heap}
theorem scNm : FnScope ["value", "sign"] ["value"] (defScope sNm) := ⟨rfl, rfl, rfl, by decide +kernel, rfl, by decide +kernel, by decide +kernel⟩
theorem first_sign {s : Str} (h : 1 ≤ s.length) : atI s.cps.toList 0 = some ((tl s).getD 0 0) := by
  rw [TL.len_tl] at h
  have e : (tl s)[0]? = some ((tl s).getD 0 0) := by
    rw [List.getD_eq_getElem?_getD, List.getElem?_eq_getElem (by omega)]
    rfl
  exact atI_nat (j := 0) e
theorem all_take {l : List Nat} {f : Nat → Bool} : (l.map f).all id = l.all f := by
  induction l with
  | nil => rfl
  | cons x l ih => rw [List.map_cons, List.all_cons, List.all_cons, ih]; rfl
theorem ok_nm {f fW : Addr} {fd : FuncData} (F : Fun K "is_name" "is_name" sNm f fd) (T : MgP K mg fW) : FnOk P w K mg base CX0 1 f fd ["value"] (spAsk nameB) := by
  refine F.ok scNm (fun vs H Q E h => ?_) (fun cdv A outer s H vs Q E hr h => ?_)
  · obtain ⟨g, v, d, rfl, _⟩ := h
    rfl
  · obtain ⟨g, v, d, rfl, hd, k⟩ := h
    obtain ⟨t, ht, k1, k2, k3, k4⟩ := hd.ty (K := K)
    obtain ⟨tL, eL⟩ := T.lett
    obtain ⟨tD, eD⟩ := T.digt
    obtain ⟨tS, eS⟩ := T.msig
    obtain ⟨aR, eR, hR⟩ := T.resv
    refine ⟨_, pss_cons (ps_if (PW.pt (pw_or (pt_not (pt_val (pe_callB call_isi (by rfl) T.isi (by decide +kernel) (pa_cons (pv 0) (pa_cons (pe_bltn (v := .ty "str") (by rfl) T.str boot_str rfl) pa_nil)))))
        (pw_or (pt_not (pt_chain op_le op_le pe_int (pe_callB call_len_str (by rfl) T.len PySem.boot_len (pa_cons (pv 0) pa_nil)) (pe_glob (v := .int 8) (by rfl) eS ⟨_, rfl⟩)))
          (pw_or1 (pt_cmpR op_notIn_sign (pe_ix ix_str (pv 0) pe_int (fun _ _ => rfl)) (pe_glob (v := .str L26) (by rfl) eL ⟨_, rfl⟩) (by rfl))))))
        (pss_one (ps_ret pe_bl)) pss_nil)
      (pss_one (ps_ret (pe_and (pe_callB (cr_all rfl) (by rfl) T.all (by decide +kernel) (pa_cons (pe_lc (own := [("sign", 1)]) (g := gName 1) (tt := tYes) (by rfl) scNm.nd (pi_str (pv 0))
          (blkOk_by (own := [("sign", 1)]) (N := ["value", "sign"]) (sc := defScope sNm) (by decide +kernel)) (fun _ _ _ _ _ => pg_name (i := 1) scNm.nd rfl (Or.inl rfl)) (fun _ _ _ _ _ => pts_nil)
          (fun _ _ _ _ _ => pe_or (pe_cmpR op_in_sign (pv 1) (pe_glob (v := .str L26) (by rfl) eL ⟨_, rfl⟩) (by rfl)) (pe_one (pe_cmpR op_in_sign (pv 1) (pe_glob (v := .str D10) (by rfl) eD ⟨_, rfl⟩) (by rfl))))) pa_nil))
        (pe_one (pe_cmpR op_notIn_seq (pv 0) (pe_glob (v := .ref aR) (by rfl) eR rfl) (by rfl)))))), ?_⟩
    refine ⟨_, rfl, _, _, _, _, _, rfl, .ty "str", ht, k1, _, rfl, ?_⟩
    cases hd with
    | @str z hz =>
      refine iteF ?_
      have zs : z.length ≤ sizeLine := by rw [sizeLine_eq]; omega
      refine ⟨_, rfl, z, rfl, zs, _, _, rfl, rfl, _, rfl, ?_⟩
      have q := k
      by_cases h1 : 1 ≤ z.length
      · refine ifT (decide_eq_true (by omega)) ?_
        refine ⟨_, _, rfl, rfl, _, rfl, ?_⟩
        by_cases h2 : z.length ≤ 8
        · rw [decide_eq_true (show (z.length : Int) ≤ 8 by omega)]
          refine iteF ?_
          refine ⟨_, rfl, z, 0, _, rfl, rfl, zs, first_sign h1, _, _, rfl, rfl, _, rfl, ?_⟩
          have e0 : nameS z = (isLet ((tl z).getD 0 0) && ((tl z).all isSgn && !decide (z ∈ wds))) := by
            unfold nameS
            rw [decide_eq_true h1, decide_eq_true h2]
            rfl
          cases h3 : isLet ((tl z).getD 0 0) with
          | false =>
            refine ifT (by show (!isLet _) = true; rw [h3]; rfl) ?_
            rw [h3] at e0
            have q1 := q H (Same.refl H)
            rw [show nameB (.str z) = false from e0] at q1
            exact q1
          | true =>
            refine ifF (by show (!isLet _) = false; rw [h3]; rfl) ?_
            rw [h3] at e0
            -- all(..)
            refine ⟨_, rfl, z, rfl, fun D hD => lc_it walk_str (fun i H' => H' D = some (.lst (((tl z).take i).map (fun c => V.bl (isSgn c)))) ∧ Same H H') ⟨upd_same, same_new hD⟩ (fun _ _ _ _ => True.intro) ?_ ?_⟩
            · rintro i x H1 H1' hi ⟨h4, s1⟩ ⟨rfl, c, hc, rfl⟩
              refine ⟨rfl, ?_⟩
              have fin : ∀ b, b = isSgn c → ∃ acc, H1' D = some (.lst acc) ∧ acc.length < sizeLine ∧ (upd H1' D (.lst (acc ++ [V.bl b]))) D = some (.lst (((tl z).take (i + 1)).map (fun c => V.bl (isSgn c)))) ∧ Same H (upd H1' D (.lst (acc ++ [V.bl b]))) := by
                intro b hb
                refine ⟨_, h4, ?_, ?_, ?_⟩
                · have := TL.len_tl z
                  rw [List.length_map, List.length_take, sizeLine_eq]
                  omega
                · rw [upd_same, hb]
                  have hc' : (tl z)[i]? = some c := by
                    rw [← hc, ← Array.getElem?_toList]
                  rw [List.take_succ, hc', List.map_append]
                  rfl
                · intro b' o e
                  rw [upd_ne (ne_of_none e hD)]
                  exact s1 _ _ e
              refine ⟨_, rfl, c, _, rfl, rfl, _, rfl, ?_⟩
              cases h5 : isLet c with
              | true =>
                refine ifT h5 ?_
                exact fin true (by unfold isSgn; rw [h5]; rfl)
              | false =>
                refine ifF h5 ?_
                refine ⟨_, rfl, c, _, rfl, rfl, ?_⟩
                exact fin _ (by unfold isSgn; rw [h5]; rfl)
            · rintro H1 ⟨h4, s1⟩
              have e1 : (tl z).take z.cps.size = tl z := by
                have : (tl z).length = z.cps.size := Array.length_toList
                rw [← this, List.take_length]
              rw [e1] at h4
              refine ⟨D, (tl z).map isSgn, rfl, SqL.of (by rw [List.map_map]; exact h4), _, rfl, ?_⟩
              rw [all_take]
              have q1 := q H1 s1
              rw [show nameB (.str z) = (true && ((tl z).all isSgn && !decide (z ∈ wds))) from e0] at q1
              cases h6 : (tl z).all isSgn with
              | false =>
                rw [h6] at q1
                exact iteF q1
              | true =>
                rw [h6] at q1
                refine iteT ⟨_, rfl, aR, _, rfl, .inr (hR _), rfl, wds_flat, ?_⟩
                show Q (.bl (!inV (.str z) (wds.map V.str))) H1
                rw [inV_str]
                exact q1
        · rw [decide_eq_false (show ¬ (z.length : Int) ≤ 8 by omega)]
          refine iteT ?_
          have q1 := q H (Same.refl H)
          have e0 : nameB (.str z) = false := by
            show nameS z = false
            unfold nameS
            rw [decide_eq_false h2, Bool.and_false]
            rfl
          rw [e0] at q1
          exact q1
      · refine ifF (decide_eq_false (by omega)) ?_
        refine ⟨_, rfl, iteT ?_⟩
        have q1 := q H (Same.refl H)
        have e0 : nameB (.str z) = false := by
          show nameS z = false
          unfold nameS
          rw [decide_eq_false h1]
          rfl
        rw [e0] at q1
        exact q1
    | tup _ _ _ => exact iteT (k H (Same.refl H))
    | int i => exact iteT (k H (Same.refl H))
    | bl b => exact iteT (k H (Same.refl H))
    | non => exact iteT (k H (Same.refl H))
    | lst _ _ _ _ => exact iteT (k H (Same.refl H))
    | dic _ => exact iteT (k H (Same.refl H))
end
end K0

set_option Elab.async false
set_option linter.all false
set_option pp.maxSteps 700
set_option maxRecDepth 100000
set_option maxHeartbeats 2000000
namespace K0
open PySem PySem.Spec PyProof.Rows L2
open TL (tl)
abbrev sKd : Stmt := top 20
abbrev sFm : Stmt := top 21
abbrev sFl : Stmt := top 22
abbrev sWc : Stmt := top 23
abbrev sWo : Stmt := top 24
abbrev sNk : Stmt := top 25
/-! ### what the document calls a kind -/
def pairF (f : Dt → Bool) : Dt → Bool
  | .tup [x, y] => nameB x && f y
  | _ => false
def nmOf : Dt → Str
  | .tup [.str s, _] => s
  | _ => ""
def fieldsF (f : Dt → Bool) : Dt → Bool
  | .tup l => (decide (1 ≤ (l.length : Int)) && decide ((l.length : Int) ≤ 6)) && (l.all (pairF f) && decide (l.map nmOf).Nodup)
  | _ => false
def form2 (fl fm : Dt → Bool) : List Dt → Bool
  | [x, y] => eqS x "record" && fl y
  | [x, y, z] => eqS x "row" && (intIn 1 64 y && fm z)
  | _ => false
def formed : Nat → Dt → Bool
  | _, .str s => plainS s
  | n + 2, .tup l => form2 (fieldsF (formed (n + 1))) (formed (n + 1)) l
  | _, _ => false
def sndW (f : Dt → Int) : Dt → Int
  | .tup [_, z] => f z
  | _ => 0
def sumW (f : Dt → Int) : Dt → Int
  | .tup l => (l.map (sndW f)).sum
  | _ => 0
def intOf : Dt → Int
  | .int i => i
  | _ => 0
def words2 (w : Dt → Int) : List Dt → Int
  | [_, y] => sumW w y
  | [_, y, z] => intOf y * w z
  | _ => 0
def wordsN : Nat → Dt → Int
  | n + 2, .tup l => words2 (wordsN (n + 1)) l
  | _, _ => 1
theorem formed_one (l : List Dt) : formed 1 (.tup l) = false := rfl
theorem formed_two (n : Nat) (l : List Dt) : formed (n + 2) (.tup l) = form2 (fieldsF (formed (n + 1))) (formed (n + 1)) l := rfl
theorem formed_str (n : Nat) (s : Str) : formed n (.str s) = plainS s := by
  cases n with
  | zero => rfl
  | succ n => cases n <;> rfl
theorem words_two (n : Nat) (l : List Dt) : wordsN (n + 2) (.tup l) = words2 (wordsN (n + 1)) l := rfl
theorem words_str (n : Nat) (s : Str) : wordsN n (.str s) = 1 := by
  cases n with
  | zero => rfl
  | succ n => cases n <;> rfl
theorem formed_other {n : Nat} {d : Dt} (h1 : isStr d = false) (h2 : isTup d = false) : formed n d = false := by
  cases d with
  | str s => cases h1
  | tup l => cases h2
  | _ => cases n with
    | zero => rfl
    | succ n => cases n <;> rfl
theorem intIn_of {lo hi : Int} {d : Dt} (h : intIn lo hi d = true) : ∃ i, d = .int i ∧ lo ≤ i ∧ i ≤ hi := by
  cases d with
  | int i =>
    have h : (decide (lo ≤ i) && decide (i ≤ hi)) = true := h
    rw [Bool.and_eq_true] at h
    exact ⟨i, rfl, of_decide_eq_true h.1, of_decide_eq_true h.2⟩
  | _ => cases h
theorem eqS_of {d : Dt} {z : Str} (h : eqS d z = true) : d = .str z := by
  cases d with
  | str s => exact congrArg Dt.str (eq_of_beq h)
  | _ => cases h
theorem nameB_of {d : Dt} (h : nameB d = true) : ∃ s, d = .str s ∧ nameS s = true := by
  cases d with
  | str s => exact ⟨s, rfl, h⟩
  | _ => cases h
theorem pairF_of {f : Dt → Bool} {d : Dt} (h : pairF f d = true) : ∃ s y, d = .tup [.str s, y] ∧ nameS s = true ∧ f y = true := by
  unfold pairF at h
  split at h
  · rename_i x y
    rw [Bool.and_eq_true] at h
    obtain ⟨s, rfl, hs⟩ := nameB_of h.1
    exact ⟨s, y, rfl, hs, h.2⟩
  · cases h
theorem fieldsF_of {f : Dt → Bool} {d : Dt} (h : fieldsF f d = true) : ∃ l, d = .tup l ∧ 1 ≤ l.length ∧ l.length ≤ 6 ∧ (∀ p ∈ l, pairF f p = true) ∧ (l.map nmOf).Nodup := by
  cases d with
  | tup l =>
    have h : ((decide (1 ≤ (l.length : Int)) && decide ((l.length : Int) ≤ 6)) && (l.all (pairF f) && decide (l.map nmOf).Nodup)) = true := h
    simp only [Bool.and_eq_true, decide_eq_true_eq, List.all_eq_true] at h
    exact ⟨l, rfl, by omega, by omega, h.2.1, h.2.2⟩
  | _ => cases h
/-- the three forms of a kind -/
theorem formed_cases {n : Nat} {d : Dt} (h : formed n d = true) : (∃ s, d = .str s ∧ plainS s = true) ∨ ∃ m, n = m + 2 ∧
    ((∃ l, d = .tup [.str "record", .tup l] ∧ 1 ≤ l.length ∧ l.length ≤ 6 ∧ (∀ p ∈ l, pairF (formed (m + 1)) p = true) ∧ (l.map nmOf).Nodup) ∨ ∃ i z, d = .tup [.str "row", .int i, z] ∧ 1 ≤ i ∧ i ≤ 64 ∧ formed (m + 1) z = true) := by
  cases d with
  | str s => exact .inl ⟨s, rfl, by rw [formed_str] at h; exact h⟩
  | tup l =>
    match n, h with
    | 0, h => cases h
    | 1, h => cases h
    | m + 2, h =>
      refine .inr ⟨m, rfl, ?_⟩
      rw [formed_two] at h
      unfold form2 at h
      split at h
      · rename_i x y hh
        rw [Bool.and_eq_true] at h
        obtain rfl := eqS_of h.1
        obtain ⟨l, rfl, h1, h2, h3, h4⟩ := fieldsF_of h.2
        exact .inl ⟨l, rfl, h1, h2, h3, h4⟩
      · rename_i x y z hh
        rw [Bool.and_eq_true, Bool.and_eq_true] at h
        obtain rfl := eqS_of h.1
        obtain ⟨i, rfl, h1, h2⟩ := intIn_of h.2.1
        exact .inr ⟨i, z, rfl, h1, h2, h.2.2⟩
      · cases h
  | _ => rw [formed_other rfl rfl] at h; cases h
theorem sum_le {f : Dt → Int} {B : Int} : ∀ l : List Dt, (∀ x ∈ l, 1 ≤ f x ∧ f x ≤ B) → (l.length : Int) ≤ (l.map f).sum ∧ (l.map f).sum ≤ (l.length : Int) * B
  | [], _ => ⟨by simp, by simp⟩
  | x :: l, h => by
    obtain ⟨h1, h2⟩ := sum_le l fun y hy => h y (List.mem_cons_of_mem _ hy)
    obtain ⟨h3, h4⟩ := h x List.mem_cons_self
    simp only [List.map_cons, List.sum_cons, List.length_cons]
    have e : ((l.length + 1 : Nat) : Int) * B = (l.length : Int) * B + B := by
      rw [Int.natCast_add, Int.add_mul]
      simp
    omega
theorem words_bound : ∀ (n : Nat) (d : Dt), formed n d = true → 1 ≤ wordsN n d ∧ wordsN n d ≤ 64 ^ n
  | n, d, h => by
    rcases formed_cases h with ⟨s, rfl, _⟩ | ⟨m, rfl, ⟨l, rfl, h1, h2, h3, _⟩ | ⟨i, z, rfl, h1, h2, h3⟩⟩
    · rw [words_str]
      refine ⟨by decide, ?_⟩
      have : (0 : Int) < 64 ^ n := Int.pow_pos (by decide)
      omega
    · rw [words_two]
      show 1 ≤ (l.map (sndW (wordsN (m + 1)))).sum ∧ (l.map (sndW (wordsN (m + 1)))).sum ≤ _
      obtain ⟨q1, q2⟩ := sum_le (f := sndW (wordsN (m + 1))) (B := 64 ^ (m + 1)) l fun p hp => by
        obtain ⟨s, y, rfl, _, hy⟩ := pairF_of (h3 p hp)
        exact words_bound (m + 1) y hy
      have e : (64 : Int) ^ (m + 2) = 64 ^ (m + 1) * 64 := Int.pow_succ ..
      have p : (0 : Int) < 64 ^ (m + 1) := Int.pow_pos (by decide)
      have q3 : (l.length : Int) * 64 ^ (m + 1) ≤ 64 * 64 ^ (m + 1) := Int.mul_le_mul_of_nonneg_right (by omega) (by omega)
      omega
    · rw [words_two]
      show 1 ≤ i * wordsN (m + 1) z ∧ i * wordsN (m + 1) z ≤ _
      obtain ⟨q1, q2⟩ := words_bound (m + 1) z h3
      have e : (64 : Int) ^ (m + 2) = 64 ^ (m + 1) * 64 := Int.pow_succ ..
      have p : (0 : Int) < 64 ^ (m + 1) := Int.pow_pos (by decide)
      have q3 : 1 * 1 ≤ i * wordsN (m + 1) z := Int.mul_le_mul h1 q1 (by decide) (by omega)
      have q4 : i * wordsN (m + 1) z ≤ 64 * 64 ^ (m + 1) := Int.mul_le_mul h2 q2 (by omega) (by decide)
      omega
  termination_by n => n
  decreasing_by all_goals omega
end K0

set_option Elab.async false
set_option linter.all false
set_option pp.maxSteps 700
set_option maxRecDepth 100000
set_option maxHeartbeats 2000000
namespace K0
open PySem PySem.Spec PyProof.Rows L2
open TL (tl)
section
variable {g : Addr} {H : Hp} {v : V}
theorem DV.str_inv {s : Str} (h : DV g H v (.str s)) : v = .str s ∧ s.length ≤ 1000 := by
  cases h with
  | str h => exact ⟨rfl, h⟩
theorem DV.int_inv {i : Int} (h : DV g H v (.int i)) : v = .int i := by
  cases h with
  | int i => rfl
theorem DV.tup_inv {l : List Dt} (h : DV g H v (.tup l)) : ∃ b xs, v = .ref b ∧ H b = some (.tup xs) ∧ l.length ≤ 1000 ∧ DVs g H xs l := by
  cases h with
  | tup e h r => exact ⟨_, _, rfl, e, h, r⟩
theorem DV.tup2 {x y : Dt} (h : DV g H v (.tup [x, y])) : ∃ b vx vy, v = .ref b ∧ H b = some (.tup [vx, vy]) ∧ DV g H vx x ∧ DV g H vy y := by
  obtain ⟨b, xs, rfl, e, _, r⟩ := h.tup_inv
  cases r with
  | cons hx r =>
    cases r with
    | cons hy r =>
      cases r
      exact ⟨b, _, _, rfl, e, hx, hy⟩
theorem DV.tup3 {x y z : Dt} (h : DV g H v (.tup [x, y, z])) : ∃ b vx vy vz, v = .ref b ∧ H b = some (.tup [vx, vy, vz]) ∧ DV g H vx x ∧ DV g H vy y ∧ DV g H vz z := by
  obtain ⟨b, xs, rfl, e, _, r⟩ := h.tup_inv
  cases r with
  | cons hx r =>
    cases r with
    | cons hy r =>
      cases r with
      | cons hz r =>
        cases r
        exact ⟨b, _, _, _, rfl, e, hx, hy, hz⟩
end
def spFm (n : Nat) : Sp := fun vs H Q _ => 1 ≤ n ∧ ∃ (g : Addr) (v : V) (d : Dt), vs = [v, .int (n : Nat)] ∧ DV g H v d ∧ ∀ H', Same H H' → Q (.bl (formed n d)) H'
def spFl (n : Nat) : Sp := fun vs H Q _ => 1 ≤ n ∧ ∃ (g : Addr) (v : V) (d : Dt), vs = [v, .int (n : Nat)] ∧ DV g H v d ∧ ∀ H', Same H H' → Q (.bl (fieldsF (formed n) d)) H'
def spWc (n : Nat) : Sp := fun vs H Q _ => 1 ≤ n ∧ ∃ (g : Addr) (v : V) (d : Dt), vs = [v] ∧ DV g H v d ∧ formed n d = true ∧ ∀ H', Same H H' → Q (.int (wordsN n d)) H'
structure MgK (K : PySem.W.Frag) (mg : Str → Option Value) (fWhl fWin fTof fTin fDbl fNm fPl fFm fFl fWc : Addr) : Prop extends MgP K mg fWhl where
  win : mg "is_within" = some (.ref fWin)
  kwin : PySem.W.keepIn K (.ref fWin) = true
  tof : mg "is_tuple_of" = some (.ref fTof)
  ktof : PySem.W.keepIn K (.ref fTof) = true
  tin : mg "is_tuple_within" = some (.ref fTin)
  ktin : PySem.W.keepIn K (.ref fTin) = true
  dbl : mg "has_doubles" = some (.ref fDbl)
  kdbl : PySem.W.keepIn K (.ref fDbl) = true
  nme : mg "is_name" = some (.ref fNm)
  knme : PySem.W.keepIn K (.ref fNm) = true
  pln : mg "is_plain" = some (.ref fPl)
  kpln : PySem.W.keepIn K (.ref fPl) = true
  fm : mg "_is_formed" = some (.ref fFm)
  kfm : PySem.W.keepIn K (.ref fFm) = true
  fl : mg "_are_fields" = some (.ref fFl)
  kfl : PySem.W.keepIn K (.ref fFl) = true
  wc : mg "word_count" = some (.ref fWc)
  kwc : PySem.W.keepIn K (.ref fWc) = true
  mit : ∃ t, mg "MOST_ITEMS" = some (.int 64 t)
  mfi : ∃ t, mg "MOST_FIELDS" = some (.int 6 t)
  sum : mg "sum" = none
section
variable {P : Program} {w : World} {K : PySem.W.Frag} {mg : Str → Option Value} {base : Heap}
theorem scFl : FnScope ["value", "deep", "field"] ["value", "deep"] (defScope sFl) := ⟨rfl, rfl, rfl, by decide +kernel, rfl, by decide +kernel, by decide +kernel⟩
theorem fields_bad {f : Dt → Bool} {l : List Dt} {p : Dt} (hp : p ∈ l) (h : pairF f p = false) : fieldsF f (.tup l) = false := by
  show ((decide (1 ≤ (l.length : Int)) && decide ((l.length : Int) ≤ 6)) && (l.all (pairF f) && decide (l.map nmOf).Nodup)) = false
  have e : l.all (pairF f) = false := by
    rw [List.all_eq_false]
    exact ⟨p, hp, by rw [h]; simp⟩
  rw [e]
  simp
theorem fl_step {n : Nat} {f fW fWin fTof fTin fDbl fNm fPl fFm fFl fWc : Addr} {fd fdTof fdTin fdDbl fdNm fdFm : FuncData} (F : Fun K "_are_fields" "_are_fields" sFl f fd) (T : MgK K mg fW fWin fTof fTin fDbl fNm fPl fFm fFl fWc)
    (FTof : Fun K "is_tuple_of" "is_tuple_of" sTof fTof fdTof) (bTof : L2.Binds K fdTof ["value", "many"] []) (FTin : Fun K "is_tuple_within" "is_tuple_within" sTin fTin fdTin) (bTin : L2.Binds K fdTin ["value", "low", "high"] [])
    (FDbl : Fun K "has_doubles" "has_doubles" sDbl fDbl fdDbl) (bDbl : L2.Binds K fdDbl ["rows"] []) (FNm : Fun K "is_name" "is_name" sNm fNm fdNm) (bNm : L2.Binds K fdNm ["value"] [])
    (GFm : FnOk P w K mg base CX0 (2 * n + 1) fFm fdFm ["value", "deep"] (spFm n)) (bFm : L2.Binds K fdFm ["value", "deep"] []) : FnOk P w K mg base CX0 (2 * n + 2) f fd ["value", "deep"] (spFl n) := by
  have GTof : FnOk P w K mg base CX0 1 fTof fdTof ["value", "many"] spTof := ok_tof FTof T.toMgP
  have GTin : FnOk P w K mg base CX0 1 fTin fdTin ["value", "low", "high"] spTin := ok_tin FTin T.toMgP
  have GDbl : FnOk P w K mg base CX0 1 fDbl fdDbl ["rows"] (spDbl K) := ok_dbl FDbl T.toMgP
  have GNm : FnOk P w K mg base CX0 1 fNm fdNm ["value"] (spAsk nameB) := ok_nm FNm T.toMgP
  refine F.ok scFl (fun vs H Q E h => ?_) (fun cdv A outer s H vs Q E hr h => ?_)
  · obtain ⟨_, g, v, d, rfl, _⟩ := h
    rfl
  · obtain ⟨hn, g, v, d, rfl, hd, k⟩ := h
    obtain ⟨tF, eF⟩ := T.mfi
    have hr1 : Room 1 _ := hr.mono (by omega)
    refine ⟨_, pss_cons (ps_if (pt_not (pt_val (pe_call GTin hr1 (by rfl) T.tin T.ktin bTin .nil pass0 (pa_cons (pv 0) (pa_cons pe_int (pa_cons (pe_glob (v := .int 6) (by rfl) eF ⟨_, rfl⟩) pa_nil)))))) (pss_one (ps_ret pe_bl)) pss_nil)
      (pss_cons (ps_for PassesOwn.never rfl (pi_tup (pv 0)) (pg_name (i := 2) scFl.nd rfl (Or.inl rfl))
        (pss_one (ps_if (PW.pt (pw_or (pt_not (pt_val (pe_call GTof hr1 (by rfl) T.tof T.ktof bTof .nil pass0 (pa_cons (pv 2) (pa_cons pe_int pa_nil)))))
          (pw_or (pt_not (pt_val (pe_call GNm hr1 (by rfl) T.nme T.knme bNm .nil pass0 (pa_cons (pe_ix ix_tup (pv 2) pe_int (fun _ _ => rfl)) pa_nil))))
            (pw_or1 (pt_not (pt_val (pe_call GFm hr (by rfl) T.fm T.kfm bFm .nil pass0 (pa_cons (pe_ix ix_tup (pv 2) pe_int (fun _ _ => rfl)) (pa_cons (pv 1) pa_nil)))))))))
          (pss_one (ps_ret pe_bl)) pss_nil)))
      (pss_one (ps_ret (pe_not (pe_call GDbl hr1 (by rfl) T.dbl T.kdbl bDbl .nil pass0 (pa_cons (pe_lc (own := [("field", 2)]) (g := gName 2) (tt := tYes) (by rfl) scFl.nd (pi_tup (pv 0))
          (blkOk_by (own := [("field", 2)]) (N := ["value", "deep", "field"]) (sc := defScope sFl) (by decide +kernel)) (fun _ _ _ _ _ => pg_name (i := 2) scFl.nd rfl (Or.inl rfl)) (fun _ _ _ _ _ => pts_nil)
          (fun _ _ _ _ _ => pe_ix (show IxR _ (rIxT K) from ix_tup) (pv 2) pe_int (fun _ _ => rfl))) pa_nil)))))), ?_⟩
    refine ⟨_, rfl, g, v, d, 1, 6, rfl, hd, fun H1 s1 => ⟨_, rfl, ?_⟩⟩
    have hd1 := hd.keep (Kv.of s1)
    cases hd1 with
    | @tup a xs ds e hl r =>
      cases hin : lenIn 1 6 (.tup ds) with
      | false =>
        refine iteT ?_
        have q := k H1 s1
        have e0 : fieldsF (formed n) (.tup ds) = false := by
          show (lenIn 1 6 (.tup ds) && _) = false
          rw [hin]
          rfl
        rw [e0] at q
        exact q
      | true =>
        refine iteF ?_
        -- for field in value
        have hlen := r.len
        refine ⟨_, rfl, a, rfl, ⟨_, SqT.of e⟩, for_tup (K := K) (a := a) (xs := xs)
          (fun i σ H' => ∃ fv : Option V, σ = [some (.ref a), some (.int (n : Nat)), fv] ∧ Same H1 H' ∧ ∀ p ∈ ds.take i, pairF (formed n) p = true)
          ⟨none, rfl, Same.refl H1, fun p hp => by simp at hp⟩ (fun i σ H' _ ⟨_, _, s2, _⟩ => SqT.of (s2 _ _ e)) ?_ ?_⟩
        · rintro i x σ H' hi ⟨fv, rfl, s2, all⟩
          obtain ⟨p, hp, hx⟩ := r.at_ hi
          have hx := hx.keep (Kv.of s2)
          have bad : pairF (formed n) p = false → Q (.bl false) H' := fun z => by
            have q := k H' (s1.trans s2)
            rw [fields_bad (List.mem_of_getElem? hp) z] at q
            exact q
          have bad' : ∀ H2, Same H' H2 → pairF (formed n) p = false → Q (.bl false) H2 := fun H2 s3 z => by
            have q := k H2 ((s1.trans s2).trans s3)
            rw [fields_bad (List.mem_of_getElem? hp) z] at q
            exact q
          refine ⟨_, rfl, g, x, p, 2, rfl, hx, fun H2 s3 => ⟨_, rfl, ?_⟩⟩
          cases h2 : lenIs 2 p with
          | false =>
            refine iteT ?_
            refine bad' H2 s3 ?_
            unfold pairF
            split
            · cases h2
            · rfl
          | true =>
            refine iteF ?_
            obtain ⟨y, z, rfl⟩ : ∃ y z, p = .tup [y, z] := by
              cases p with
              | tup l =>
                match l, h2 with
                | [y, z], _ => exact ⟨y, z, rfl⟩
                | [], h2 => cases h2
                | [_], h2 => cases h2
                | a1 :: a2 :: a3 :: l', h2 =>
                  have h2 : decide ((a1 :: a2 :: a3 :: l').length = 2) = true := h2
                  rw [decide_eq_true_eq] at h2
                  simp at h2
              | _ => cases h2
            obtain ⟨b, vy, vz, rfl, hb, hy, hz⟩ := (hx.keep (Kv.of s3)).tup2
            refine ⟨_, rfl, b, _, 0, vy, rfl, rfl, SqT.of hb, atI_nat (j := 0) rfl, g, vy, y, rfl, hy, fun H3 s4 => ⟨_, rfl, ?_⟩⟩
            cases h3 : nameB y with
            | false =>
              refine iteT ?_
              refine bad' H3 (s3.trans s4) ?_
              show (nameB y && formed n z) = false
              rw [h3]
              rfl
            | true =>
              refine iteF ?_
              refine ⟨_, rfl, b, _, 1, vz, rfl, rfl, SqT.of (s4 _ _ hb), atI_nat (j := 1) rfl, _, rfl, hn, g, vz, z, rfl, hz.keep (Kv.of s4), fun H4 s5 => ⟨_, rfl, ?_⟩⟩
              cases h4 : formed n z with
              | false =>
                refine iteT ?_
                refine bad' H4 ((s3.trans s4).trans s5) ?_
                show (nameB y && formed n z) = false
                rw [h4, Bool.and_false]
              | true =>
                refine iteF ?_
                refine ⟨_, rfl, s2.trans ((s3.trans s4).trans s5), fun p' hp' => ?_⟩
                rw [List.take_succ, hp] at hp'
                rcases List.mem_append.mp hp' with q | q
                · exact all p' q
                · obtain rfl := List.mem_singleton.mp q
                  show (nameB y && formed n z) = true
                  rw [h3, h4]
                  rfl
        · rintro σ H2 ⟨fv, rfl, s2, all⟩
          rw [hlen, List.take_length] at all
          -- not has_doubles([field[0] ..])
          refine ⟨_, rfl, a, rfl, ⟨_, SqT.of (s2 _ _ e)⟩, fun D hD => lc_tup (K := K) (a := a) (xs := xs)
            (fun i H' => H' D = some (.lst (((ds.take i).map nmOf).map V.str)) ∧ Same H2 H') ⟨upd_same, same_new hD⟩ (fun i H' _ ⟨_, s3⟩ => SqT.of (s3 _ _ (s2 _ _ e))) ?_ ?_⟩
          · rintro i x H' hi ⟨h1, s3⟩
            obtain ⟨p, hp, hx⟩ := r.at_ hi
            obtain ⟨s, y, rfl, _, _⟩ := pairF_of (all p (List.mem_of_getElem? hp))
            obtain ⟨b, vy, vz, rfl, hb, hy, hz⟩ := (hx.keep (Kv.of (s2.trans s3))).tup2
            obtain ⟨rfl, _⟩ := hy.str_inv
            refine ⟨rfl, ?_⟩
            refine ⟨_, rfl, b, _, 0, _, rfl, rfl, SqT.of hb, atI_nat (j := 0) rfl, _, h1, ?_, ?_, ?_⟩
            · rw [List.length_map, List.length_map, List.length_take, sizeLine_eq]
              omega
            · rw [upd_same, List.take_succ, hp, List.map_append, List.map_append]
              rfl
            · intro b' o e'
              rw [upd_ne (ne_of_none e' hD)]
              exact s3 _ _ e'
          · rintro H3 ⟨h1, s3⟩
            rw [hlen, List.take_length] at h1
            have six : ds.length ≤ 6 := by
              have h : (decide (1 ≤ (ds.length : Int)) && decide ((ds.length : Int) ≤ 6)) = true := hin
              rw [Bool.and_eq_true, decide_eq_true_eq, decide_eq_true_eq] at h
              omega
            refine ⟨D, ds.map nmOf, rfl, SqL.of h1, by rw [List.length_map]; omega, fun H4 s4 => ⟨_, rfl, ?_⟩⟩
            have q := k H4 (((s1.trans s2).trans s3).trans s4)
            have e0 : fieldsF (formed n) (.tup ds) = decide (ds.map nmOf).Nodup := by
              show (lenIn 1 6 (.tup ds) && (ds.all (pairF (formed n)) && _)) = _
              rw [hin, List.all_eq_true.mpr all]
              rfl
            rw [e0] at q
            rw [Bool.not_not]
            exact q
    | int i => exact iteT (k H1 s1)
    | bl b => exact iteT (k H1 s1)
    | non => exact iteT (k H1 s1)
    | str _ => exact iteT (k H1 s1)
    | lst _ _ _ _ => exact iteT (k H1 s1)
    | dic _ => exact iteT (k H1 s1)
end
end K0

set_option Elab.async false
set_option linter.all false
set_option pp.maxSteps 700
set_option maxRecDepth 100000
set_option maxHeartbeats 2000000
namespace K0
open PySem PySem.Spec PyProof.Rows L2
open TL (tl)
section
variable {P : Program} {w : World} {K : PySem.W.Frag} {mg : Str → Option Value} {base : Heap}
theorem scFm : FnScope ["value", "deep"] ["value", "deep"] (defScope sFm) := ⟨rfl, rfl, rfl, by decide +kernel, rfl, by decide +kernel, by decide +kernel⟩
theorem form_short {n : Nat} {l : List Dt} (h : lenIn 2 3 (.tup l) = false) : formed (n + 2) (.tup l) = false := by
  rw [formed_two]
  match l, h with
  | [], _ => rfl
  | [_], _ => rfl
  | [_, _], h => cases h
  | [_, _, _], h => cases h
  | _ :: _ :: _ :: _ :: _, _ => rfl
theorem form_long {l : List Dt} (h : lenIn 2 3 (.tup l) = true) : (∃ x y, l = [x, y]) ∨ ∃ x y z, l = [x, y, z] := by
  match l, h with
  | [], h => cases h
  | [_], h => cases h
  | [x, y], _ => exact .inl ⟨x, y, rfl⟩
  | [x, y, z], _ => exact .inr ⟨x, y, z, rfl⟩
  | a :: b :: c :: d :: r, h =>
    have h : (decide ((2 : Int) ≤ ((a :: b :: c :: d :: r).length : Int)) && decide (((a :: b :: c :: d :: r).length : Int) ≤ 3)) = true := h
    rw [Bool.and_eq_true, decide_eq_true_eq, decide_eq_true_eq] at h
    simp only [List.length_cons] at h
    omega
theorem fm_step {n : Nat} {f fW fWin fTof fTin fDbl fNm fPl fFm fFl fWc : Addr} {fd fdW fdWin fdTin fdPl fdFm fdFl : FuncData} (F : Fun K "_is_formed" "_is_formed" sFm f fd) (T : MgK K mg fW fWin fTof fTin fDbl fNm fPl fFm fFl fWc)
    (FW : Fun K "is_whole" "is_whole" sWhl fW fdW) (bW : L2.Binds K fdW ["value"] []) (FWin : Fun K "is_within" "is_within" sWin fWin fdWin) (bWin : L2.Binds K fdWin ["value", "low", "high"] [])
    (FTin : Fun K "is_tuple_within" "is_tuple_within" sTin fTin fdTin) (bTin : L2.Binds K fdTin ["value", "low", "high"] []) (FPl : Fun K "is_plain" "is_plain" sPl fPl fdPl) (bPl : L2.Binds K fdPl ["value"] [])
    (GFm : FnOk P w K mg base CX0 (2 * n + 1) fFm fdFm ["value", "deep"] (spFm n)) (bFm : L2.Binds K fdFm ["value", "deep"] []) (GFl : FnOk P w K mg base CX0 (2 * n + 2) fFl fdFl ["value", "deep"] (spFl n)) (bFl : L2.Binds K fdFl ["value", "deep"] []) :
    FnOk P w K mg base CX0 (2 * n + 3) f fd ["value", "deep"] (spFm (n + 1)) := by
  have GPl : FnOk P w K mg base CX0 1 fPl fdPl ["value"] (spAsk plainB) := ok_pl FPl T.toMgP
  have GTin : FnOk P w K mg base CX0 1 fTin fdTin ["value", "low", "high"] spTin := ok_tin FTin T.toMgP
  have GWin : FnOk P w K mg base CX0 2 fWin fdWin ["value", "low", "high"] spWin := ok_win FWin T.toMgP FW bW
  refine F.ok scFm (fun vs H Q E h => ?_) (fun cdv A outer s H vs Q E hr h => ?_)
  · obtain ⟨_, g, v, d, rfl, _⟩ := h
    rfl
  · obtain ⟨_, g, v, d, rfl, hd, k⟩ := h
    obtain ⟨tI, eI⟩ := T.mit
    have hr1 : Room 1 _ := hr.mono (by omega)
    have hr2 : Room 2 _ := hr.mono (by omega)
    have hrm : Room (2 * n + 1) _ := hr.mono (by omega)
    refine ⟨_, pss_cons (ps_if (pt_val (pe_call GPl hr1 (by rfl) T.pln T.kpln bPl .nil pass0 (pa_cons (pv 0) pa_nil))) (pss_one (ps_ret pe_bl)) pss_nil)
      (pss_cons (ps_if (PW.pt (pw_or (pt_cmpR op_lt (pv 1) pe_int (nomark _)) (pw_or1 (pt_not (pt_val (pe_call GTin hr1 (by rfl) T.tin T.ktin bTin .nil pass0 (pa_cons (pv 0) (pa_cons pe_int (pa_cons pe_int pa_nil))))))))) (pss_one (ps_ret pe_bl)) pss_nil)
      (pss_cons (ps_if (pt_cmpR (op_eqS hr.units) (pe_ix ix_tup (pv 0) pe_int (fun _ _ => rfl)) pe_str (nomark _))
        (pss_one (ps_ret (pe_and (pe_cmpR op_eq (pe_callB call_len_seq (by rfl) T.len PySem.boot_len (pa_cons (pv 0) pa_nil)) pe_int (nomark _))
          (pe_and (pe_call GWin hr2 (by rfl) T.win T.kwin bWin .nil pass0 (pa_cons (pe_ix ix_tup (pv 0) pe_int (fun _ _ => rfl)) (pa_cons pe_int (pa_cons (pe_glob (v := .int 64) (by rfl) eI ⟨_, rfl⟩) pa_nil))))
            (pe_one (pe_call GFm hrm (by rfl) T.fm T.kfm bFm .nil pass0 (pa_cons (pe_ix ix_tup (pv 0) pe_int (fun _ _ => rfl)) (pa_cons (pe_op op_sub (pv 1) pe_int) pa_nil)))))))) pss_nil)
      (pss_one (ps_ret (pe_and (pe_cmpR (op_eqS hr.units) (pe_ix ix_tup (pv 0) pe_int (fun _ _ => rfl)) pe_str (nomark _))
        (pe_and (pe_cmpR op_eq (pe_callB call_len_seq (by rfl) T.len PySem.boot_len (pa_cons (pv 0) pa_nil)) pe_int (nomark _))
          (pe_one (pe_call GFl hr (by rfl) T.fl T.kfl bFl .nil pass0 (pa_cons (pe_ix ix_tup (pv 0) pe_int (fun _ _ => rfl)) (pa_cons (pe_op op_sub (pv 1) pe_int) pa_nil)))))))))), ?_⟩
    refine ⟨_, rfl, g, v, d, rfl, hd, fun H1 s1 => ⟨_, rfl, ?_⟩⟩
    have hd1 := hd.keep (Kv.of s1)
    cases hp : plainB d with
    | true =>
      refine iteT ?_
      have q := k H1 s1
      have e0 : formed (n + 1) d = true := by
        cases d with
        | str z => rw [formed_str]; exact hp
        | _ => cases hp
      rw [e0] at q
      exact q
    | false =>
      refine iteF ?_
      refine ⟨_, rfl, _, _, rfl, rfl, _, rfl, ?_⟩
      cases n with
      | zero =>
        refine ifT (by decide) ?_
        have q := k H1 s1
        have e0 : formed (0 + 1) d = false := by
          cases d with
          | str z => rw [formed_str]; exact hp
          | _ => rfl
        rw [e0] at q
        exact q
      | succ m =>
        refine ifF (decide_eq_false (by omega)) ?_
        refine ⟨_, rfl, g, v, d, 2, 3, rfl, hd1, fun H2 s2 => ⟨_, rfl, ?_⟩⟩
        cases hl : lenIn 2 3 d with
        | false =>
          refine iteT ?_
          have q := k H2 (s1.trans s2)
          have e0 : formed (m + 1 + 1) d = false := by
            cases d with
            | str z => rw [formed_str]; exact hp
            | tup l => exact form_short hl
            | _ => rfl
          rw [e0] at q
          exact q
        | true =>
          refine iteF ?_
          have q := k
          cases d with
          | tup l =>
            rcases form_long hl with ⟨x, y, rfl⟩ | ⟨x, y, z, rfl⟩
            · obtain ⟨b, vx, vy, rfl, hb, hx, hy⟩ := (hd1.keep (Kv.of s2)).tup2
              refine ⟨_, rfl, b, _, 0, vx, rfl, rfl, SqT.of hb, atI_nat (j := 0) rfl, g, x, "row", rfl, hx, _, rfl, ?_⟩
              have e0 : formed (m + 1 + 1) (.tup [x, y]) = (eqS x "record" && fieldsF (formed (m + 1)) y) := rfl
              cases h1 : eqS x "row" with
              | true =>
                refine iteT ?_
                refine ⟨_, rfl, b, _, rfl, .inr (SqT.of hb), rfl, _, rfl, iteF ?_⟩
                have q1 := q H2 (s1.trans s2)
                rw [e0, eqS_of h1] at q1
                exact q1
              | false =>
                refine iteF ?_
                refine ⟨_, rfl, b, _, 0, vx, rfl, rfl, SqT.of hb, atI_nat (j := 0) rfl, g, x, "record", rfl, hx, _, rfl, ?_⟩
                cases h2 : eqS x "record" with
                | false =>
                  refine iteF ?_
                  have q1 := q H2 (s1.trans s2)
                  rw [e0, h2] at q1
                  exact q1
                | true =>
                  refine iteT ?_
                  refine ⟨_, rfl, b, _, rfl, .inr (SqT.of hb), rfl, _, rfl, iteT ?_⟩
                  refine ⟨_, rfl, b, _, 1, vy, rfl, rfl, SqT.of hb, atI_nat (j := 1) rfl, _, rfl, _, _, rfl, rfl, by omega, g, vy, y, ?_, hy, fun H3 s3 => ?_⟩
                  · have e : ((m + 1 + 1 : Nat) : Int) - 1 = ((m + 1 : Nat) : Int) := by omega
                    show [vy, V.int (((m + 1 + 1 : Nat) : Int) - 1)] = _
                    rw [e]
                  · have q1 := q H3 ((s1.trans s2).trans s3)
                    rw [e0, h2] at q1
                    exact q1
            · obtain ⟨b, vx, vy, vz, rfl, hb, hx, hy, hz⟩ := (hd1.keep (Kv.of s2)).tup3
              refine ⟨_, rfl, b, _, 0, vx, rfl, rfl, SqT.of hb, atI_nat (j := 0) rfl, g, x, "row", rfl, hx, _, rfl, ?_⟩
              have e0 : formed (m + 1 + 1) (.tup [x, y, z]) = (eqS x "row" && (intIn 1 64 y && formed (m + 1) z)) := rfl
              cases h1 : eqS x "row" with
              | true =>
                refine iteT ?_
                refine ⟨_, rfl, b, _, rfl, .inr (SqT.of hb), rfl, _, rfl, iteT ?_⟩
                refine ⟨_, rfl, b, _, 1, vy, rfl, rfl, SqT.of hb, atI_nat (j := 1) rfl, g, vy, y, 1, 64, rfl, hy, fun H3 s3 => ⟨_, rfl, ?_⟩⟩
                cases h2 : intIn 1 64 y with
                | false =>
                  refine iteF ?_
                  have q1 := q H3 ((s1.trans s2).trans s3)
                  rw [e0, h1, h2] at q1
                  exact q1
                | true =>
                  refine iteT ?_
                  refine ⟨_, rfl, b, _, 2, vz, rfl, rfl, SqT.of (s3 _ _ hb), atI_nat (j := 2) rfl, _, rfl, _, _, rfl, rfl, by omega, g, vz, z, ?_, hz.keep (Kv.of s3), fun H4 s4 => ?_⟩
                  · have e : ((m + 1 + 1 : Nat) : Int) - 1 = ((m + 1 : Nat) : Int) := by omega
                    show [vz, V.int (((m + 1 + 1 : Nat) : Int) - 1)] = _
                    rw [e]
                  · have q1 := q H4 (((s1.trans s2).trans s3).trans s4)
                    rw [e0, h1, h2] at q1
                    exact q1
              | false =>
                refine iteF ?_
                refine ⟨_, rfl, b, _, 0, vx, rfl, rfl, SqT.of hb, atI_nat (j := 0) rfl, g, x, "record", rfl, hx, _, rfl, ?_⟩
                have q1 := q H2 (s1.trans s2)
                rw [e0, h1] at q1
                cases h2 : eqS x "record" with
                | false => exact iteF q1
                | true =>
                  refine iteT ?_
                  exact ⟨_, rfl, b, _, rfl, .inr (SqT.of hb), rfl, _, rfl, iteF q1⟩
          | _ => cases hl
/-- nothing is asked: nothing is promised -/
theorem ok_none {f : Addr} {fd : FuncData} {x q : Str} {st : Stmt} {N ps : List Str} {k : Nat} {sp : Sp} (F : Fun K x q st f fd) (S : FnScope N ps (defScope st)) (no : ∀ vs H Q E, ¬ sp vs H Q E) : FnOk P w K mg base CX0 (k + 1) f fd ps sp :=
  F.ok S (fun vs H Q E h => (no vs H Q E h).elim) (fun cdv A outer s H vs Q E hr h => (no vs H Q E h).elim)
end
end K0

set_option Elab.async false
set_option linter.all false
set_option pp.maxSteps 700
set_option maxRecDepth 100000
set_option maxHeartbeats 2000000
namespace K0
open PySem PySem.Spec PyProof.Rows L2
open TL (tl)
def kindB (d : Dt) : Bool := formed 4 d && decide (wordsN 4 d ≤ 400)
abbrev excVE : List Value := [.type "ValueError", .type "Exception", .type "BaseException", .type "object"]
structure MgR (K : PySem.W.Frag) (mg : Str → Option Value) (fKd fNk C : Addr) : Prop where
  kd : mg "is_kind" = some (.ref fKd)
  kkd : PySem.W.keepIn K (.ref fKd) = true
  nk : mg "_need_kind" = some (.ref fNk)
  knk : PySem.W.keepIn K (.ref fNk) = true
  bk : mg "BadKind" = some (.ref C)
  kbk : PySem.W.keepIn K (.ref C) = true
  exI : PySem.W.excIn K C excVE "ValueError.__new__" = true
  sub : PySem.W.subIn K (.ref C) (.type "BaseException") = some true
  ty : PySem.W.typeIn K (.ref C) = some (.type "type")
  mde : ∃ t, mg "MOST_DEEP" = some (.int 4 t)
  mwo : ∃ t, mg "MOST_WORDS" = some (.int 400 t)
def spNk (C : Addr) : Sp := fun vs H Q E => ∃ (g : Addr) (v : V) (d : Dt), vs = [v] ∧ DV g H v d ∧ ((kindB d = true ∧ ∀ H', Same H H' → Q .non H') ∨ (kindB d = false ∧ ∀ H', Same H H' → E (.ref C) none H'))
def spWo (C : Addr) : Sp := fun vs H Q E => ∃ (g : Addr) (v : V) (d : Dt), vs = [v] ∧ DV g H v d ∧ ((kindB d = true ∧ ∀ H', Same H H' → Q (.int (wordsN 4 d)) H') ∨ (kindB d = false ∧ ∀ H', Same H H' → E (.ref C) none H'))
section
variable {P : Program} {w : World} {K : PySem.W.Frag} {mg : Str → Option Value} {base : Heap}
variable {fW fWin fTof fTin fDbl fNm fPl fFm fFl fWc fKd fNk C : Addr} {fdW fdWin fdTof fdTin fdDbl fdNm fdPl fdFm fdFl fdWc fdKd fdNk : FuncData}
/-- the defs that is_kind reaches -/
structure Fk (K : PySem.W.Frag) (fW fWin fTof fTin fDbl fNm fPl fFm fFl fWc : Addr) (fdW fdWin fdTof fdTin fdDbl fdNm fdPl fdFm fdFl fdWc : FuncData) : Prop where
  W : Fun K "is_whole" "is_whole" sWhl fW fdW
  bW : L2.Binds K fdW ["value"] []
  Win : Fun K "is_within" "is_within" sWin fWin fdWin
  bWin : L2.Binds K fdWin ["value", "low", "high"] []
  Tof : Fun K "is_tuple_of" "is_tuple_of" sTof fTof fdTof
  bTof : L2.Binds K fdTof ["value", "many"] []
  Tin : Fun K "is_tuple_within" "is_tuple_within" sTin fTin fdTin
  bTin : L2.Binds K fdTin ["value", "low", "high"] []
  Dbl : Fun K "has_doubles" "has_doubles" sDbl fDbl fdDbl
  bDbl : L2.Binds K fdDbl ["rows"] []
  Nm : Fun K "is_name" "is_name" sNm fNm fdNm
  bNm : L2.Binds K fdNm ["value"] []
  Pl : Fun K "is_plain" "is_plain" sPl fPl fdPl
  bPl : L2.Binds K fdPl ["value"] []
  Fm : Fun K "_is_formed" "_is_formed" sFm fFm fdFm
  bFm : L2.Binds K fdFm ["value", "deep"] []
  Fl : Fun K "_are_fields" "_are_fields" sFl fFl fdFl
  bFl : L2.Binds K fdFl ["value", "deep"] []
  Wc : Fun K "word_count" "word_count" sWc fWc fdWc
  bWc : L2.Binds K fdWc ["kind"] []
variable (D : Fk K fW fWin fTof fTin fDbl fNm fPl fFm fFl fWc fdW fdWin fdTof fdTin fdDbl fdNm fdPl fdFm fdFl fdWc) (T : MgK K mg fW fWin fTof fTin fDbl fNm fPl fFm fFl fWc)
include D T
theorem ok_fmfl : ∀ n : Nat, FnOk P w K mg base CX0 (2 * n + 1) fFm fdFm ["value", "deep"] (spFm n) ∧ FnOk P w K mg base CX0 (2 * n + 2) fFl fdFl ["value", "deep"] (spFl n)
  | 0 => ⟨ok_none D.Fm scFm (fun vs H Q E h => absurd h.1 (by omega)), ok_none D.Fl scFl (fun vs H Q E h => absurd h.1 (by omega))⟩
  | n + 1 => by
    obtain ⟨G1, G2⟩ := ok_fmfl n
    have A : FnOk P w K mg base CX0 (2 * (n + 1) + 1) fFm fdFm ["value", "deep"] (spFm (n + 1)) := fm_step D.Fm T D.W D.bW D.Win D.bWin D.Tin D.bTin D.Pl D.bPl G1 D.bFm G2 D.bFl
    exact ⟨A, fl_step D.Fl T D.Tof D.bTof D.Tin D.bTin D.Dbl D.bDbl D.Nm D.bNm A D.bFm⟩
omit D T
theorem scWc : FnScope ["kind", "_", "inner"] ["kind"] (defScope sWc) := ⟨rfl, rfl, rfl, by decide +kernel, rfl, by decide +kernel, by decide +kernel⟩
include D T
theorem ok_wc : ∀ n : Nat, FnOk P w K mg base CX0 (n + 1) fWc fdWc ["kind"] (spWc n)
  | 0 => ok_none D.Wc scWc (fun vs H Q E h => absurd h.1 (by omega))
  | n + 1 => by
    have G : FnOk P w K mg base CX0 (n + 1) fWc fdWc ["kind"] (spWc n) := ok_wc n
    have GPl : FnOk P w K mg base CX0 1 fPl fdPl ["value"] (spAsk plainB) := ok_pl D.Pl T.toMgP
    refine D.Wc.ok scWc (fun vs H Q E h => ?_) (fun cdv A outer s H vs Q E hr h => ?_)
    · obtain ⟨_, g, v, d, rfl, _⟩ := h
      rfl
    · obtain ⟨_, g, v, d, rfl, hd, hf, k⟩ := h
      have hr1 : Room 1 _ := hr.mono (by omega)
      refine ⟨_, pss_cons (ps_if (pt_val (pe_call GPl hr1 (by rfl) T.pln T.kpln D.bPl .nil pass0 (pa_cons (pv 0) pa_nil))) (pss_one (ps_ret pe_int)) pss_nil)
        (pss_cons (ps_if (pt_cmpR (op_eqS hr.units) (pe_ix ix_tup (pv 0) pe_int (fun _ _ => rfl)) pe_str (nomark _))
          (pss_one (ps_ret (pe_op op_mul (pe_ix ix_tup (pv 0) pe_int (fun _ _ => rfl)) (pe_call G hr (by rfl) T.wc T.kwc D.bWc .nil pass0 (pa_cons (pe_ix ix_tup (pv 0) pe_int (fun _ _ => rfl)) pa_nil))))) pss_nil)
        (pss_one (ps_ret (pe_callB (cr_sum rfl) (by rfl) T.sum (by decide +kernel) (pa_cons (pe_lc (own := [("_", 1), ("inner", 2)]) (g := gTup K 2 (gCons (gName 1) (gCons (gName 2) gNil))) (tt := tYes) (by rfl) scWc.nd (pi_tup (pe_ix ix_tup (pv 0) pe_int (fun _ _ => rfl)))
            (blkOk_by (own := [("_", 1), ("inner", 2)]) (N := ["kind", "_", "inner"]) (sc := defScope sWc) (by decide +kernel)) (fun _ _ _ _ _ => pg_tup (by rfl) (pgs_cons (pg_name (i := 1) scWc.nd rfl (Or.inl rfl)) (pgs_cons (pg_name (i := 2) scWc.nd rfl (Or.inl rfl)) pgs_nil))) (fun _ _ _ _ _ => pts_nil)
            (fun _ _ _ _ _ => pe_call G hr (by rfl) T.wc T.kwc D.bWc .nil pass0 (pa_cons (pv 2) pa_nil))) pa_nil))))), ?_⟩
      refine ⟨_, rfl, g, v, d, rfl, hd, fun H1 s1 => ⟨_, rfl, ?_⟩⟩
      have hd1 := hd.keep (Kv.of s1)
      rcases formed_cases hf with ⟨s, rfl, hs⟩ | ⟨m, hm, hh⟩
      · refine ifT hs ?_
        have q := k H1 s1
        rw [words_str] at q
        exact q
      · obtain rfl : n = m + 1 := by omega
        rcases hh with ⟨l, rfl, l1, l2, all, _⟩ | ⟨i, z, rfl, i1, i2, hz⟩
        · refine iteF ?_
          obtain ⟨b, vx, vy, rfl, hb, hx, hy⟩ := hd1.tup2
          refine ⟨_, rfl, b, _, 0, vx, rfl, rfl, SqT.of hb, atI_nat (j := 0) rfl, g, .str "record", "row", rfl, hx, _, rfl, ?_⟩
          refine ifF (by decide +kernel) ?_
          obtain ⟨c, xs, rfl, hc, _, r⟩ := hy.tup_inv
          refine ⟨_, rfl, b, _, 1, .ref c, rfl, rfl, SqT.of hb, atI_nat (j := 1) rfl, c, rfl, ⟨_, SqT.of hc⟩, fun L hL => lc_tup (K := K) (a := c) (xs := xs)
            (fun i H' => H' L = some (.lst (((l.take i).map (sndW (wordsN (m + 1)))).map V.int)) ∧ Same H1 H') ⟨upd_same, same_new hL⟩ (fun i H' _ ⟨_, s2⟩ => SqT.of (s2 _ _ hc)) ?_ ?_⟩
          · rintro i x H' hi ⟨h1, s2⟩
            obtain ⟨p, hp, hx'⟩ := r.at_ hi
            obtain ⟨s, y, rfl, _, hfy⟩ := pairF_of (all p (List.mem_of_getElem? hp))
            obtain ⟨e, v1, v2, rfl, he, h3, h4⟩ := (hx'.keep (Kv.of s2)).tup2
            refine ⟨e, _, rfl, SqT.of he, rfl, _, _, rfl, _, _, rfl, rfl, rfl, ?_⟩
            refine ⟨_, rfl, by omega, g, v2, y, rfl, h4, hfy, fun H2 s3 => ⟨_, s3 _ _ h1, ?_, ?_, ?_⟩⟩
            · rw [List.length_map, List.length_map, List.length_take, sizeLine_eq]
              omega
            · rw [upd_same, List.take_succ, hp, List.map_append, List.map_append]
              rfl
            · intro b' o e'
              rw [upd_ne (ne_of_none e' hL)]
              exact s3 _ _ (s2 _ _ e')
          · rintro H2 ⟨h1, s2⟩
            have hlen := r.len
            rw [hlen, List.take_length] at h1
            exact ⟨L, _, rfl, SqL.of h1, k H2 (s1.trans s2)⟩
        · refine iteF ?_
          obtain ⟨b, vx, vy, vz, rfl, hb, hx, hy, hz'⟩ := hd1.tup3
          obtain rfl := hy.int_inv
          refine ⟨_, rfl, b, _, 0, vx, rfl, rfl, SqT.of hb, atI_nat (j := 0) rfl, g, .str "row", "row", rfl, hx, _, rfl, ?_⟩
          refine ifT (by decide +kernel) ?_
          refine ⟨_, rfl, b, _, 1, _, rfl, rfl, SqT.of hb, atI_nat (j := 1) rfl, _, rfl, b, _, 2, vz, rfl, rfl, SqT.of hb, atI_nat (j := 2) rfl, by omega, g, vz, z, rfl, hz', hz, fun H2 s2 => ⟨_, _, rfl, rfl, .inl ⟨by omega, by omega⟩, ?_⟩⟩
          exact k H2 (s1.trans s2)
end
end K0

set_option Elab.async false
set_option linter.all false
set_option pp.maxSteps 700
set_option maxRecDepth 100000
set_option maxHeartbeats 2000000
namespace K0
open PySem PySem.Spec PyProof.Rows L2
open TL (tl)
section
variable {P : Program} {w : World} {K : PySem.W.Frag} {mg : Str → Option Value} {base : Heap}
variable {fW fWin fTof fTin fDbl fNm fPl fFm fFl fWc fKd fNk fWo C : Addr} {fdW fdWin fdTof fdTin fdDbl fdNm fdPl fdFm fdFl fdWc fdKd fdNk fdWo : FuncData}
variable (D : Fk K fW fWin fTof fTin fDbl fNm fPl fFm fFl fWc fdW fdWin fdTof fdTin fdDbl fdNm fdPl fdFm fdFl fdWc) (T : MgK K mg fW fWin fTof fTin fDbl fNm fPl fFm fFl fWc) (R : MgR K mg fKd fNk C)
theorem scKd : FnScope ["value"] ["value"] (defScope sKd) := ⟨rfl, rfl, rfl, by decide +kernel, rfl, by decide +kernel, by decide +kernel⟩
theorem scNk : FnScope ["kind"] ["kind"] (defScope sNk) := ⟨rfl, rfl, rfl, by decide +kernel, rfl, by decide +kernel, by decide +kernel⟩
theorem scWo : FnScope ["kind"] ["kind"] (defScope sWo) := ⟨rfl, rfl, rfl, by decide +kernel, rfl, by decide +kernel, by decide +kernel⟩
include D T R
theorem ok_kd (F : Fun K "is_kind" "is_kind" sKd fKd fdKd) : FnOk P w K mg base CX0 10 fKd fdKd ["value"] (spAsk kindB) := by
  have GFm : FnOk P w K mg base CX0 9 fFm fdFm ["value", "deep"] (spFm 4) := (ok_fmfl D T 4).1
  have GWc : FnOk P w K mg base CX0 5 fWc fdWc ["kind"] (spWc 4) := ok_wc D T 4
  refine F.ok scKd (fun vs H Q E h => ?_) (fun cdv A outer s H vs Q E hr h => ?_)
  · obtain ⟨g, v, d, rfl, _⟩ := h
    rfl
  · obtain ⟨g, v, d, rfl, hd, k⟩ := h
    obtain ⟨t1, e1⟩ := R.mde
    obtain ⟨t2, e2⟩ := R.mwo
    have hr5 : Room 5 _ := hr.mono (by decide)
    refine ⟨_, pss_one (ps_ret (pe_and (pe_call GFm hr (by rfl) T.fm T.kfm D.bFm .nil pass0 (pa_cons (pv 0) (pa_cons (pe_glob (v := .int 4) (by rfl) e1 ⟨_, rfl⟩) pa_nil)))
      (pe_one (pe_cmpR op_le (pe_call GWc hr5 (by rfl) T.wc T.kwc D.bWc .nil pass0 (pa_cons (pv 0) pa_nil)) (pe_glob (v := .int 400) (by rfl) e2 ⟨_, rfl⟩) (nomark _))))), ?_⟩
    refine ⟨_, rfl, by decide, g, v, d, rfl, hd, fun H1 s1 => ⟨_, rfl, ?_⟩⟩
    cases h : formed 4 d with
    | false =>
      refine iteF ?_
      have q := k H1 s1
      unfold kindB at q
      rw [h] at q
      exact q
    | true =>
      refine iteT ?_
      refine ⟨_, rfl, by decide, g, v, d, rfl, hd.keep (Kv.of s1), h, fun H2 s2 => ⟨_, _, rfl, rfl, ?_⟩⟩
      have q := k H2 (s1.trans s2)
      unfold kindB at q
      rw [h] at q
      exact q
theorem ok_nk (FKd : Fun K "is_kind" "is_kind" sKd fKd fdKd) (bKd : L2.Binds K fdKd ["value"] []) (F : Fun K "_need_kind" "_need_kind" sNk fNk fdNk) : FnOk P w K mg base (L2.CX P w) 11 fNk fdNk ["kind"] (spNk C) := by
  have GKd : FnOk P w K mg base CX0 10 fKd fdKd ["value"] (spAsk kindB) := ok_kd D T R FKd
  refine F.okX scNk (fun vs H Q E h => ?_) (fun cdv A outer s H vs Q E hr h => ?_)
  · obtain ⟨g, v, d, rfl, _⟩ := h
    rfl
  · obtain ⟨g, v, d, rfl, hd, k⟩ := h
    refine ⟨_, pss_one (ps_if (pt_not (pt_val (pe_call GKd hr (by rfl) R.kd R.kkd bKd .nil pass0 (pa_cons (pv 0) pa_nil))))
      (pss_one (ps_raise rfl (takes_of rfl rfl rfl rfl) (pmk_own PySem.F.excBase_ValueError R.exI R.bk R.kbk (raises_own R.sub R.ty) (by rfl)))) pss_nil), ?_⟩
    refine ⟨_, rfl, g, v, d, rfl, hd, fun H1 s1 => ⟨_, rfl, ?_⟩⟩
    rcases k with ⟨e, k⟩ | ⟨e, k⟩
    · rw [e]
      exact iteF (k H1 s1)
    · rw [e]
      exact iteT (k H1 s1)
theorem ok_wo (FKd : Fun K "is_kind" "is_kind" sKd fKd fdKd) (bKd : L2.Binds K fdKd ["value"] []) (FNk : Fun K "_need_kind" "_need_kind" sNk fNk fdNk) (bNk : L2.Binds K fdNk ["kind"] []) (F : Fun K "words_of" "words_of" sWo fWo fdWo) :
    FnOk P w K mg base (L2.CX P w) 12 fWo fdWo ["kind"] (spWo C) := by
  have GNk : FnOk P w K mg base (L2.CX P w) 11 fNk fdNk ["kind"] (spNk C) := ok_nk D T R FKd bKd FNk
  have GWc : FnOk P w K mg base CX0 5 fWc fdWc ["kind"] (spWc 4) := ok_wc D T 4
  refine F.okX scWo (fun vs H Q E h => ?_) (fun cdv A outer s H vs Q E hr h => ?_)
  · obtain ⟨g, v, d, rfl, _⟩ := h
    rfl
  · obtain ⟨g, v, d, rfl, hd, k⟩ := h
    have hr5 : Room 5 _ := hr.mono (by decide)
    refine ⟨_, pss_cons (ps_expr (pe_call GNk hr (by rfl) R.nk R.knk bNk .nil (passes_call (takes_of rfl rfl rfl rfl) (fun _ _ _ _ h => h)) (pa_cons (pv 0) pa_nil)))
      (pss_one (ps_ret (pe_call GWc hr5 (by rfl) T.wc T.kwc D.bWc .nil pass0 (pa_cons (pv 0) pa_nil)))), ?_⟩
    refine ⟨_, rfl, g, v, d, rfl, hd, ?_⟩
    rcases k with ⟨e, k⟩ | ⟨e, k⟩
    · refine .inl ⟨e, fun H1 s1 => ?_⟩
      have hf : formed 4 d = true := by
        unfold kindB at e
        rw [Bool.and_eq_true] at e
        exact e.1
      refine ⟨_, rfl, by decide, g, v, d, rfl, hd.keep (Kv.of s1), hf, fun H2 s2 => k H2 (s1.trans s2)⟩
    · exact .inr ⟨e, k⟩
end
end K0

set_option Elab.async false
set_option linter.all false
set_option pp.maxSteps 700
set_option maxRecDepth 100000
set_option maxHeartbeats 2000000
namespace K0
open PySem PySem.Spec PyProof.Rows L2
open TL (tl)
abbrev sCbw : Stmt := top 37
abbrev sNmr : Stmt := top 39
abbrev sFlr : Stmt := top 40
abbrev sFor : Stmt := top 41
abbrev sKdr : Stmt := top 42
section
variable {X : Cx}
/-- xs == [], xs any list -/
theorem op_eqNil (hu : X.A.units + 64 < cLine) : OpR X (compareOp .Eq) (fun x y H Q => ∃ (a b : Addr) (xs : List V), x = .ref a ∧ y = .ref b ∧ SqL X.K H a xs ∧ SqL X.K H b [] ∧ Q (.bl xs.isEmpty) H) := by
  intro pins s σ H x y v u Q I rx ry h
  obtain ⟨a, b, xs, rfl, rfl, ha, hb, q⟩ := h
  cases (show v = Value.ref a from rx)
  cases (show u = Value.ref b from ry)
  obtain ⟨us, r1, p1, _⟩ := I.list ha
  obtain ⟨ws, r2, p2, _⟩ := I.list hb
  cases r2
  cases r1 with
  | nil => exact SeqAt.eq_listAt (e := fun _ => true) p1.isList p2.isList rfl (by omega) (fun j h1 _ => absurd h1 (by simp)) (fin_bl I q rfl)
  | cons h t => exact SeqAt.eq_list_lengthsAt p1.isList p2.isList (by simp) (by omega) (fin_bl I q rfl)
end
structure MgJ (K : PySem.W.Frag) (mg : Str → Option Value) (fWd fCbw fNmr fFlr fFor : Addr) : Prop where
  wd : mg "_law_tx_words" = some (.ref fWd)
  kwd : PySem.W.keepIn K (.ref fWd) = true
  cbw : mg "_law_cb_words" = some (.ref fCbw)
  kcbw : PySem.W.keepIn K (.ref fCbw) = true
  nmr : mg "_law_name_right" = some (.ref fNmr)
  knmr : PySem.W.keepIn K (.ref fNmr) = true
  flr : mg "_law_fields_right" = some (.ref fFlr)
  kflr : PySem.W.keepIn K (.ref fFlr) = true
  for_ : mg "_law_form_right" = some (.ref fFor)
  kfor : PySem.W.keepIn K (.ref fFor) = true
  isi : mg "isinstance" = none
  len : mg "len" = none
  str : mg "str" = none
  int : mg "int" = none
  bol : mg "bool" = none
  tpl : mg "tuple" = none
  sum : mg "sum" = none
section
variable {P : Program} {w : World} {K : PySem.W.Frag} {mg : Str → Option Value} {base : Heap}
variable {fWd fCbw fNmr fFlr fFor : Addr} {fdWd fdCbw fdNmr fdFlr fdFor : FuncData}
theorem scNmr : FnScope ["value", "letters", "sign"] ["value"] (defScope sNmr) := ⟨rfl, rfl, rfl, by decide +kernel, rfl, by decide +kernel, by decide +kernel⟩
theorem scCbw : FnScope ["kind", "one"] ["kind"] (defScope sCbw) := ⟨rfl, rfl, rfl, by decide +kernel, rfl, by decide +kernel, by decide +kernel⟩
theorem filter_nil {l : List Nat} {f : Nat → Bool} : (l.filter (fun c => !f c)).isEmpty = l.all f := by
  induction l with
  | nil => rfl
  | cons x l ih =>
    rw [List.all_cons, List.filter_cons]
    cases h : f x with
    | true => exact ih
    | false => rfl
theorem mem_36 {c : Nat} : decide (c ∈ (L26 ++ D10).cps.toList) = isSgn c := by
  have e : (L26 ++ D10).cps.toList = L26.cps.toList ++ D10.cps.toList := TL.tl_append L26 D10
  rw [e]
  unfold isSgn isLet
  rw [Bool.eq_iff_iff]
  simp
theorem ok_nmr {f : Addr} {fd : FuncData} (F : Fun K "_law_name_right" "_law_name_right" sNmr f fd) (T : MgJ K mg fWd fCbw fNmr fFlr fFor) (FW : Fun K "_law_tx_words" "_law_tx_words" sWds fWd fdWd) (bW : L2.Binds K fdWd [] []) :
    FnOk P w K mg base CX0 2 f fd ["value"] (spAsk nameB) := by
  have GW : FnOk P w K mg base CX0 1 fWd fdWd [] spWds := ok_wds FW
  refine F.ok scNmr (fun vs H Q E h => ?_) (fun cdv A outer s H vs Q E hr h => ?_)
  · obtain ⟨g, v, d, rfl, _⟩ := h
    rfl
  · obtain ⟨g, v, d, rfl, hd, k⟩ := h
    obtain ⟨t, ht, k1, k2, k3, k4⟩ := hd.ty (K := K)
    refine ⟨_, pss_cons (ps_set (i := 1) scNmr.nd rfl (Or.inr rfl) pe_str)
      (pss_cons (ps_if (PW.pt (pw_or (pt_not (pt_val (pe_callB call_isi (by rfl) T.isi (by decide +kernel) (pa_cons (pv 0) (pa_cons (pe_bltn (v := .ty "str") (by rfl) T.str boot_str rfl) pa_nil)))))
        (pw_or (pt_cmpR op_lt (pe_callB call_len_str (by rfl) T.len PySem.boot_len (pa_cons (pv 0) pa_nil)) pe_int (nomark _))
        (pw_or (pt_cmpR op_gt (pe_callB call_len_str (by rfl) T.len PySem.boot_len (pa_cons (pv 0) pa_nil)) pe_int (nomark _))
        (pw_or1 (pt_cmpR op_in_seq (pv 0) (pe_call0 GW hr (by rfl) T.wd T.kwd bW .nil pass0) (by rfl))))))) (pss_one (ps_ret pe_bl)) pss_nil)
      (pss_one (ps_ret (pe_and (pe_cmpR op_in_sign (pe_ix ix_str (pv 0) pe_int (fun _ _ => rfl)) (pv 1) (by rfl))
        (pe_one (pe_cmpR (op_eqNil hr.units) (pe_lc (own := [("sign", 2)]) (g := gName 2) (by rfl) scNmr.nd (pi_str (pv 0)) (blkOk_by (own := [("sign", 2)]) (N := ["value", "letters", "sign"]) (sc := defScope sNmr) (by decide +kernel))
          (fun _ _ _ _ _ => pg_name (i := 2) scNmr.nd rfl (Or.inl rfl)) (fun _ _ _ _ _ => pts_one (pt_cmpR op_notIn_sign (pv 2) (pe_op op_add_str (pv 1) pe_str) (by rfl))) (fun _ _ _ _ _ => pv 2)) (pe_lst pa_nil) (nomark _))))))), ?_⟩
    refine ⟨_, rfl, _, _, _, _, _, rfl, .ty "str", ht, k1, _, rfl, ?_⟩
    cases hd with
    | @str z hz =>
      refine iteF ?_
      have zs : z.length ≤ sizeLine := by rw [sizeLine_eq]; omega
      have e0 : nameB (.str z) = ((decide (1 ≤ z.length) && decide (z.length ≤ 8)) && (isLet ((tl z).getD 0 0) && ((tl z).all isSgn && !decide (z ∈ wds)))) := rfl
      refine ⟨_, rfl, z, rfl, zs, _, _, rfl, rfl, _, rfl, ?_⟩
      by_cases h1 : 1 ≤ z.length
      · refine ifF (decide_eq_false (by omega)) ?_
        refine ⟨_, rfl, z, rfl, zs, _, _, rfl, rfl, _, rfl, ?_⟩
        by_cases h2 : z.length ≤ 8
        · refine ifF (decide_eq_false (by omega)) ?_
          refine ⟨_, rfl, rfl, fun p H1 s1 hp hp1 => ?_⟩
          refine ⟨p, _, rfl, .inl (SqL.of hp1), rfl, wds_flat, _, rfl, ?_⟩
          rw [decide_eq_true h1, decide_eq_true h2] at e0
          by_cases h3 : z ∈ wds
          · refine ifT (by show inV (.str z) (wds.map V.str) = true; rw [inV_str]; exact decide_eq_true h3) ?_
            have q := k H1 s1
            rw [e0, decide_eq_true h3] at q
            show Q (.bl false) _
            simpa using q
          · refine ifF (by show inV (.str z) (wds.map V.str) = false; rw [inV_str]; exact decide_eq_false h3) ?_
            rw [decide_eq_false h3] at e0
            refine ⟨_, rfl, z, 0, _, rfl, rfl, zs, first_sign h1, _, rfl, _, _, rfl, rfl, _, rfl, ?_⟩
            cases h4 : isLet ((tl z).getD 0 0) with
            | false =>
              refine ifF h4 ?_
              have q := k H1 s1
              rw [e0, h4] at q
              exact q
            | true =>
              refine ifT h4 ?_
              rw [h4] at e0
              refine ⟨_, rfl, z, rfl, fun L hL => lc_it walk_str (fun i H' => H' L = some (.lst ((((tl z).take i).filter (fun c => !isSgn c)).map (fun c => V.str ⟨#[c]⟩))) ∧ Same H1 H') ⟨upd_same, same_new hL⟩ (fun _ _ _ _ => True.intro) ?_ ?_⟩
              · rintro i x H2 H2' hi ⟨h5, s2⟩ ⟨rfl, c, hc, rfl⟩
                refine ⟨rfl, ?_⟩
                have hc' : (tl z)[i]? = some c := by rw [← hc, ← Array.getElem?_toList]
                refine ⟨_, rfl, _, rfl, L26, D10, rfl, rfl, by decide +kernel, c, _, rfl, rfl, _, rfl, ?_⟩
                rw [mem_36]
                cases h6 : isSgn c with
                | true =>
                  refine iteF ⟨?_, s2⟩
                  rw [List.take_succ, hc', List.filter_append]
                  show _ = some (HO.lst ((_ ++ [c].filter _).map _))
                  rw [List.filter_cons, h6]
                  simpa using h5
                | false =>
                  refine iteT ⟨_, rfl, _, h5, ?_, ?_, ?_⟩
                  · have h7 : (((tl z).take i).filter (fun c => !isSgn c)).length ≤ ((tl z).take i).length := List.length_filter_le ..
                    have := TL.len_tl z
                    rw [List.length_take] at h7
                    rw [List.length_map, sizeLine_eq]
                    omega
                  · rw [upd_same, List.take_succ, hc', List.filter_append, List.map_append]
                    show _ = some (HO.lst (_ ++ ([c].filter _).map _))
                    rw [List.filter_cons, h6]
                    rfl
                  · intro b' o e'
                    rw [upd_ne (ne_of_none e' hL)]
                    exact s2 _ _ e'
              · rintro H2 ⟨h5, s2⟩
                have e1 : (tl z).take z.cps.size = tl z := by
                  have : (tl z).length = z.cps.size := Array.length_toList
                  rw [← this, List.take_length]
                rw [e1] at h5
                refine ⟨Nat.zero_le _, fun M hM => ⟨L, M, _, rfl, rfl, SqL.of (by rw [upd_ne (ne_of_none h5 hM)]; exact h5), SqL.of upd_same, ?_⟩⟩
                have q := k _ ((s1.trans s2).trans (same_new (o := .lst []) hM))
                rw [e0] at q
                have e2 : (((tl z).filter (fun c => !isSgn c)).map (fun c => V.str ⟨#[c]⟩)).isEmpty = (tl z).all isSgn := by
                  rw [List.isEmpty_map, filter_nil]
                rw [e2]
                simpa using q
        · refine ifT (decide_eq_true (by omega)) ?_
          have q := k H (Same.refl H)
          rw [e0, decide_eq_false h2] at q
          show Q (.bl false) _
          simpa using q
      · refine ifT (decide_eq_true (by omega)) ?_
        have q := k H (Same.refl H)
        rw [e0, decide_eq_false h1] at q
        show Q (.bl false) _
        simpa using q
    | tup _ _ _ => exact iteT (k H (Same.refl H))
    | int i => exact iteT (k H (Same.refl H))
    | bl b => exact iteT (k H (Same.refl H))
    | non => exact iteT (k H (Same.refl H))
    | lst _ _ _ _ => exact iteT (k H (Same.refl H))
    | dic _ => exact iteT (k H (Same.refl H))
end
end K0

set_option Elab.async false
set_option linter.all false
set_option pp.maxSteps 700
set_option maxRecDepth 100000
set_option maxHeartbeats 2000000
namespace K0
open PySem PySem.Spec PyProof.Rows L2
open TL (tl)
section
variable {P : Program} {w : World} {K : PySem.W.Frag} {mg : Str → Option Value} {base : Heap}
variable {fWd fCbw fNmr fFlr fFor : Addr} {fdWd fdCbw fdNmr fdFlr fdFor : FuncData}
theorem plain_two {s : Str} (h : plainS s = true) : s = "number" ∨ s = "truth" := by
  unfold plainS at h
  rw [Bool.or_eq_true] at h
  rcases h with h | h
  · exact .inl (eq_of_beq h)
  · exact .inr (eq_of_beq h)
theorem plain_fst {s : Str} (h : plainS s = true) : ∃ c, atI s.cps.toList 0 = some c ∧ eqS (.str ⟨#[c]⟩) "row" = false ∧ eqS (.str ⟨#[c]⟩) "record" = false ∧ s.length ≤ sizeLine := by
  rcases plain_two h with rfl | rfl
  · exact ⟨110, atI_nat (j := 0) (by decide +kernel), by decide +kernel, by decide +kernel, by decide +kernel⟩
  · exact ⟨116, atI_nat (j := 0) (by decide +kernel), by decide +kernel, by decide +kernel, by decide +kernel⟩
theorem ok_cbw (T : MgJ K mg fWd fCbw fNmr fFlr fFor) (F : Fun K "_law_cb_words" "_law_cb_words" sCbw fCbw fdCbw) (b : L2.Binds K fdCbw ["kind"] []) : ∀ n : Nat, FnOk P w K mg base CX0 (n + 1) fCbw fdCbw ["kind"] (spWc n)
  | 0 => ok_none F scCbw (fun vs H Q E h => absurd h.1 (by omega))
  | n + 1 => by
    have G : FnOk P w K mg base CX0 (n + 1) fCbw fdCbw ["kind"] (spWc n) := ok_cbw T F b n
    refine F.ok scCbw (fun vs H Q E h => ?_) (fun cdv A outer s H vs Q E hr h => ?_)
    · obtain ⟨_, g, v, d, rfl, _⟩ := h
      rfl
    · obtain ⟨_, g, v, d, rfl, hd, hf, k⟩ := h
      refine ⟨_, pss_cons (ps_if (pt_cmpR (op_eqS hr.units) (pe_ix ix_seq (pv 0) pe_int (fun _ _ => rfl)) pe_str (nomark _))
          (pss_one (ps_ret (pe_op op_mul (pe_ix ix_tup (pv 0) pe_int (fun _ _ => rfl)) (pe_call G hr (by rfl) T.cbw T.kcbw b .nil pass0 (pa_cons (pe_ix ix_tup (pv 0) pe_int (fun _ _ => rfl)) pa_nil))))) pss_nil)
        (pss_one (ps_ret (pe_ifExp (pt_cmpR (op_eqS hr.units) (pe_ix ix_seq (pv 0) pe_int (fun _ _ => rfl)) pe_str (nomark _))
          (pe_callB (cr_sum rfl) (by rfl) T.sum (by decide +kernel) (pa_cons (pe_lc (own := [("one", 1)]) (g := gName 1) (tt := tYes) (by rfl) scCbw.nd (pi_tup (pe_ix ix_tup (pv 0) pe_int (fun _ _ => rfl)))
            (blkOk_by (own := [("one", 1)]) (N := ["kind", "one"]) (sc := defScope sCbw) (by decide +kernel)) (fun _ _ _ _ _ => pg_name (i := 1) scCbw.nd rfl (Or.inl rfl)) (fun _ _ _ _ _ => pts_nil)
            (fun _ _ _ _ _ => pe_call G hr (by rfl) T.cbw T.kcbw b .nil pass0 (pa_cons (pe_ix (show IxR _ (rIxT K) from ix_tup) (pv 1) pe_int (fun _ _ => rfl)) pa_nil))) pa_nil)) pe_int))), ?_⟩
      rcases formed_cases hf with ⟨s, rfl, hs⟩ | ⟨m, hm, hh⟩
      · obtain ⟨rfl, _⟩ := hd.str_inv
        obtain ⟨c, hc, n1, n2, zs⟩ := plain_fst hs
        refine ⟨_, rfl, .inr (.inr ⟨s, 0, c, rfl, rfl, zs, hc, g, .str ⟨#[c]⟩, "row", rfl, .str (by show 1 ≤ 1000; decide), _, rfl, ?_⟩)⟩
        refine ifF n1 ?_
        refine ⟨_, rfl, .inr (.inr ⟨s, 0, c, rfl, rfl, zs, hc, g, .str ⟨#[c]⟩, "record", rfl, .str (by show 1 ≤ 1000; decide), _, rfl, ?_⟩)⟩
        refine ifF n2 ?_
        have q := k H (Same.refl H)
        rw [words_str] at q
        exact q
      · obtain rfl : n = m + 1 := by omega
        rcases hh with ⟨l, rfl, l1, l2, all, _⟩ | ⟨i, z, rfl, i1, i2, hz⟩
        · obtain ⟨b', vx, vy, rfl, hb, hx, hy⟩ := hd.tup2
          refine ⟨_, rfl, .inr (.inl ⟨b', _, 0, vx, rfl, rfl, SqT.of hb, atI_nat (j := 0) rfl, g, .str "record", "row", rfl, hx, _, rfl, ?_⟩)⟩
          refine ifF (by decide +kernel) ?_
          refine ⟨_, rfl, .inr (.inl ⟨b', _, 0, vx, rfl, rfl, SqT.of hb, atI_nat (j := 0) rfl, g, .str "record", "record", rfl, hx, _, rfl, ?_⟩)⟩
          refine ifT (by decide +kernel) ?_
          obtain ⟨c, xs, rfl, hc, _, r⟩ := hy.tup_inv
          refine ⟨_, rfl, b', _, 1, .ref c, rfl, rfl, SqT.of hb, atI_nat (j := 1) rfl, c, rfl, ⟨_, SqT.of hc⟩, fun L hL => lc_tup (K := K) (a := c) (xs := xs)
            (fun i H' => H' L = some (.lst (((l.take i).map (sndW (wordsN (m + 1)))).map V.int)) ∧ Same H H') ⟨upd_same, same_new hL⟩ (fun i H' _ ⟨_, s2⟩ => SqT.of (s2 _ _ hc)) ?_ ?_⟩
          · rintro i x H' hi ⟨h1, s2⟩
            obtain ⟨p, hp, hx'⟩ := r.at_ hi
            obtain ⟨s, y, rfl, _, hfy⟩ := pairF_of (all p (List.mem_of_getElem? hp))
            obtain ⟨e, v1, v2, rfl, he, h3, h4⟩ := (hx'.keep (Kv.of s2)).tup2
            refine ⟨rfl, ?_⟩
            refine ⟨_, rfl, e, _, 1, v2, rfl, rfl, SqT.of he, atI_nat (j := 1) rfl, by omega, g, v2, y, rfl, h4, hfy, fun H2 s3 => ⟨_, s3 _ _ h1, ?_, ?_, ?_⟩⟩
            · rw [List.length_map, List.length_map, List.length_take, sizeLine_eq]
              omega
            · rw [upd_same, List.take_succ, hp, List.map_append, List.map_append]
              rfl
            · intro b' o e'
              rw [upd_ne (ne_of_none e' hL)]
              exact s3 _ _ (s2 _ _ e')
          · rintro H2 ⟨h1, s2⟩
            have hlen := r.len
            rw [hlen, List.take_length] at h1
            exact ⟨L, _, rfl, SqL.of h1, k H2 s2⟩
        · obtain ⟨b', vx, vy, vz, rfl, hb, hx, hy, hz'⟩ := hd.tup3
          obtain rfl := hy.int_inv
          refine ⟨_, rfl, .inr (.inl ⟨b', _, 0, vx, rfl, rfl, SqT.of hb, atI_nat (j := 0) rfl, g, .str "row", "row", rfl, hx, _, rfl, ?_⟩)⟩
          refine ifT (by decide +kernel) ?_
          refine ⟨_, rfl, b', _, 1, _, rfl, rfl, SqT.of hb, atI_nat (j := 1) rfl, _, rfl, b', _, 2, vz, rfl, rfl, SqT.of hb, atI_nat (j := 2) rfl, by omega, g, vz, z, rfl, hz', hz, fun H2 s2 => ⟨_, _, rfl, rfl, .inl ⟨by omega, by omega⟩, ?_⟩⟩
          exact k H2 s2
theorem scFlr : FnScope ["value", "deep", "names", "one"] ["value", "deep"] (defScope sFlr) := ⟨rfl, rfl, rfl, by decide +kernel, rfl, by decide +kernel, by decide +kernel⟩
theorem dup_bad {l : List Dt} {i : Nat} {p : Dt} (hp : l[i]? = some p) (h : nmOf p ∈ (l.take i).map nmOf) : ¬ (l.map nmOf).Nodup := by
  intro nd
  have e : l = l.take i ++ p :: l.drop (i + 1) := by
    have z := List.take_append_drop i l
    rw [List.drop_eq_getElem_cons (List.getElem?_eq_some_iff.mp hp).1, (List.getElem?_eq_some_iff.mp hp).2] at z
    exact z.symm
  rw [e, List.map_append, List.map_cons, List.nodup_append] at nd
  exact nd.2.2 _ h _ List.mem_cons_self rfl
theorem len3 {l : List Dt} : lenIn 1 6 (.tup l) = (decide (1 ≤ (l.length : Int)) && decide ((l.length : Int) ≤ 6)) := rfl
theorem lenIs_two {p : Dt} (h2 : lenIs 2 p = true) : ∃ y z, p = .tup [y, z] := by
  cases p with
  | tup l =>
    match l, h2 with
    | [y, z], _ => exact ⟨y, z, rfl⟩
    | [], h2 => cases h2
    | [_], h2 => cases h2
    | a1 :: a2 :: a3 :: l', h2 =>
      have h2 : decide ((a1 :: a2 :: a3 :: l').length = 2) = true := h2
      rw [decide_eq_true_eq] at h2
      simp at h2
  | _ => cases h2
theorem pairF_not2 {f : Dt → Bool} {p : Dt} (h2 : lenIs 2 p = false) : pairF f p = false := by
  unfold pairF
  split
  · cases h2
  · rfl
theorem flr_step {n : Nat} {f : Addr} {fd : FuncData} (F : Fun K "_law_fields_right" "_law_fields_right" sFlr f fd) (T : MgJ K mg fWd fCbw fNmr fFlr fFor) (FW : Fun K "_law_tx_words" "_law_tx_words" sWds fWd fdWd) (bW : L2.Binds K fdWd [] [])
    (FN : Fun K "_law_name_right" "_law_name_right" sNmr fNmr fdNmr) (bN : L2.Binds K fdNmr ["value"] []) (GF : FnOk P w K mg base CX0 (2 * n + 1) fFor fdFor ["value", "deep"] (spFm n)) (bF : L2.Binds K fdFor ["value", "deep"] []) :
    FnOk P w K mg base CX0 (2 * n + 2) f fd ["value", "deep"] (spFl n) := by
  have GN : FnOk P w K mg base CX0 2 fNmr fdNmr ["value"] (spAsk nameB) := ok_nmr FN T FW bW
  refine F.ok scFlr (fun vs H Q E h => ?_) (fun cdv A outer s H vs Q E hr h => ?_)
  · obtain ⟨_, g, v, d, rfl, _⟩ := h
    rfl
  · obtain ⟨hn, g, v, d, rfl, hd, k⟩ := h
    obtain ⟨t, ht, k1, k2, k3, k4⟩ := hd.ty (K := K)
    have hr2 : Room 2 _ := hr.mono (by omega)
    refine ⟨_, pss_cons (ps_if (PW.pt (pw_or (pt_not (pt_val (pe_callB call_isi (by rfl) T.isi (by decide +kernel) (pa_cons (pv 0) (pa_cons (pe_bltn (v := .ty "tuple") (by rfl) T.tpl boot_tuple rfl) pa_nil)))))
        (pw_or (pt_cmpR op_lt (pe_callB call_len_seq (by rfl) T.len PySem.boot_len (pa_cons (pv 0) pa_nil)) pe_int (nomark _))
        (pw_or1 (pt_cmpR op_gt (pe_callB call_len_seq (by rfl) T.len PySem.boot_len (pa_cons (pv 0) pa_nil)) pe_int (nomark _)))))) (pss_one (ps_ret pe_bl)) pss_nil)
      (pss_cons (ps_set (i := 2) scFlr.nd rfl (Or.inl rfl) (pe_lst pa_nil))
      (pss_cons (ps_for PassesOwn.never rfl (pi_tup (pv 0)) (pg_name (i := 3) scFlr.nd rfl (Or.inl rfl))
        (pss_cons (ps_if (PW.pt (pw_or (pt_not (pt_val (pe_callB call_isi (by rfl) T.isi (by decide +kernel) (pa_cons (pv 3) (pa_cons (pe_bltn (v := .ty "tuple") (by rfl) T.tpl boot_tuple rfl) pa_nil)))))
          (pw_or (pt_cmpR op_ne (pe_callB call_len_seq (by rfl) T.len PySem.boot_len (pa_cons (pv 3) pa_nil)) pe_int (nomark _))
          (pw_or (pt_not (pt_val (pe_call GN hr2 (by rfl) T.nmr T.knmr bN .nil pass0 (pa_cons (pe_ix ix_tup (pv 3) pe_int (fun _ _ => rfl)) pa_nil))))
          (pw_or1 (pt_cmpR op_in_seq (pe_ix ix_tup (pv 3) pe_int (fun _ _ => rfl)) (pv 2) (by rfl))))))) (pss_one (ps_ret pe_bl)) pss_nil)
        (pss_cons (ps_if (pt_not (pt_val (pe_call GF hr (by rfl) T.for_ T.kfor bF .nil pass0 (pa_cons (pe_ix ix_tup (pv 3) pe_int (fun _ _ => rfl)) (pa_cons (pv 1) pa_nil))))) (pss_one (ps_ret pe_bl)) pss_nil)
        (pss_one (ps_expr (qApp (pv 2) (pe_ix ix_tup (pv 3) pe_int (fun _ _ => rfl))))))))
      (pss_one (ps_ret pe_bl)))), ?_⟩
    refine ⟨_, rfl, _, _, _, _, _, rfl, .ty "tuple", ht, k2, _, rfl, ?_⟩
    cases hd with
    | @tup a xs ds e hl r =>
      refine iteF ?_
      have hlen := r.len
      have no : lenIn 1 6 (.tup ds) = false → fieldsF (formed n) (.tup ds) = false := fun z => by
        show (lenIn 1 6 (.tup ds) && _) = false
        rw [z]
        rfl
      refine ⟨_, rfl, a, _, rfl, .inr (SqT.of e), _, _, rfl, rfl, _, rfl, ?_⟩
      by_cases h1 : ds.length < 1
      · refine ifT (decide_eq_true (by omega)) ?_
        have q := k H (Same.refl H)
        rw [no (by rw [len3, decide_eq_false (by omega)]; rfl)] at q
        exact q
      · refine ifF (decide_eq_false (by omega)) ?_
        refine ⟨_, rfl, a, _, rfl, .inr (SqT.of e), _, _, rfl, rfl, _, rfl, ?_⟩
        by_cases h2 : 6 < ds.length
        · refine ifT (decide_eq_true (by omega)) ?_
          have q := k H (Same.refl H)
          rw [no (by rw [len3, decide_eq_false (show ¬ (ds.length : Int) ≤ 6 by omega), Bool.and_false])] at q
          exact q
        · refine ifF (decide_eq_false (by omega)) ?_
          refine ⟨Nat.zero_le _, fun L hL => ?_⟩
          have in6 : lenIn 1 6 (.tup ds) = true := by rw [len3, decide_eq_true (by omega), decide_eq_true (by omega)]; rfl
          have s0 := same_new (o := .lst []) hL
          refine ⟨_, rfl, a, rfl, ⟨_, SqT.of (s0 _ _ e)⟩, for_tup (K := K) (a := a) (xs := xs)
            (fun i σ H' => ∃ fv : Option V, σ = [some (.ref a), some (.int (n : Nat)), some (.ref L), fv] ∧ H' L = some (.lst (((ds.take i).map nmOf).map V.str)) ∧ Same H H' ∧ (∀ p ∈ ds.take i, pairF (formed n) p = true) ∧ ((ds.take i).map nmOf).Nodup)
            ⟨none, rfl, upd_same, s0, (fun p hp => by simp at hp), by simp⟩ (fun i σ H' _ ⟨_, _, _, s2, _⟩ => SqT.of (s2 _ _ e)) ?_ ?_⟩
          · rintro i x σ H' hi ⟨fv, rfl, hLn, s2, all, nd⟩
            obtain ⟨p, hp, hx⟩ := r.at_ hi
            have hx := hx.keep (Kv.of s2)
            obtain ⟨t', ht', _, k2', _, _⟩ := hx.ty (K := K)
            have bad : ∀ H2, Same H' H2 → pairF (formed n) p = false → Q (.bl false) H2 := fun H2 s3 z => by
              have q := k H2 (s2.trans s3)
              rw [fields_bad (List.mem_of_getElem? hp) z] at q
              exact q
            refine ⟨_, rfl, _, _, _, _, _, rfl, .ty "tuple", ht', k2', _, rfl, ?_⟩
            cases h2 : lenIs 2 p with
            | false =>
              have z := bad H' (Same.refl H') (pairF_not2 h2)
              cases hx with
              | @tup b ys es hb _ r2 =>
                refine iteF ?_
                refine ⟨_, rfl, b, _, rfl, .inr (SqT.of hb), rfl, _, rfl, ?_⟩
                refine ifT ?_ z
                rw [r2.len]
                have h2 : decide (es.length = 2) = false := h2
                rw [decide_eq_false_iff_not] at h2
                rw [decide_eq_false (fun q => h2 (by injection q with q; omega))]
                rfl
              | int i => exact iteT z
              | bl b => exact iteT z
              | non => exact iteT z
              | str _ => exact iteT z
              | lst _ _ _ _ => exact iteT z
              | dic _ => exact iteT z
            | true =>
              obtain ⟨y, z, rfl⟩ := lenIs_two h2
              obtain ⟨b, vy, vz, rfl, hb, hy, hz⟩ := hx.tup2
              refine iteF ?_
              refine ⟨_, rfl, b, _, rfl, .inr (SqT.of hb), rfl, _, rfl, ?_⟩
              refine ifF (by rw [decide_eq_true (show V.int (([vy, vz].length : Nat) : Int) = V.int 2 from rfl)]; rfl) ?_
              refine ⟨_, rfl, b, _, 0, vy, rfl, rfl, SqT.of hb, atI_nat (j := 0) rfl, g, vy, y, rfl, hy, fun H3 s4 => ⟨_, rfl, ?_⟩⟩
              cases h3 : nameB y with
              | false =>
                refine iteT (bad H3 s4 ?_)
                show (nameB y && formed n z) = false
                rw [h3]
                rfl
              | true =>
                refine iteF ?_
                obtain ⟨s', rfl, _⟩ := nameB_of h3
                obtain ⟨rfl, _⟩ := hy.str_inv
                refine ⟨_, rfl, b, _, 0, _, rfl, rfl, SqT.of (s4 _ _ hb), atI_nat (j := 0) rfl, _, rfl, L, _, rfl, .inl (SqL.of (s4 _ _ hLn)), rfl, str_flat _, _, rfl, ?_⟩
                by_cases h5 : s' ∈ (ds.take i).map nmOf
                · refine ifT (by show inV (.str s') (((ds.take i).map nmOf).map V.str) = true; rw [inV_str]; exact decide_eq_true h5) ?_
                  have q := k H3 (s2.trans s4)
                  have e0 : fieldsF (formed n) (.tup ds) = false := by
                    show (lenIn 1 6 (.tup ds) && (ds.all (pairF (formed n)) && decide (ds.map nmOf).Nodup)) = false
                    rw [decide_eq_false (dup_bad hp h5), Bool.and_false, Bool.and_false]
                  rw [e0] at q
                  exact q
                · refine ifF (by show inV (.str s') (((ds.take i).map nmOf).map V.str) = false; rw [inV_str]; exact decide_eq_false h5) ?_
                  refine ⟨_, rfl, b, _, 1, vz, rfl, rfl, SqT.of (s4 _ _ hb), atI_nat (j := 1) rfl, _, rfl, hn, g, vz, z, rfl, hz.keep (Kv.of s4), fun H4 s5 => ⟨_, rfl, ?_⟩⟩
                  cases h4 : formed n z with
                  | false =>
                    refine iteT (bad H4 (s4.trans s5) ?_)
                    show (nameB _ && formed n z) = false
                    rw [h4, Bool.and_false]
                  | true =>
                    refine iteF ?_
                    have hLn4 := s5 _ _ (s4 _ _ hLn)
                    refine ⟨_, rfl, .inl ⟨rfl, _, SqL.of hLn4⟩, ?_⟩
                    refine ⟨_, rfl, b, _, 0, _, rfl, rfl, SqT.of (s5 _ _ (s4 _ _ hb)), atI_nat (j := 0) rfl, L, _, _, rfl, rfl, hLn4, ?_, ?_⟩
                    · rw [List.length_map, List.length_map, List.length_take, sizeLine_eq]
                      omega
                    · refine ⟨_, rfl, ?_, ?_, ?_, ?_⟩
                      · rw [upd_same, List.take_succ, hp, List.map_append, List.map_append]
                        rfl
                      · intro b' o e'
                        rw [upd_ne (ne_of_none e' hL)]
                        exact s5 _ _ (s4 _ _ (s2 _ _ e'))
                      · intro p' hp'
                        rw [List.take_succ, hp] at hp'
                        rcases List.mem_append.mp hp' with q | q
                        · exact all p' q
                        · obtain rfl := List.mem_singleton.mp q
                          show (nameB _ && formed n z) = true
                          rw [h3, h4]
                          rfl
                      · rw [List.take_succ, hp, List.map_append, List.nodup_append]
                        refine ⟨nd, by simp, fun x' hx' y' hy' q => ?_⟩
                        have e' : y' = s' := List.mem_singleton.mp hy'
                        exact h5 (e' ▸ q ▸ hx')
          · rintro σ H2 ⟨fv, rfl, hLn, s2, all, nd⟩
            rw [hlen, List.take_length] at all nd
            have q := k H2 s2
            have e0 : fieldsF (formed n) (.tup ds) = true := by
              show (lenIn 1 6 (.tup ds) && (ds.all (pairF (formed n)) && decide (ds.map nmOf).Nodup)) = true
              rw [in6, List.all_eq_true.mpr all, decide_eq_true nd]
              rfl
            rw [e0] at q
            exact q
    | int i => exact iteT (k H (Same.refl H))
    | bl b => exact iteT (k H (Same.refl H))
    | non => exact iteT (k H (Same.refl H))
    | str _ => exact iteT (k H (Same.refl H))
    | lst _ _ _ _ => exact iteT (k H (Same.refl H))
    | dic _ => exact iteT (k H (Same.refl H))
end
end K0

set_option Elab.async false
set_option linter.all false
set_option pp.maxSteps 700
set_option maxRecDepth 100000
set_option maxHeartbeats 2000000
namespace K0
open PySem PySem.Spec PyProof.Rows L2
open TL (tl)
theorem eqS_str (s z : Str) : decide (V.str s = V.str z) = eqS (.str s) z := by
  show decide (V.str s = V.str z) = (s == z)
  by_cases h : s = z
  · subst h
    rw [decide_eq_true rfl, beq_self_eq_true]
  · rw [decide_eq_false (fun e => h (V.str.inj e)), beq_eq_false_iff_ne.mpr h]
theorem in23 (n : Nat) : inV (.int (n : Nat)) [.int 2, .int 3] = decide (n = 2 ∨ n = 3) := by
  have e (m : Nat) : eqV (.int (m : Int)) (.int (n : Nat)) = decide (n = m) := by
    show ((m : Int) == (n : Int)) = _
    by_cases h : n = m
    · subst h
      rw [decide_eq_true rfl, beq_self_eq_true]
    · rw [decide_eq_false h, beq_eq_false_iff_ne.mpr (by omega)]
  show (eqV (.int ((2 : Nat) : Int)) (.int (n : Nat)) || (eqV (.int ((3 : Nat) : Int)) (.int (n : Nat)) || false)) = _
  rw [e, e, Bool.or_false]
  by_cases h2 : n = 2 <;> by_cases h3 : n = 3 <;> simp [h2, h3]
theorem len23 {l : List Dt} : lenIn 2 3 (.tup l) = decide (l.length = 2 ∨ l.length = 3) := by
  show (decide ((2 : Int) ≤ (l.length : Int)) && decide ((l.length : Int) ≤ 3)) = _
  rw [← Bool.decide_and]
  exact decide_eq_decide.mpr (by omega)
theorem isStr_of {d : Dt} (h : isStr d = true) : ∃ s, d = .str s := by
  cases d with
  | str s => exact ⟨s, rfl⟩
  | _ => cases h
theorem eqS_no {d : Dt} {z : Str} (h : isStr d = false) : eqS d z = false := by
  cases d with
  | str s => cases h
  | _ => rfl
section
variable {P : Program} {w : World} {K : PySem.W.Frag} {mg : Str → Option Value} {base : Heap}
variable {fWd fCbw fNmr fFlr fFor : Addr} {fdWd fdCbw fdNmr fdFlr fdFor : FuncData}
theorem scFor : FnScope ["value", "deep"] ["value", "deep"] (defScope sFor) := ⟨rfl, rfl, rfl, by decide +kernel, rfl, by decide +kernel, by decide +kernel⟩
theorem for_step {n : Nat} {f : Addr} {fd : FuncData} (F : Fun K "_law_form_right" "_law_form_right" sFor f fd) (T : MgJ K mg fWd fCbw fNmr fFlr fFor)
    (GL : FnOk P w K mg base CX0 (2 * n + 2) fFlr fdFlr ["value", "deep"] (spFl n)) (bL : L2.Binds K fdFlr ["value", "deep"] [])
    (GF : FnOk P w K mg base CX0 (2 * n + 1) fFor fdFor ["value", "deep"] (spFm n)) (bF : L2.Binds K fdFor ["value", "deep"] []) :
    FnOk P w K mg base CX0 (2 * n + 3) f fd ["value", "deep"] (spFm (n + 1)) := by
  refine F.ok scFor (fun vs H Q E h => ?_) (fun cdv A outer s H vs Q E hr h => ?_)
  · obtain ⟨_, g, v, d, rfl, _⟩ := h
    rfl
  · obtain ⟨_, g, v, d, rfl, hd, k⟩ := h
    obtain ⟨t, ht, k1, k2, k3, k4⟩ := hd.ty (K := K)
    have hr1 : Room (2 * n + 1) _ := hr.mono (by omega)
    refine ⟨_, (pss_cons (ps_if (pt_val (pe_callB call_isi (by rfl) T.isi (by decide +kernel) (pa_cons (pv 0) (pa_cons (pe_bltn (v := .ty "str") (by rfl) T.str boot_str rfl) pa_nil)))) (pss_one (ps_ret (pe_cmpR op_in_seq (pv 0) (pe_lst (pa_cons pe_str (pa_cons pe_str pa_nil))) (by rfl)))) pss_nil)
      (pss_cons (ps_if (PW.pt (pw_or (pt_not (pt_val (pe_callB call_isi (by rfl) T.isi (by decide +kernel) (pa_cons (pv 0) (pa_cons (pe_bltn (v := .ty "tuple") (by rfl) T.tpl boot_tuple rfl) pa_nil))))) (pw_or (pt_cmpR op_eq (pv 1) pe_int (nomark _)) (pw_or (pt_cmpR op_notIn_seq (pe_callB call_len_seq (by rfl) T.len PySem.boot_len (pa_cons (pv 0) pa_nil)) (pe_lst (pa_cons pe_int (pa_cons pe_int pa_nil))) (by rfl)) (pw_or1 (pt_not (pt_val (pe_callB call_isi (by rfl) T.isi (by decide +kernel) (pa_cons (pe_ix ix_tup (pv 0) pe_int (fun _ _ => rfl)) (pa_cons (pe_bltn (v := .ty "str") (by rfl) T.str boot_str rfl) pa_nil)))))))))) (pss_one (ps_ret pe_bl)) pss_nil)
      (pss_cons (ps_if (PW.pt (pw_and (pt_cmpR (op_eqS hr.units) (pe_ix ix_tup (pv 0) pe_int (fun _ _ => rfl)) pe_str (nomark _)) (pw_and1 (pt_cmpR op_eq (pe_callB call_len_seq (by rfl) T.len PySem.boot_len (pa_cons (pv 0) pa_nil)) pe_int (nomark _))))) (pss_one (ps_ret (pe_call GL hr (by rfl) T.flr T.kflr bL .nil pass0 (pa_cons (pe_ix ix_tup (pv 0) pe_int (fun _ _ => rfl)) (pa_cons (pe_op op_sub (pv 1) pe_int) pa_nil))))) pss_nil)
      (pss_cons (ps_if (PW.pt (pw_or (pt_cmpR op_ne (pe_ix ix_tup (pv 0) pe_int (fun _ _ => rfl)) pe_str (nomark _)) (pw_or (pt_cmpR op_ne (pe_callB call_len_seq (by rfl) T.len PySem.boot_len (pa_cons (pv 0) pa_nil)) pe_int (nomark _)) (pw_or (pt_not (pt_val (pe_callB call_isi (by rfl) T.isi (by decide +kernel) (pa_cons (pe_ix ix_tup (pv 0) pe_int (fun _ _ => rfl)) (pa_cons (pe_bltn (v := .ty "int") (by rfl) T.int boot_int rfl) pa_nil))))) (pw_or1 (pt_val (pe_callB call_isi (by rfl) T.isi (by decide +kernel) (pa_cons (pe_ix ix_tup (pv 0) pe_int (fun _ _ => rfl)) (pa_cons (pe_bltn (v := .ty "bool") (by rfl) T.bol boot_bool rfl) pa_nil))))))))) (pss_one (ps_ret pe_bl)) pss_nil)
      (pss_one (ps_ret (pe_and (pe_chain op_le op_le pe_int (pe_ix ix_tup (pv 0) pe_int (fun _ _ => rfl)) pe_int) (pe_one (pe_call GF hr1 (by rfl) T.for_ T.kfor bF .nil pass0 (pa_cons (pe_ix ix_tup (pv 0) pe_int (fun _ _ => rfl)) (pa_cons (pe_op op_sub (pv 1) pe_int) pa_nil))))))))))), ?_⟩
    refine ⟨_, rfl, _, _, _, _, _, rfl, .ty "str", ht, k1, _, rfl, ?_⟩
    have sub1 : ((n + 1 : Nat) : Int) - 1 = (n : Nat) := by omega
    cases hd with
    | @str z h =>
      refine iteT ⟨_, rfl, (by show 2 ≤ sizeLine; decide), fun p hp => ⟨p, _, rfl, .inl (SqL.of upd_same), rfl, rfl, ?_⟩⟩
      have q := k _ (same_new (o := .lst [V.str "number", V.str "truth"]) hp)
      have e : inV (.str z) [.str "number", .str "truth"] = plainB (.str z) := two_str
      rw [formed_str] at q
      rw [e]
      exact q
    | @tup a xs ds e hl r =>
      refine iteF ?_
      have hlen := r.len
      refine ⟨_, rfl, _, _, _, _, _, rfl, .ty "tuple", ht, k2, _, rfl, iteF ?_⟩
      refine ⟨_, rfl, rfl, _, rfl, ?_⟩
      cases n with
      | zero =>
        refine ifT (by decide) ?_
        exact k H (Same.refl H)
      | succ m =>
        refine ifF (decide_eq_false (fun z => by injection z with z; omega)) ?_
        refine ⟨_, rfl, a, _, rfl, .inr (SqT.of e), (by show 2 ≤ sizeLine; decide), fun p hp => ⟨p, _, rfl, .inl (SqL.of upd_same), rfl, rfl, _, rfl, ?_⟩⟩
        have s1 := same_new (o := .lst [V.int 2, V.int 3]) hp
        generalize upd H p (.lst [V.int 2, V.int 3]) = H1 at s1 ⊢
        rw [hlen, in23, ← len23 (l := ds)]
        cases h23 : lenIn 2 3 (.tup ds) with
        | false =>
          refine iteT ?_
          have q := k H1 s1
          rw [form_short h23] at q
          exact q
        | true =>
          refine iteF ?_
          have fin : ∀ {x : Dt} {vx : V} {rest : List V} {dest : List Dt}, DV g H1 vx x → ∃ t, TyX K H1 vx t ∧ PySem.W.kitOne K t (.type "str") = some (isStr x) := fun h => by
            obtain ⟨t, a, b, _⟩ := h.ty (K := K)
            exact ⟨t, a, b⟩
          have e1 := s1 _ _ e
          rcases form_long h23 with ⟨x, y, rfl⟩ | ⟨x, y, z, rfl⟩
          · cases r with
            | @cons vx vs _ _ hx r =>
            cases r with
            | @cons vy vs _ _ hy r =>
            cases r
            have hx := hx.keep (Kv.of s1)
            have hy := hy.keep (Kv.of s1)
            obtain ⟨tx, hx1, kx1, _⟩ := hx.ty (K := K)
            have e0 : formed (m + 1 + 1) (.tup [x, y]) = (eqS x "record" && fieldsF (formed (m + 1)) y) := rfl
            refine ⟨_, rfl, a, _, 0, vx, rfl, rfl, SqT.of e1, atI_nat (j := 0) rfl, _, _, _, _, _, rfl, .ty "str", hx1, kx1, _, rfl, ?_⟩
            cases hs : isStr x with
            | false =>
              refine iteT ?_
              have q := k H1 s1
              rw [e0, eqS_no hs] at q
              exact q
            | true =>
              refine iteF ?_
              obtain ⟨s, rfl⟩ := isStr_of hs
              obtain ⟨rfl, _⟩ := hx.str_inv
              refine ⟨_, rfl, a, _, 0, _, rfl, rfl, SqT.of e1, atI_nat (j := 0) rfl, g, .str s, "record", rfl, hx, _, rfl, ?_⟩
              cases h1 : eqS (.str s) "record" with
              | true =>
                refine iteT ?_
                refine ⟨_, rfl, a, _, rfl, .inr (SqT.of e1), rfl, _, rfl, ?_⟩
                refine ifT rfl ?_
                refine ⟨_, rfl, a, _, 1, vy, rfl, rfl, SqT.of e1, atI_nat (j := 1) rfl, _, rfl, _, _, rfl, rfl, by omega, g, vy, y, ?_, hy, fun H2 s2 => ?_⟩
                · show [vy, V.int (((m + 1 + 1 : Nat) : Int) - 1)] = _
                  rw [sub1]
                · have q := k H2 (s1.trans s2)
                  rw [e0, h1] at q
                  exact q
              | false =>
                refine iteF ?_
                have q := k H1 s1
                rw [e0, h1] at q
                refine ⟨_, rfl, a, _, 0, _, rfl, rfl, SqT.of e1, atI_nat (j := 0) rfl, rfl, _, rfl, ?_⟩
                rw [eqS_str]
                cases h2 : eqS (.str s) "row" with
                | false => exact iteT q
                | true =>
                  refine iteF ?_
                  refine ⟨_, rfl, a, _, rfl, .inr (SqT.of e1), rfl, _, rfl, ?_⟩
                  exact ifT rfl q
          · cases r with
            | @cons vx vs _ _ hx r =>
            cases r with
            | @cons vy vs _ _ hy r =>
            cases r with
            | @cons vz vs _ _ hz r =>
            cases r
            have hx := hx.keep (Kv.of s1)
            have hy := hy.keep (Kv.of s1)
            have hz := hz.keep (Kv.of s1)
            obtain ⟨tx, hx1, kx1, _⟩ := hx.ty (K := K)
            have e0 : formed (m + 1 + 1) (.tup [x, y, z]) = (eqS x "row" && (intIn 1 64 y && formed (m + 1) z)) := rfl
            refine ⟨_, rfl, a, _, 0, vx, rfl, rfl, SqT.of e1, atI_nat (j := 0) rfl, _, _, _, _, _, rfl, .ty "str", hx1, kx1, _, rfl, ?_⟩
            cases hs : isStr x with
            | false =>
              refine iteT ?_
              have q := k H1 s1
              rw [e0, eqS_no hs] at q
              exact q
            | true =>
              refine iteF ?_
              obtain ⟨s, rfl⟩ := isStr_of hs
              obtain ⟨rfl, _⟩ := hx.str_inv
              have step : (if eqS (.str s) "row" = true then True else True) := by split <;> trivial
              refine ⟨_, rfl, a, _, 0, _, rfl, rfl, SqT.of e1, atI_nat (j := 0) rfl, g, .str s, "record", rfl, hx, _, rfl, ?_⟩
              have row : ∀ (h1 : eqS (.str s) "row" = false), Q (.bl false) H1 := fun h1 => by
                have q := k H1 s1
                rw [e0, h1] at q
                exact q
              have tail : ∃ t, TyX K H1 vy t ∧ PySem.W.kitOne K t (.type "bool") = some (isBl y) ∧ PySem.W.kitOne K t (.type "int") = some (isInt y || isBl y) := by
                obtain ⟨t, h0, _, _, h3, h4⟩ := hy.ty (K := K)
                exact ⟨t, h0, h3, h4⟩
              obtain ⟨ty, hy1, ky3, ky4⟩ := tail
              cases h1 : eqS (.str s) "record" with
              | true =>
                refine iteT ?_
                refine ⟨_, rfl, a, _, rfl, .inr (SqT.of e1), rfl, _, rfl, ?_⟩
                refine ifF rfl ?_
                refine ⟨_, rfl, a, _, 0, _, rfl, rfl, SqT.of e1, atI_nat (j := 0) rfl, rfl, _, rfl, ?_⟩
                rw [eqS_str]
                have h2 : eqS (.str s) "row" = false := by
                  have q := eqS_of h1
                  injection q with q
                  rw [q]
                  decide +kernel
                rw [h2]
                exact iteT (row h2)
              | false =>
                refine iteF ?_
                refine ⟨_, rfl, a, _, 0, _, rfl, rfl, SqT.of e1, atI_nat (j := 0) rfl, rfl, _, rfl, ?_⟩
                rw [eqS_str]
                cases h2 : eqS (.str s) "row" with
                | false => exact iteT (row h2)
                | true =>
                  refine iteF ?_
                  refine ⟨_, rfl, a, _, rfl, .inr (SqT.of e1), rfl, _, rfl, ?_⟩
                  refine ifF rfl ?_
                  refine ⟨_, rfl, a, _, 1, _, rfl, rfl, SqT.of e1, atI_nat (j := 1) rfl, _, _, _, _, _, rfl, .ty "int", hy1, ky4, _, rfl, ?_⟩
                  have no : isInt y = false → Q (.bl false) H1 := fun z => by
                    have q := k H1 s1
                    have e2 : intIn 1 64 y = false := by
                      cases y with
                      | int i => cases z
                      | _ => rfl
                    rw [e0, e2, Bool.false_and, Bool.and_false] at q
                    exact q
                  cases y with
                  | int i =>
                    refine iteF ?_
                    refine ⟨_, rfl, a, _, 1, _, rfl, rfl, SqT.of e1, atI_nat (j := 1) rfl, _, _, _, _, _, rfl, .ty "bool", hy1, ky3, _, rfl, iteF ?_⟩
                    obtain rfl := hy.int_inv
                    have e2 : intIn 1 64 (.int i) = (decide (1 ≤ i) && decide (i ≤ 64)) := rfl
                    refine ⟨_, rfl, a, _, 1, _, rfl, rfl, SqT.of e1, atI_nat (j := 1) rfl, _, _, rfl, rfl, _, rfl, ?_⟩
                    cases h3 : decide (1 ≤ i) with
                    | false =>
                      rw [h3] at e2
                      have q := k H1 s1
                      rw [e0, e2, h2] at q
                      exact iteF ⟨_, rfl, iteF q⟩
                    | true =>
                      rw [h3] at e2
                      refine iteT ⟨_, _, rfl, rfl, _, rfl, ?_⟩
                      cases h4 : decide (i ≤ 64) with
                      | false =>
                        rw [h4] at e2
                        have q := k H1 s1
                        rw [e0, e2, h2] at q
                        exact iteF q
                      | true =>
                        rw [h4] at e2
                        refine iteT ⟨_, rfl, a, _, 2, _, rfl, rfl, SqT.of e1, atI_nat (j := 2) rfl, _, rfl, _, _, rfl, rfl, by omega, g, vz, z, ?_, hz, fun H2 s2 => ?_⟩
                        · show [vz, V.int (((m + 1 + 1 : Nat) : Int) - 1)] = _
                          rw [sub1]
                        · have q := k H2 (s1.trans s2)
                          rw [e0, e2, h2] at q
                          exact q
                  | bl b =>
                    refine iteF ?_
                    refine ⟨_, rfl, a, _, 1, _, rfl, rfl, SqT.of e1, atI_nat (j := 1) rfl, _, _, _, _, _, rfl, .ty "bool", hy1, ky3, _, rfl, iteT (no rfl)⟩
                  | non => exact iteT (no rfl)
                  | str _ => exact iteT (no rfl)
                  | lst _ => exact iteT (no rfl)
                  | tup _ => exact iteT (no rfl)
                  | dic => exact iteT (no rfl)
    | int i => exact iteF ⟨_, rfl, _, _, _, _, _, rfl, .ty "tuple", ht, k2, _, rfl, iteT (by have q := k H (Same.refl H); rw [formed_other rfl rfl] at q; exact q)⟩
    | bl b => exact iteF ⟨_, rfl, _, _, _, _, _, rfl, .ty "tuple", ht, k2, _, rfl, iteT (by have q := k H (Same.refl H); rw [formed_other rfl rfl] at q; exact q)⟩
    | non => exact iteF ⟨_, rfl, _, _, _, _, _, rfl, .ty "tuple", ht, k2, _, rfl, iteT (by have q := k H (Same.refl H); rw [formed_other rfl rfl] at q; exact q)⟩
    | lst _ _ _ _ => exact iteF ⟨_, rfl, _, _, _, _, _, rfl, .ty "tuple", ht, k2, _, rfl, iteT (by have q := k H (Same.refl H); rw [formed_other rfl rfl] at q; exact q)⟩
    | dic _ => exact iteF ⟨_, rfl, _, _, _, _, _, rfl, .ty "tuple", ht, k2, _, rfl, iteT (by have q := k H (Same.refl H); rw [formed_other rfl rfl] at q; exact q)⟩
end
end K0

set_option Elab.async false
set_option linter.all false
set_option pp.maxSteps 700
set_option maxRecDepth 100000
set_option maxHeartbeats 2000000
namespace K0
open PySem PySem.Spec PyProof.Rows L2
open TL (tl)
abbrev sShf : Stmt := top 31
abbrev sTab : Stmt := top 35
abbrev sNmd : Stmt := top 36
abbrev sKnd : Stmt := top 38
/-! ### lists of texts as data -/
theorem erase_map {α β : Type} (f : α → β) (l : List α) (i : Nat) : (l.map f).eraseIdx i = (l.eraseIdx i).map f := by
  rw [List.eraseIdx_eq_take_drop_succ, List.eraseIdx_eq_take_drop_succ, List.map_append, List.map_take, List.map_drop]
theorem erase_perm {α : Type} {l : List α} {i : Nat} (h : i < l.length) : (l[i] :: l.eraseIdx i).Perm l := by
  rw [List.eraseIdx_eq_take_drop_succ]
  have q := List.perm_middle (a := l[i]) (l₁ := l.take i) (l₂ := l.drop (i + 1))
  rw [← List.drop_eq_getElem_cons h, List.take_append_drop] at q
  exact q.symm

theorem freshF {H H1 : Hp} {o : Addr} {u : HO} (ho : H o = none) (e : upd H o u = H1) : Same H H1 ∧ H1 o = some u := by
  subst e
  exact ⟨same_new ho, upd_same⟩

theorem dpStrs {K : PySem.W.Frag} {H : Hp} : ∀ gs : List Str, DpAll K H (gs.map V.str) (gs.map PyData.str)
  | [] => .nil
  | x :: r => .cons (.str x) (dpStrs r)
theorem layStrs : ∀ gs : List Str, (∀ x ∈ gs, PyData.strOk x = true) → PyData.canLayAll0 (gs.map PyData.str) = true
  | [], _ => rfl
  | x :: r, h => by
    show (PyData.strOk x && PyData.canLayAll0 (r.map PyData.str)) = true
    rw [layStrs r fun y hy => h y (List.mem_cons_of_mem _ hy), h x List.mem_cons_self]
    rfl
theorem depStrs : ∀ gs : List Str, PyData.depthAll (gs.map PyData.str) = 0
  | [] => rfl
  | x :: r => by
    show max 0 (PyData.depthAll (r.map PyData.str)) = 0
    rw [depStrs r]
    rfl
theorem shStrs (gs : List Str) (h : ∀ x ∈ gs, PyData.strOk x = true) : SeqAt.shaped (.list (gs.map PyData.str)) = true := by
  unfold SeqAt.shaped
  show (PyData.canLayAll0 (gs.map PyData.str) && decide (PyData.depthAll (gs.map PyData.str) + 1 ≤ 64)) = true
  rw [layStrs gs h, depStrs]
  rfl
/-! ### data without lists -/
mutual
def pur : Dt → Bool
  | .tup l => purs l
  | .lst _ => false
  | .dic => false
  | _ => true
def purs : List Dt → Bool
  | [] => true
  | d :: l => pur d && purs l
end
mutual
def dep : Dt → Nat
  | .tup l => deps l + 1
  | _ => 0
def deps : List Dt → Nat
  | [] => 0
  | d :: l => max (dep d) (deps l)
end
theorem deps_mem {l : List Dt} {d : Dt} : d ∈ l → dep d ≤ deps l := by
  induction l with
  | nil => intro h; cases h
  | cons x l ih =>
    intro h
    rcases List.mem_cons.mp h with rfl | h
    · exact Nat.le_max_left _ _
    · exact Nat.le_trans (ih h) (Nat.le_max_right _ _)
theorem deps_le {l : List Dt} {k : Nat} : (∀ d ∈ l, dep d ≤ k) → deps l ≤ k := by
  induction l with
  | nil => intro h; exact Nat.zero_le _
  | cons x l ih => exact fun h => Nat.max_le.mpr ⟨h x List.mem_cons_self, ih fun d hd => h d (List.mem_cons_of_mem _ hd)⟩
theorem purs_all {l : List Dt} : purs l = l.all pur := by
  induction l with
  | nil => rfl
  | cons x l ih => rw [List.all_cons, ← ih]; rfl
theorem purs_mem {l : List Dt} {d : Dt} (h : purs l = true) (m : d ∈ l) : pur d = true := by
  rw [purs_all] at h
  exact List.all_eq_true.mp h d m
/-- tuples stay -/
def Kt (H H' : Hp) : Prop := ∀ b xs, H b = some (.tup xs) → H' b = some (.tup xs)
theorem Kt.of {H H' : Hp} (s : Same H H') : Kt H H' := fun b xs e => s _ _ e
theorem Kt.put {H : Hp} {p : Addr} {o : HO} {l : List V} (h : H p = some (.lst l)) : Kt H (upd H p o) := fun b xs e => by
  rw [upd_ne (fun z => by rw [z, h] at e; cases e)]
  exact e
theorem Kt.kp {g d c : Addr} {H H' : Hp} {n : Nat} (S : StA H d g c n) (k : Kp d g H H') : Kt H H' := (Kv.kp S k).tup
mutual
theorem DV.keepP {g g' : Addr} {H H' : Hp} (k : Kt H H') : ∀ {v : V} {d : Dt}, pur d = true → DV g H v d → DV g' H' v d
  | _, _, _, .non => .non
  | _, _, _, .bl b => .bl b
  | _, _, _, .int i => .int i
  | _, _, _, .str h => .str h
  | _, _, p, .lst e n h r => by cases p
  | _, _, p, .tup e h r => .tup (k _ _ e) h (DVs.keepP k (by exact p) r)
  | _, _, p, .dic e => by cases p
theorem DVs.keepP {g g' : Addr} {H H' : Hp} (k : Kt H H') : ∀ {v : List V} {d : List Dt}, purs d = true → DVs g H v d → DVs g' H' v d
  | _, _, _, .nil => .nil
  | _, _, p, .cons h r => by
    have p : (pur _ && purs _) = true := p
    rw [Bool.and_eq_true] at p
    exact .cons (DV.keepP k p.1 h) (DVs.keepP k p.2 r)
end
structure MgL (K : PySem.W.Frag) (mg : Str → Option Value) (fShf fTab fNmd fKnd fNam fCbw : Addr) : Prop where
  shf : mg "_law_shuffled" = some (.ref fShf)
  kshf : PySem.W.keepIn K (.ref fShf) = true
  tab : mg "_law_tx_table" = some (.ref fTab)
  ktab : PySem.W.keepIn K (.ref fTab) = true
  nmd : mg "_law_tx_named" = some (.ref fNmd)
  knmd : PySem.W.keepIn K (.ref fNmd) = true
  knd : mg "_law_cb_kind" = some (.ref fKnd)
  kknd : PySem.W.keepIn K (.ref fKnd) = true
  nam : mg "_law_tx_name" = some (.ref fNam)
  knam : PySem.W.keepIn K (.ref fNam) = true
  cbw : mg "_law_cb_words" = some (.ref fCbw)
  kcbw : PySem.W.keepIn K (.ref fCbw) = true
  lst : mg "list" = none
  tpl : mg "tuple" = none
  isi : mg "isinstance" = none
  str : mg "str" = none
  min : mg "min" = none
  rng : mg "range" = none
  len : mg "len" = none
def spShf : Sp := fun vs H Q _ => ∃ (d g c a : Addr) (n : Nat) (ts : List Str), vs = [.ref d, .ref a] ∧ StA H d g c n ∧ n ≤ 900000000 ∧ H a = some (.lst (ts.map V.str)) ∧ ts.length ≤ 60 ∧ (∀ x ∈ ts, PyData.strOk x = true) ∧
  ∀ (p : Addr) (ys : List Str) (H' : Hp), ys.Perm ts → StA H' d g c (n + ts.length) → Kp d g H H' → H p = none → H' p = some (.lst (ys.map V.str)) → Q (.ref p) H'
section
variable {P : Program} {w : World} {K : PySem.W.Frag} {mg : Str → Option Value} {base : Heap}
variable {fShf fTab fNmd fKnd fNam fCbw : Addr}
theorem Kp.upF {d g p : Addr} {H H' : Hp} {o : HO} (k : Kp d g H H') (hp : H p = none) : Kp d g H (upd H' p o) := fun b u e h1 h2 => by
  rw [upd_ne (ne_of_none e hp)]
  exact k b u e h1 h2
theorem StA.upF {H : Hp} {d g c p : Addr} {n : Nat} {o : HO} (S : StA H d g c n) (h1 : p ≠ d) (h2 : p ≠ g) (h3 : p ≠ c) : StA (upd H p o) d g c n := by
  obtain ⟨r, tt, gs, cs, S⟩ := S
  exact ⟨r, tt, gs, cs, { S with dk := by rw [upd_ne h1.symm]; exact S.dk, gl := by rw [upd_ne h2.symm]; exact S.gl, cl := by rw [upd_ne h3.symm]; exact S.cl }⟩
theorem StA.free {H : Hp} {d g c : Addr} {n : Nat} (S : StA H d g c n) {p : Addr} (hp : H p = none) : p ≠ d ∧ p ≠ g ∧ p ≠ c := by
  obtain ⟨r, tt, gs, cs, S⟩ := S
  exact ⟨(ne_of_none S.dk hp).symm, (ne_of_none S.gl hp).symm, (ne_of_none S.cl hp).symm⟩
theorem scShf : FnScope ["state", "some", "left", "found"] ["state", "some"] (defScope sShf) := ⟨rfl, rfl, rfl, by decide +kernel, rfl, by decide +kernel, by decide +kernel⟩
theorem ok_shf {f fM fD : Addr} {fd fdM fdD : FuncData} (F : Fun K "_law_shuffled" "_law_shuffled" sShf f fd) (T : MgS K mg fM fD) (L : MgL K mg fShf fTab fNmd fKnd fNam fCbw) (FM : Fun K "_law_mixed" "_law_mixed" sMix fM fdM) (bM : L2.Binds K fdM ["state"] [])
    (FD : Fun K "_law_draw" "_law_draw" sDrw fD fdD) (bD : L2.Binds K fdD ["state", "room"] []) : FnOk P w K mg base CX0 3 f fd ["state", "some"] spShf := by
  have GD : FnOk P w K mg base CX0 2 fD fdD ["state", "room"] spDrw := ok_drw FD T FM bM
  refine F.ok scShf (fun vs H Q E h => ?_) (fun cdv A outer s H vs Q E hr h => ?_)
  · obtain ⟨d, g, c, a, n, ts, rfl, _⟩ := h
    rfl
  · obtain ⟨d, g, c, a, n, ts, rfl, S, hn, ha, hts, hok, k⟩ := h
    refine ⟨_, (pss_cons (ps_par (i := 2) (j := 3) (by rfl) scShf.nd rfl rfl (by decide) rfl rfl (pa_cons (pe_callTy call_list_of (by rfl) L.lst (by decide +kernel) (pa_cons (pv 1) pa_nil)) (pa_cons (pe_lst pa_nil) pa_nil)) (by rfl))
      (pss_cons (ps_while PassesOwn.never (pt_cmpR (op_neD hr.units) (pv 2) (pe_lst pa_nil) (nomark _))
          (pss_one (ps_expr (qApp (pv 3) (qPopAt (pv 2) (pe_call GD hr (by rfl) T.dr T.kdr bD .nil pass0 (pa_cons (pv 0) (pa_cons (pe_callB call_len_seq (by rfl) T.len PySem.boot_len (pa_cons (pv 2) pa_nil)) pa_nil))))))))
      (pss_one (ps_ret (pv 3))))), ?_⟩
    refine ⟨_, rfl, a, _, rfl, .inl (SqL.of ha), fun l hl => ?_⟩
    refine ⟨Nat.zero_le _, fun f hf => ?_⟩
    refine ⟨_, _, rfl, ?_⟩
    have lf : l ≠ f := ne_of_none upd_same hf
    have hf0 : H f = none := by
      rw [upd_ne lf.symm] at hf
      exact hf
    have fl := S.free hl
    have ff := S.free hf0
    refine while_m (fun m σ H' => ∃ ls fs : List Str, σ = [some (.ref d), some (.ref a), some (.ref l), some (.ref f)] ∧ ls.length = m ∧ H' l = some (.lst (ls.map V.str)) ∧ H' f = some (.lst (fs.map V.str)) ∧ (fs ++ ls).Perm ts ∧ StA H' d g c (n + fs.length) ∧ Kp d g H H') ts.length
      ⟨ts, [], rfl, rfl, by rw [upd_ne lf]; exact upd_same, upd_same, List.Perm.refl _, (S.keep (same_new hl)).keep (same_new hf), ((Kp.refl H).upF hl).upF hf0⟩ ?_
    rintro m σ H1 ⟨ls, fs, rfl, hm, hL, hF, pm, S1, kp⟩
    have plen : fs.length + ls.length = ts.length := by
      have := pm.length_eq
      rw [List.length_append] at this
      exact this
    refine ⟨_, rfl, Nat.zero_le _, fun e he => ?_⟩
    have se := same_new (o := .lst []) he
    have hL2 := se _ _ hL
    refine ⟨_, .list [], .lst (SqL.of hL2) (dpStrs ls), .lst (SqL.of upd_same) .nil, shStrs ls (fun x hx => hok x (pm.mem_iff.mp (List.mem_append_right _ hx))), by decide, ?_⟩
    cases ls with
    | nil =>
      refine ⟨_, rfl, ?_⟩
      refine ifF rfl ?_
      refine ⟨_, rfl, k f fs _ ?_ ?_ (fun b u e' h1 h2 => se _ _ (kp b u e' h1 h2)) hf0 (se _ _ hF)⟩
      · rw [List.append_nil] at pm
        exact pm
      · have e2 : fs.length = ts.length := by simpa using plen
        rw [← e2]
        exact S1.keep se
    | cons x xs =>
      refine ⟨_, rfl, ?_⟩
      refine ifT rfl ?_
      refine ⟨fun σ' H' => ∃ m', m' < m ∧ ∃ ls fs : List Str, σ' = [some (.ref d), some (.ref a), some (.ref l), some (.ref f)] ∧ ls.length = m' ∧ H' l = some (.lst (ls.map V.str)) ∧ H' f = some (.lst (fs.map V.str)) ∧ (fs ++ ls).Perm ts ∧ StA H' d g c (n + fs.length) ∧ Kp d g H H', fun σ' H' z => z, ?_⟩
      have hF2 := se _ _ hF
      have S2 := S1.keep se
      have kp2 : Kp d g H (upd H1 e (.lst [])) := fun b u e' h1 h2 => se _ _ (kp b u e' h1 h2)
      generalize upd H1 e (.lst []) = H2 at hL2 hF2 S2 kp2 ⊢
      refine ⟨_, rfl, .inl ⟨rfl, _, SqL.of hF2⟩, _, rfl, .inl ⟨rfl, _, SqL.of hL2⟩, _, rfl, _, rfl, l, _, rfl, .inl (SqL.of hL2), d, g, c, n + fs.length, _, rfl, S2, by omega, by simp only [List.length_map, List.length_cons]; omega, by simp only [List.length_map, List.length_cons] at plen ⊢; omega, fun v H3 h0 h1 S3 kp3 => ?_⟩
      have hl3 := kp3 _ _ hL2 fl.1 fl.2.1
      have hf3 := kp3 _ _ hF2 ff.1 ff.2.1
      rw [List.length_map] at h1
      have hi : v.toNat < (x :: xs).length := by omega
      have hlen60 : (x :: xs).length ≤ 60 := by omega
      refine ⟨l, (x :: xs).map V.str, v, v.toNat, .str (x :: xs)[v.toNat], rfl, rfl, hl3, by omega, by omega, ?_, ?_, ?_⟩
      · refine seqIndex_of h0 ?_
        rw [List.length_map]
        exact h1
      · rw [List.getElem?_map, List.getElem?_eq_getElem hi]
        rfl
      · refine ⟨f, fs.map V.str, _, rfl, rfl, by rw [upd_ne lf.symm]; exact hf3, by rw [List.length_map, sizeLine_eq]; omega, ?_⟩
        refine ⟨m - 1, by simp only [List.length_cons] at hm; omega, (x :: xs).eraseIdx v.toNat, fs ++ [(x :: xs)[v.toNat]], rfl, ?_, ?_, ?_, ?_, ?_, ?_⟩
        · rw [List.length_eraseIdx_of_lt hi]
          simp only [List.length_cons] at hm ⊢
          omega
        · rw [upd_ne lf, upd_same, erase_map]
        · rw [upd_same, List.map_append]
          rfl
        · rw [List.append_assoc]
          exact (List.Perm.append_left fs (erase_perm hi)).trans pm
        · rw [List.length_append]
          exact (S3.upF fl.1 fl.2.1 fl.2.2).upF ff.1 ff.2.1 ff.2.2
        · have kq : Kp d g H H3 := fun b u e' h1 h2 => kp3 _ _ (kp2 b u e' h1 h2) h1 h2
          exact (kq.upF hl).upF hf0
end
/-! ### the table of new names -/
def TblOk (kvs : List (Key × V)) : Prop := ∀ k v, valV kvs k = some v → ∃ s : Str, v = .str s ∧ s.length ≤ 1000
theorem TblOk.put {kvs : List (Key × V)} {k : Key} {s : Str} (t : TblOk kvs) (h : s.length ≤ 1000) : TblOk (putK kvs k (.str s)) := fun j v e => by
  rw [valV_put] at e
  by_cases ej : j = k
  · rw [if_pos ej] at e
    exact ⟨s, (Option.some.inj e).symm, h⟩
  · rw [if_neg ej] at e
    exact t j v e
theorem putK_len (c : List (Key × V)) (k : Key) (x : V) : (putK c k x).length ≤ c.length + 1 := by
  unfold putK
  by_cases e : (c.any fun kv => decide (kv.1 = k)) = true
  · rw [if_pos e, List.length_map]
    omega
  · rw [if_neg e, List.length_append]
    simp
def spTab : Sp := fun vs H Q _ => ∃ (d g c : Addr) (n : Nat), vs = [.ref d] ∧ StA H d g c n ∧ n ≤ 800000000 ∧
  ∀ (t : Addr) (kvs : List (Key × V)) (H' : Hp), StA H' d g c (n + 400) → Kp d g H H' → H t = none → H' t = some (.dK kvs) → TblOk kvs → Q (.ref t) H'
def oldS : List Str := ["u", "v2", "far", "m", "f", "g", "up", "a", "n0", "i0", "i1", "p", "q7", "d", "b", "x2", "zz", "s", "t0", "big"]
def xlw : List Str := ["x", "len", "w"]
section
variable {P : Program} {w : World} {K : PySem.W.Frag} {mg : Str → Option Value} {base : Heap}
variable {fShf fTab fNmd fKnd fNam fCbw : Addr}
theorem scTab : FnScope ["state", "old", "table", "taken", "name"] ["state"] (defScope sTab) := ⟨rfl, rfl, rfl, by decide +kernel, rfl, by decide +kernel, by decide +kernel⟩
theorem ok_tab {f fM fD fP fW : Addr} {fd fdD fdNam : FuncData} (F : Fun K "_law_tx_table" "_law_tx_table" sTab f fd) (T : MgS K mg fM fD) (L : MgL K mg fShf fTab fNmd fKnd fNam fCbw)
    (GD : FnOk P w K mg base CX0 2 fD fdD ["state", "room"] spDrw) (bD : L2.Binds K fdD ["state", "room"] [])
    (GN : FnOk P w K mg base CX0 4 fNam fdNam ["state", "taken"] spNam) (bN : L2.Binds K fdNam ["state", "taken"] []) : FnOk P w K mg base CX0 5 f fd ["state"] spTab := by
  refine F.ok scTab (fun vs H Q E h => ?_) (fun cdv A outer s H vs Q E hr h => ?_)
  · obtain ⟨d, g, c, n, rfl, _⟩ := h
    rfl
  · obtain ⟨d, g, c, n, rfl, S, hn, k⟩ := h
    have hr2 : Room 2 _ := hr.mono (by decide)
    have hu := hu_of hr
    refine ⟨_, (pss_cons (ps_set (i := 1) scTab.nd rfl (Or.inl rfl) (pe_lst (pa_cons pe_str (pa_cons pe_str (pa_cons pe_str (pa_cons pe_str (pa_cons pe_str (pa_cons pe_str (pa_cons pe_str (pa_cons pe_str (pa_cons pe_str (pa_cons pe_str (pa_cons pe_str (pa_cons pe_str (pa_cons pe_str (pa_cons pe_str (pa_cons pe_str (pa_cons pe_str (pa_cons pe_str (pa_cons pe_str (pa_cons pe_str (pa_cons pe_str pa_nil))))))))))))))))))))))
      (pss_cons (ps_par (i := 2) (j := 3) (by rfl) scTab.nd rfl rfl (by decide) rfl rfl (pa_cons pe_dnewK (pa_cons (pe_lst (pa_cons pe_str pa_nil)) pa_nil)) (by rfl))
      (pss_cons (ps_for PassesOwn.never rfl (pi_list (pe_weak (pe_ifExp (pt_cmpR op_gt (pe_call GD hr2 (by rfl) T.dr T.kdr bD .nil pass0 (pa_cons (pv 0) (pa_cons pe_int pa_nil))) pe_int (nomark _)) (pe_op op_cat (pv 1) (pe_lst (pa_cons pe_str (pa_cons pe_str (pa_cons pe_str pa_nil))))) (pe_lst pa_nil)))) (pg_name (i := 4) scTab.nd rfl (Or.inl rfl))
          (pss_cons (ps_dput hu (pv 2) (pv 4) (pe_call GN hr (by rfl) L.nam L.knam bN .nil pass0 (pa_cons (pv 0) (pa_cons (pv 3) pa_nil))) rfl)
          (pss_one (ps_expr (qApp (pv 3) (pe_dget hu (pv 2) (pv 4) (fun _ _ => rfl)))))))
      (pss_one (ps_ret (pv 2)))))), ?_⟩
    refine ⟨(by show 20 ≤ sizeLine; decide), fun o ho => ?_⟩
    generalize hHa : upd H o _ = Ha
    obtain ⟨so, eo⟩ := freshF ho hHa
    have eo : Ha o = some (.lst (oldS.map V.str)) := eo
    refine fun t ht => ?_
    generalize hHb : upd Ha t _ = Hb
    obtain ⟨st, et⟩ := freshF ht hHb
    refine ⟨(by show 1 ≤ sizeLine; decide), fun kn hk => ?_⟩
    generalize hHc : upd Hb kn _ = Hc
    obtain ⟨sk, ek⟩ := freshF hk hHc
    have ek : Hc kn = some (.lst ((["main"] : List Str).map V.str)) := ek
    refine ⟨_, _, rfl, ?_⟩
    have S0 := ((S.keep so).keep st).keep sk
    have eo := sk _ _ (st _ _ eo)
    have et := sk _ _ et
    have fo := S.free ho
    have ft := (S.keep so).free ht
    have fk := ((S.keep so).keep st).free hk
    have kp0 : Kp d g H Hc := Kp.of ((so.trans st).trans sk)
    have ht0 : H t = none := so.free ht
    have hk0 : H kn = none := so.free (st.free hk)
    have tk : t ≠ kn := ne_of et ek (by intro z; cases z)
    refine ⟨fun v H3 => ∃ (x : Addr) (xs : List Str), v = .ref x ∧ xs.length ≤ 23 ∧ H3 x = some (.lst (xs.map V.str)) ∧ x ≠ d ∧ x ≠ g ∧ x ≠ t ∧ x ≠ kn ∧ StA H3 d g c (n + 1) ∧ Kp d g H H3 ∧ H3 t = some (.dK []) ∧ H3 kn = some (.lst ((["main"] : List Str).map V.str)), ?_, ?_⟩
    · refine ⟨_, rfl, d, g, c, n, 3, rfl, S0, by omega, by decide, by decide, fun v H2 h0 h1 S2 kp2 => ⟨_, _, rfl, rfl, _, rfl, ?_⟩⟩
      have eo := kp2 _ _ eo fo.1 fo.2.1
      have et := kp2 _ _ et ft.1 ft.2.1
      have ek := kp2 _ _ ek fk.1 fk.2.1
      have kp := kp0.trans kp2
      by_cases hv : v > 0
      · refine ifT (decide_eq_true hv) ?_
        refine ⟨_, rfl, (by show 3 ≤ sizeLine; decide), fun q hq => ?_⟩
        generalize hHd : upd H2 q _ = Hd
        obtain ⟨sq, eq⟩ := freshF hq hHd
        refine ⟨o, q, oldS.map V.str, xlw.map V.str, rfl, rfl, sq _ _ eo, eq, (by show 20 + 3 ≤ sizeLine; decide), fun x hx => ?_⟩
        generalize hHe : upd Hd x _ = He
        obtain ⟨sx, ex⟩ := freshF hx hHe
        have s3 := sq.trans sx
        have fx := S2.free (sq.free hx)
        exact ⟨x, oldS ++ xlw, rfl, by decide, by rw [ex, List.map_append], fx.1, fx.2.1, (ne_of_none et (sq.free hx)).symm, (ne_of_none ek (sq.free hx)).symm, S2.keep s3, kp.trans (Kp.of s3), s3 _ _ et, s3 _ _ ek⟩
      · refine ifF (decide_eq_false hv) ?_
        refine ⟨Nat.zero_le _, fun x hx => ?_⟩
        generalize hHe : upd H2 x _ = He
        obtain ⟨s3, ex⟩ := freshF hx hHe
        have fx := S2.free hx
        exact ⟨x, [], rfl, by decide, ex, fx.1, fx.2.1, (ne_of_none et hx).symm, (ne_of_none ek hx).symm, S2.keep s3, kp.trans (Kp.of s3), s3 _ _ et, s3 _ _ ek⟩
    · rintro _ H3 ⟨x, xs, rfl, hlen, ex, xd, xg, xt, xk, S3, kp3, et3, ek3⟩
      refine ⟨x, rfl, ⟨_, SqL.of ex⟩, for_list (K := K) (a := x) (xs := xs.map V.str)
        (fun i σ H' => ∃ (kvs : List (Key × V)) (ts : List Str) (v : Option V), σ = [some (.ref d), some (.ref o), some (.ref t), some (.ref kn), v] ∧ H' x = some (.lst (xs.map V.str)) ∧ H' t = some (.dK kvs) ∧ H' kn = some (.lst (ts.map V.str)) ∧ TblOk kvs ∧ kvs.length ≤ i ∧ ts.length ≤ i + 1 ∧ StA H' d g c (n + 1 + 12 * i) ∧ Kp d g H H')
        ⟨[], ["main"], none, rfl, ex, et3, ek3, (fun k v e => by cases e), Nat.le_refl _, Nat.le_refl _, S3, kp3⟩ (fun i σ H' _ ⟨_, _, _, _, h, _⟩ => SqL.of h) ?_ ?_⟩
      · rintro i y σ H4 hi ⟨kvs, ts, v, rfl, ex4, et4, ek4, tb, kl, tl4, S4, kp4⟩
        have hil : i < 23 := by
          have := (List.getElem?_eq_some_iff.mp hi).1
          rw [List.length_map] at this
          omega
        rw [List.getElem?_map] at hi
        obtain ⟨nm, _, rfl⟩ := Option.map_eq_some_iff.mp hi
        refine ⟨_, rfl, _, rfl, d, g, c, kn, _, ts, rfl, S4, by omega, ek4, by omega, fk.2.1, fun z H5 okz S5 kp5 => ?_⟩
        have ex5 := kp5 _ _ ex4 xd xg
        have et5 := kp5 _ _ et4 ft.1 ft.2.1
        have ek5 := kp5 _ _ ek4 fk.1 fk.2.1
        have lz : z.length ≤ 1000 := by have := (okS_to okz).2.2; omega
        refine ⟨_, rfl, _, rfl, t, _, rfl, DPut.k (k := Sum.inr nm) et5 (by rw [sizeLine_eq]; omega), ?_⟩
        have pk : valV (putK kvs (Sum.inr nm) (.str z)) (Sum.inr nm) = some (.str z) := by rw [valV_put, if_pos rfl]
        have dg : DGet (upd H5 t (.dK (putK kvs (Sum.inr nm) (.str z)))) t (.str nm) (some (.str z)) := by
          have e := DGet.k (k := Sum.inr nm) (upd_same (H := H5) (a := t) (o := .dK (putK kvs (Sum.inr nm) (.str z))))
          rw [pk] at e
          exact e
        have ek6 : upd H5 t (.dK (putK kvs (Sum.inr nm) (.str z))) kn = some (.lst (ts.map V.str)) := by rw [upd_ne tk.symm]; exact ek5
        refine ⟨_, rfl, .inl ⟨rfl, _, SqL.of ek6⟩, _, rfl, _, rfl, t, _, rfl, dg, kn, ts.map V.str, _, rfl, rfl, ek6, by rw [List.length_map, sizeLine_eq]; omega, ?_⟩
        have kp6 : Kp d g H H5 := kp4.trans kp5
        refine ⟨putK kvs (Sum.inr nm) (.str z), ts ++ [z], _, rfl, ?_, ?_, ?_, tb.put lz, ?_, ?_, ?_, (kp6.upF ht0).upF hk0⟩
        · rw [upd_ne xk, upd_ne xt]
          exact ex5
        · rw [upd_ne tk]
          exact upd_same
        · rw [upd_same, List.map_append]
          rfl
        · have := putK_len kvs (Sum.inr nm) (.str z)
          omega
        · rw [List.length_append]
          show ts.length + 1 ≤ _
          omega
        · exact ((S5.upF (o := .dK (putK kvs (Sum.inr nm) (.str z))) ft.1 ft.2.1 ft.2.2).upF fk.1 fk.2.1 fk.2.2).mono (by omega)
      · rintro σ H4 ⟨kvs, ts, v, rfl, ex4, et4, ek4, tb, kl, tl4, S4, kp4⟩
        rw [List.length_map] at S4
        exact ⟨_, rfl, k t kvs H4 (S4.mono (by omega)) kp4 ht0 et4 tb⟩
end
end K0

set_option Elab.async false
set_option linter.all false
set_option pp.maxSteps 700
set_option maxRecDepth 100000
set_option maxHeartbeats 2000000
namespace K0
open PySem PySem.Spec PyProof.Rows L2
open TL (tl)
/-- a value with other names -/
def spNmd (n : Nat) : Sp := fun vs H Q _ => ∃ (g : Addr) (v : V) (d : Dt) (t : Addr) (kvs : List (Key × V)), vs = [v, .ref t] ∧ DV g H v d ∧ pur d = true ∧ dep d < n ∧ H t = some (.dK kvs) ∧ TblOk kvs ∧
  ∀ (v' : V) (d' : Dt) (H' : Hp), DV g H' v' d' → pur d' = true → Same H H' → Q v' H'
theorem DVs.pick {g : Addr} {H : Hp} {xs : List V} {ds : List Dt} (r : DVs g H xs ds) {v : V} (h : v ∈ xs) : ∃ d, d ∈ ds ∧ DV g H v d := by
  obtain ⟨i, hi, e⟩ := List.mem_iff_getElem.mp h
  obtain ⟨d, h1, h2⟩ := r.at_ (i := i) (v := v) (by rw [List.getElem?_eq_getElem hi, e])
  exact ⟨d, List.mem_of_getElem? h1, h2⟩
theorem DVs.snoc {g : Addr} {H : Hp} {xs : List V} {ds : List Dt} (r : DVs g H xs ds) {v : V} {d : Dt} (h : DV g H v d) : DVs g H (xs ++ [v]) (ds ++ [d]) := r.app (.cons h .nil)
theorem purs_snoc {l : List Dt} {d : Dt} (h : purs l = true) (hd : pur d = true) : purs (l ++ [d]) = true := by
  rw [purs_all] at h ⊢
  rw [List.all_append, h]
  show (true && (pur d && true)) = true
  rw [hd]
  rfl
section
variable {P : Program} {w : World} {K : PySem.W.Frag} {mg : Str → Option Value} {base : Heap}
variable {fShf fTab fNmd fKnd fNam fCbw : Addr} {fdNmd : FuncData}
theorem scNmd : FnScope ["value", "table", "one"] ["value", "table"] (defScope sNmd) := ⟨rfl, rfl, rfl, by decide +kernel, rfl, by decide +kernel, by decide +kernel⟩
theorem ok_nmd (F : Fun K "_law_tx_named" "_law_tx_named" sNmd fNmd fdNmd) (L : MgL K mg fShf fTab fNmd fKnd fNam fCbw) (b : L2.Binds K fdNmd ["value", "table"] []) : ∀ n : Nat, FnOk P w K mg base CX0 (n + 1) fNmd fdNmd ["value", "table"] (spNmd n)
  | 0 => ok_none F scNmd (fun vs H Q E h => by obtain ⟨_, _, _, _, _, _, _, _, h, _⟩ := h; exact absurd h (by omega))
  | n + 1 => by
    have G : FnOk P w K mg base CX0 (n + 1) fNmd fdNmd ["value", "table"] (spNmd n) := ok_nmd F L b n
    refine F.ok scNmd (fun vs H Q E h => ?_) (fun cdv A outer s H vs Q E hr h => ?_)
    · obtain ⟨g, v, d, t, kvs, rfl, _⟩ := h
      rfl
    · obtain ⟨g, v, d, t, kvs, rfl, hd, hp, hn, ht, tb, k⟩ := h
      obtain ⟨ty, hty, k1, k2, k3, k4⟩ := hd.ty (K := K)
      have hu := hu_of hr
      refine ⟨_, (pss_cons (ps_if (pt_val (pe_callB call_isi (by rfl) L.isi (by decide +kernel) (pa_cons (pv 0) (pa_cons (pe_bltn (v := .ty "tuple") (by rfl) L.tpl boot_tuple rfl) pa_nil)))) (pss_one (ps_ret (pe_callTy call_tuple_of (by rfl) L.tpl (by decide +kernel) (pa_cons (pe_lc (own := [("one", 2)]) (g := gName 2) (tt := tYes) (by rfl) scNmd.nd (pi_tup (pv 0)) (blkOk_by (own := [("one", 2)]) (N := ["value", "table", "one"]) (sc := defScope sNmd) (by decide +kernel)) (fun _ _ _ _ _ => (pg_name (i := 2) scNmd.nd rfl (Or.inl rfl))) (fun _ _ _ _ _ => pts_nil) (fun _ _ _ _ _ => (pe_call G hr (by rfl) L.nmd L.knmd b .nil pass0 (pa_cons (pv 2) (pa_cons (pv 1) pa_nil))))) pa_nil)))) pss_nil)
      (pss_one (ps_ret (pe_ifExp (pt_val (pe_callB call_isi (by rfl) L.isi (by decide +kernel) (pa_cons (pv 0) (pa_cons (pe_bltn (v := .ty "str") (by rfl) L.str boot_str rfl) pa_nil)))) (pe_dget2 hu (pv 1) (pv 0) (pv 0) ⟨by rfl, by rfl, by rfl, by rfl⟩) (pv 0))))), ?_⟩
      refine ⟨_, rfl, _, _, _, _, _, rfl, .ty "tuple", hty, k2, _, rfl, ?_⟩
      have other : isTup d = false → isStr d = false → Q v H := fun _ _ => k v d H hd hp (Same.refl H)
      cases hd with
      | @tup a xs ds e hl r =>
        have hp : purs ds = true := hp
        have hn : deps ds + 1 < n + 1 := hn
        have hlen := r.len
        refine iteT ⟨_, rfl, a, rfl, ⟨_, SqT.of e⟩, fun D hD => lc_tup (K := K) (a := a) (xs := xs)
          (fun i H' => ∃ ys es, H' D = some (.lst ys) ∧ DVs g H' ys es ∧ purs es = true ∧ ys.length = i ∧ Same H H') ⟨[], [], upd_same, .nil, rfl, rfl, same_new hD⟩ (fun i H' _ ⟨_, _, _, _, _, _, s2⟩ => SqT.of (s2 _ _ e)) ?_ ?_⟩
        · rintro i x H' hi ⟨ys, es, h1, h2, h3, h4, s2⟩
          obtain ⟨p, hp', hx⟩ := r.at_ hi
          have pm := List.mem_of_getElem? hp'
          have hil : i < xs.length := (List.getElem?_eq_some_iff.mp hi).1
          refine ⟨rfl, ?_⟩
          refine ⟨_, rfl, _, rfl, g, x, p, t, kvs, rfl, hx.keep (Kv.of s2), purs_mem hp pm, ?_, s2 _ _ ht, tb, fun v' d' H2 hv' pd' s3 => ⟨_, s3 _ _ h1, ?_, ?_⟩⟩
          · have := deps_mem pm
            omega
          · rw [h4, sizeLine_eq]
            omega
          · refine ⟨ys ++ [v'], es ++ [d'], upd_same, ?_, purs_snoc h3 pd', by rw [List.length_append, h4]; rfl, ?_⟩
            · have kt : Kt H2 (upd H2 D (.lst (ys ++ [v']))) := Kt.put (s3 _ _ h1)
              exact ((h2.keep (Kv.of s3)).keepP kt h3).snoc (hv'.keepP kt pd')
            · intro b' o e'
              rw [upd_ne (ne_of_none e' hD)]
              exact s3 _ _ (s2 _ _ e')
        · rintro H2 ⟨ys, es, h1, h2, h3, h4, s2⟩
          refine ⟨D, ys, rfl, .inl ⟨SqL.of h1, fun q hq => ?_⟩⟩
          generalize hHq : upd H2 q _ = Hq
          obtain ⟨sq, eq⟩ := freshF hq hHq
          refine k (.ref q) (.tup es) Hq (.tup eq ?_ (h2.keep (Kv.of sq))) h3 (s2.trans sq)
          rw [← h2.len, h4, hlen]
          exact hl
      | @str z hz =>
        refine iteF ⟨_, rfl, _, _, _, _, _, rfl, .ty "str", hty, k1, _, rfl, ?_⟩
        refine iteT ⟨_, rfl, t, rfl, .inl ⟨kvs, .inl ht⟩, _, rfl, _, rfl, _, DGet.k (k := Sum.inr z) ht, ?_⟩
        cases e : valV kvs (Sum.inr z) with
        | none => exact k _ (.str z) H (.str hz) rfl (Same.refl H)
        | some v =>
          obtain ⟨s, rfl, hs⟩ := tb _ _ e
          exact k _ (.str s) H (.str hs) rfl (Same.refl H)
      | int i => exact iteF ⟨_, rfl, _, _, _, _, _, rfl, .ty "str", hty, k1, _, rfl, iteF ⟨_, rfl, other rfl rfl⟩⟩
      | bl b => exact iteF ⟨_, rfl, _, _, _, _, _, rfl, .ty "str", hty, k1, _, rfl, iteF ⟨_, rfl, other rfl rfl⟩⟩
      | non => exact iteF ⟨_, rfl, _, _, _, _, _, rfl, .ty "str", hty, k1, _, rfl, iteF ⟨_, rfl, other rfl rfl⟩⟩
      | lst _ _ _ _ => cases hp
      | dic _ => cases hp
end
/-! ### drawn kinds -/
theorem cut_take {ys : List Str} {m : Int} (h0 : 0 ≤ m) (h1 : m ≤ ys.length) : cutV (ys.map V.str) none (some m) = (ys.take m.toNat).map V.str := by
  obtain ⟨k, rfl⟩ := Int.eq_ofNat_of_zero_le h0
  unfold cutV
  rw [HT.sIx_none, List.drop_zero, HT.sIx_nat, List.length_map]
  have e : min k ys.length = k := by omega
  first
    | (rw [e, Nat.sub_zero, List.map_take, Int.toNat_natCast]; done)
    | (rw [List.map_take, Int.toNat_natCast]; congr 1; omega)
theorem deps_one (x y : Dt) : dep (.tup [x, y]) = max (dep x) (max (dep y) 0) + 1 := rfl
theorem sumCons (f : Dt → Int) (l : List Dt) (d : Dt) : ((l ++ [d]).map (sndW f)).sum = (l.map (sndW f)).sum + sndW f d := by
  rw [List.map_append, List.sum_append]
  simp

def bnd : Nat → Nat
  | 0 => 0
  | m + 1 => bnd m + 1000000
theorem bnd_succ (m : Nat) : bnd (m + 1) = bnd m + 1000000 := rfl
def cntK : Nat → Nat
  | 0 => 0
  | m + 1 => 10 + 6 * cntK m
theorem cnt_le {j : Nat} (h : j ≤ 2) : cntK (j + 1) ≤ 100000 := by
  match j, h with
  | 0, _ => decide
  | 1, _ => decide
  | 2, _ => decide
theorem bigA {n b k : Nat} (h : n + b ≤ 700000000) (hk : k ≤ 100000) : n + 1 + k ≤ 1000000000 := by omega
theorem bigB {n b c : Nat} (h : n + (b + 1000000) ≤ 700000000) (hc : c ≤ 100000 * 6) : n + 1 + 1 + 6 + c + b ≤ 700000000 := by omega
def kn6 : List Str := ["a", "b", "x", "q7", "len", "w"]
theorem kn6_ok : ∀ x ∈ kn6, PyData.strOk x = true ∧ nameS x = true ∧ x.length ≤ 1000 := by decide +kernel
theorem kn6_nd : kn6.Nodup := by decide +kernel
/-- m levels are left -/
def spKnd (m : Nat) : Sp := fun vs H Q _ => 1 ≤ m ∧ m ≤ 4 ∧ ∃ (d g c : Addr) (n : Nat) (cap : Int), vs = [.ref d, .int (4 - (m : Nat)), .int cap] ∧ StA H d g c n ∧ n + bnd m ≤ 700000000 ∧ 1 ≤ cap ∧ cap ≤ 400 ∧
  ∀ (v : V) (dt : Dt) (H' : Hp), DV g H' v dt → pur dt = true → formed m dt = true → wordsN m dt ≤ cap → dep dt ≤ 3 * m → StA H' d g c (n + cntK m) → Kp d g H H' → Q v H'
section
variable {P : Program} {w : World} {K : PySem.W.Frag} {mg : Str → Option Value} {base : Heap}
variable {fShf fTab fNmd fKnd fNam fCbw fD fP fM fWd fNmr fFlr fFor : Addr} {fdKnd fdD fdP fdShf fdCbw : FuncData}
theorem scKnd : FnScope ["state", "deep", "cap", "way", "inner", "many", "names", "name"] ["state", "deep", "cap"] (defScope sKnd) := ⟨rfl, rfl, rfl, by decide +kernel, rfl, by decide +kernel, by decide +kernel⟩
theorem ok_knd (F : Fun K "_law_cb_kind" "_law_cb_kind" sKnd fKnd fdKnd) (T : MgN K mg fM fD fP fWd) (L : MgL K mg fShf fTab fNmd fKnd fNam fCbw) (b : L2.Binds K fdKnd ["state", "deep", "cap"] [])
    (GD : FnOk P w K mg base CX0 2 fD fdD ["state", "room"] spDrw) (bD : L2.Binds K fdD ["state", "room"] [])
    (GP : FnOk P w K mg base CX0 3 fP fdP ["state", "some"] spPck) (bP : L2.Binds K fdP ["state", "some"] [])
    (GS : FnOk P w K mg base CX0 3 fShf fdShf ["state", "some"] spShf) (bS : L2.Binds K fdShf ["state", "some"] [])
    (GC : ∀ n, FnOk P w K mg base CX0 (n + 1) fCbw fdCbw ["kind"] (spWc n)) (bC : L2.Binds K fdCbw ["kind"] []) : ∀ m : Nat, FnOk P w K mg base CX0 (m + 5) fKnd fdKnd ["state", "deep", "cap"] (spKnd m)
  | 0 => ok_none F scKnd (fun vs H Q E h => absurd h.1 (by omega))
  | m + 1 => by
    have G : FnOk P w K mg base CX0 (m + 5) fKnd fdKnd ["state", "deep", "cap"] (spKnd m) := ok_knd F T L b GD bD GP bP GS bS GC bC m
    refine F.ok scKnd (fun vs H Q E h => ?_) (fun cdv A outer s H vs Q E hr h => ?_)
    · obtain ⟨_, _, d, g, c, n, cap, rfl, _⟩ := h
      rfl
    · obtain ⟨m1, m4, d, g, c, n, cap, rfl, S, hn, c1, c4, k⟩ := h
      have hr2 : Room 2 _ := hr.mono (by omega)
      have hr3 : Room 3 _ := hr.mono (by omega)
      have hrc : Room (m + 1) _ := hr.mono (by omega)
      have GCm : FnOk P w K mg base CX0 (m + 1) fCbw fdCbw ["kind"] (spWc m) := GC m
      refine ⟨_, (pss_cons (ps_set (i := 3) scKnd.nd rfl (Or.inl rfl) (pe_weak (pe_ifExp (pt_cmpR op_lt (pv 1) pe_int (nomark _)) (pe_call GD hr2 (by rfl) T.dr T.kdr bD .nil pass0 (pa_cons (pv 0) (pa_cons pe_int pa_nil))) pe_int)))
      (pss_cons (ps_if (pt_cmpR op_lt (pv 3) pe_int (nomark _)) (pss_one (ps_ret (pe_call GP hr3 (by rfl) T.pk T.kpk bP .nil pass0 (pa_cons (pv 0) (pa_cons (pe_lst (pa_cons pe_str (pa_cons pe_str (pa_cons pe_str pa_nil)))) pa_nil))))) pss_nil)
      (pss_cons (ps_if (pt_cmpR op_eq (pv 3) pe_int (nomark _)) (pss_cons (ps_set (i := 4) scKnd.nd rfl (Or.inl rfl) (pe_call G hr (by rfl) L.knd L.kknd b .nil pass0 (pa_cons (pv 0) (pa_cons (pe_op op_add (pv 1) pe_int) (pa_cons (pv 2) pa_nil)))))
          (pss_one (ps_ret (pe_tup (pa_cons pe_str (pa_cons (pe_callB (call_min2 rfl) (by rfl) L.min PyProof.Rows.boot_min (pa_cons (pe_call GP hr3 (by rfl) T.pk T.kpk bP .nil pass0 (pa_cons (pv 0) (pa_cons (pe_lst (pa_cons pe_int (pa_cons pe_int (pa_cons pe_int (pa_cons pe_int (pa_cons pe_int pa_nil)))))) pa_nil))) (pa_cons (pe_op op_fdivN (pv 2) (pe_call GCm hrc (by rfl) L.cbw L.kcbw bC .nil pass0 (pa_cons (pv 4) pa_nil))) pa_nil))) (pa_cons (pv 4) pa_nil))))))) pss_nil)
      (pss_cons (ps_set (i := 5) scKnd.nd rfl (Or.inr rfl) (pe_callB (call_min2 rfl) (by rfl) L.min PyProof.Rows.boot_min (pa_cons (pe_call GP hr3 (by rfl) T.pk T.kpk bP .nil pass0 (pa_cons (pv 0) (pa_cons (pe_lst (pa_cons pe_int (pa_cons pe_int (pa_cons pe_int (pa_cons pe_int (pa_cons pe_int pa_nil)))))) pa_nil))) (pa_cons (pv 2) pa_nil))))
      (pss_cons (ps_set (i := 6) scKnd.nd rfl (Or.inl rfl) (pe_slice sl_list (pe_call GS hr3 (by rfl) L.shf L.kshf bS .nil pass0 (pa_cons (pv 0) (pa_cons (pe_lst (pa_cons pe_str (pa_cons pe_str (pa_cons pe_str (pa_cons pe_str (pa_cons pe_str (pa_cons pe_str pa_nil))))))) pa_nil))) po_none (po_some (pv 5))))
      (pss_one (ps_ret (pe_tup (pa_cons pe_str (pa_cons (pe_callTy call_tuple_of (by rfl) L.tpl (by decide +kernel) (pa_cons (pe_lc (own := [("name", 7)]) (g := gName 7) (tt := tYes) (by rfl) scKnd.nd (pi_list (pv 6)) (blkOk_by (own := [("name", 7)]) (N := ["state", "deep", "cap", "way", "inner", "many", "names", "name"]) (sc := defScope sKnd) (by decide +kernel)) (fun _ _ _ _ _ => (pg_name (i := 7) scKnd.nd rfl (Or.inl rfl))) (fun _ _ _ _ _ => pts_nil) (fun _ _ _ _ _ => (pe_tup (pa_cons (pv 7) (pa_cons (pe_call G hr (by rfl) L.knd L.kknd b .nil pass0 (pa_cons (pv 0) (pa_cons (pe_op op_add (pv 1) pe_int) (pa_cons (pe_op op_fdivN (pv 2) (pv 5)) pa_nil)))) pa_nil))))) pa_nil)) pa_nil)))))))))), ?_⟩
      have hb := bnd_succ m
      have dp1 : (4 - ((m + 1 : Nat) : Int)) + 1 = 4 - (m : Nat) := by omega
      refine ⟨fun v H' => ∃ w : Int, v = .int w ∧ 0 ≤ w ∧ w < 4 ∧ (m = 0 → w = 0) ∧ StA H' d g c (n + 1) ∧ Kp d g H H', ?_, ?_⟩
      · refine ⟨_, rfl, _, _, rfl, rfl, _, rfl, ?_⟩
        by_cases hm : m = 0
        · refine ifF (decide_eq_false (by omega)) ?_
          exact ⟨0, rfl, by decide, by decide, fun _ => rfl, S.mono (by omega), Kp.refl H⟩
        · refine ifT (decide_eq_true (by omega)) ?_
          refine ⟨_, rfl, d, g, c, n, 4, rfl, S, by omega, by decide, by decide, fun v H' h0 h1 S2 kp2 => ⟨v, rfl, h0, h1, fun z => absurd z hm, S2, kp2⟩⟩
      rintro _ H1 ⟨way, rfl, w0, w4, wm, S1, kp1⟩
      refine ⟨_, rfl, _, _, rfl, rfl, _, rfl, ?_⟩
      by_cases hw2 : way < 2
      · refine ifT (decide_eq_true hw2) ?_
        refine ⟨_, rfl, (by show 3 ≤ sizeLine; decide), fun l hl => ?_⟩
        generalize hHl : upd H1 l _ = Hl
        obtain ⟨sl, el⟩ := freshF hl hHl
        refine ⟨d, g, c, l, n + 1, _, rfl, S1.keep sl, by omega, el, (S1.free hl).2.1, by simp, (by show 3 ≤ 1000000; decide), fun v H2 hv S2 kp2 => ?_⟩
        have e : ∃ z : Str, v = .str z ∧ plainS z = true ∧ z.length ≤ 1000 := by
          simp only [List.mem_cons, List.not_mem_nil, or_false] at hv
          rcases hv with rfl | rfl | rfl <;> exact ⟨_, rfl, by decide +kernel, by decide +kernel⟩
        obtain ⟨z, rfl, hz, lz⟩ := e
        refine k _ (.str z) H2 (.str lz) rfl (by rw [formed_str]; exact hz) (by rw [words_str]; omega) (Nat.zero_le _) (S2.mono ?_) ((kp1.trans (Kp.of sl)).trans kp2)
        show n + 1 + 1 ≤ n + (10 + 6 * cntK m)
        omega
      · refine ifF (decide_eq_false hw2) ?_
        have hm0 : m ≠ 0 := fun z => by have := wm z; omega
        obtain ⟨j, rfl⟩ : ∃ j, m = j + 1 := ⟨m - 1, by omega⟩
        refine ⟨_, rfl, rfl, _, rfl, ?_⟩
        by_cases hw : way = 2
        · refine ifT (by rw [hw]; rfl) ?_
          refine ⟨_, rfl, _, rfl, _, _, rfl, rfl, _, rfl, by omega, by omega, d, g, c, n + 1, cap, ?_, S1, by omega, c1, c4, fun vi di H2 hvi pi fi wi de S2 kp2 => ?_⟩
          · show [V.ref d, V.int ((4 - ((j + 1 + 1 : Nat) : Int)) + 1), V.int cap] = _
            rw [dp1]
          obtain ⟨wb, _⟩ := words_bound _ _ fi
          refine ⟨_, rfl, (by show 5 ≤ sizeLine; decide), fun l hl => ?_⟩
          generalize hHl : upd H2 l _ = Hl
          obtain ⟨sl, el⟩ := freshF hl hHl
          refine ⟨d, g, c, l, n + 1 + cntK (j + 1), _, rfl, S2.keep sl, ?_, el, (S2.free hl).2.1, by simp, (by show 5 ≤ 1000000; decide), fun v H3 hv S3 kp3 => ?_⟩
          · exact bigA hn (cnt_le (j := j) (by omega))
          have e : ∃ z : Int, v = .int z ∧ 1 ≤ z ∧ z ≤ 64 := by
            simp only [List.mem_cons, List.not_mem_nil, or_false] at hv
            rcases hv with rfl | rfl | rfl | rfl | rfl <;> exact ⟨_, rfl, by decide, by decide⟩
          obtain ⟨z, rfl, z1, z64⟩ := e
          have hvi3 : DV g H3 vi di := (hvi.keep (Kv.of sl)).keep (Kv.kp (S2.keep sl) kp3)
          refine ⟨_, rfl, _, rfl, by omega, g, vi, di, rfl, hvi3, fi, fun H4 s4 => ?_⟩
          have w400 : wordsN (j + 1) di < 1073741824 := by omega
          refine ⟨_, _, rfl, rfl, ⟨by omega, by omega⟩, _, _, rfl, _, rfl, (by show 3 ≤ sizeLine; decide), fun p hp => ?_⟩
          generalize hHp : upd H4 p _ = Hp
          obtain ⟨sp, ep⟩ := freshF hp hHp
          have q1 : 1 ≤ cap.fdiv (wordsN (j + 1) di) := by
            rw [Int.fdiv_eq_ediv_of_nonneg _ (by omega)]
            exact (Int.le_ediv_iff_mul_le (by omega)).mpr (by omega)
          have q2 : cap.fdiv (wordsN (j + 1) di) * wordsN (j + 1) di ≤ cap := by
            rw [Int.fdiv_eq_ediv_of_nonneg _ (by omega)]
            exact Int.ediv_mul_le _ (by omega)
          generalize hi : (if cap.fdiv (wordsN (j + 1) di) < z then cap.fdiv (wordsN (j + 1) di) else z) = i at ep
          have i1 : 1 ≤ i := by rw [← hi]; split <;> omega
          have i64 : i ≤ 64 := by rw [← hi]; split <;> omega
          have i3 : i ≤ cap.fdiv (wordsN (j + 1) di) := by rw [← hi]; split <;> omega
          have iw : i * wordsN (j + 1) di ≤ cap := Int.le_trans (Int.mul_le_mul_of_nonneg_right i3 (by omega)) q2
          refine k _ (.tup [.str "row", .int i, di]) Hp (.tup ep (by show 3 ≤ 1000; decide) (.cons (.str (by decide +kernel)) (.cons (.int i) (.cons (hvi3.keep (Kv.of (s4.trans sp))) .nil)))) ?_ ?_ ?_ ?_ ?_ ?_
          · show (true && (true && (pur di && true))) = true
            rw [pi]
            rfl
          · rw [formed_two]
            show (true && ((decide (1 ≤ i) && decide (i ≤ 64)) && formed (j + 1) di)) = true
            rw [decide_eq_true i1, decide_eq_true i64, fi]
            rfl
          · rw [words_two]
            exact iw
          · show max 0 (max 0 (max (dep di) 0)) + 1 ≤ 3 * (j + 1 + 1)
            omega
          · refine ((S3.keep s4).keep sp).mono ?_
            show n + 1 + cntK (j + 1) + 1 ≤ n + (10 + 6 * cntK (j + 1))
            omega
          · exact ((((kp1.trans kp2).trans (Kp.of sl)).trans kp3).trans (Kp.of s4)).trans (Kp.of sp)
        · refine ifF (decide_eq_false (fun z => hw (by injection z))) ?_
          -- many
          refine ⟨_, rfl, (by show 5 ≤ sizeLine; decide), fun l hl => ?_⟩
          generalize hHl : upd H1 l _ = Hl
          obtain ⟨sl, el⟩ := freshF hl hHl
          refine ⟨d, g, c, l, n + 1, _, rfl, S1.keep sl, by omega, el, (S1.free hl).2.1, by simp, (by show 5 ≤ 1000000; decide), fun v H2 hv S2 kp2 => ?_⟩
          have e : ∃ z : Int, v = .int z ∧ 1 ≤ z ∧ z ≤ 6 := by
            simp only [List.mem_cons, List.not_mem_nil, or_false] at hv
            rcases hv with rfl | rfl | rfl | rfl | rfl <;> exact ⟨_, rfl, by decide, by decide⟩
          obtain ⟨z, rfl, z1, z6⟩ := e
          refine ⟨_, rfl, _, _, rfl, ?_⟩
          generalize hi : (if cap < z then cap else z) = many
          have i1 : 1 ≤ many := by rw [← hi]; split <;> omega
          have i6 : many ≤ 6 := by rw [← hi]; split <;> omega
          have i3 : many ≤ cap := by rw [← hi]; split <;> omega
          -- names
          refine ⟨_, rfl, (by show 6 ≤ sizeLine; decide), fun l2 hl2 => ?_⟩
          generalize hHm : upd H2 l2 _ = Hm
          obtain ⟨sm, em⟩ := freshF hl2 hHm
          have em : Hm l2 = some (.lst (kn6.map V.str)) := em
          refine ⟨d, g, c, l2, n + 1 + 1, kn6, rfl, S2.keep sm, by omega, em, by decide, fun x hx => (kn6_ok x hx).1, fun p ys H3 pm S3 kp3 hp ep => ?_⟩
          have ys6 : ys.length = 6 := pm.length_eq
          refine ⟨_, rfl, _, rfl, p, _, rfl, SqL.of ep, fun q hq => ?_⟩
          rw [cut_take (by omega) (by omega)]
          generalize hHq : upd H3 q _ = Hq
          obtain ⟨sq, eq⟩ := freshF hq hHq
          have S4 := S3.keep sq
          have kpq : Kp d g H Hq := ((((kp1.trans (Kp.of sl)).trans kp2).trans (Kp.of sm)).trans kp3).trans (Kp.of sq)
          have hlN : (ys.take many.toNat).length = many.toNat := by rw [List.length_take]; omega
          have nmsOk : ∀ x ∈ ys.take many.toNat, nameS x = true ∧ x.length ≤ 1000 := fun x hx => (kn6_ok x (pm.mem_iff.mp (List.mem_of_mem_take hx))).2
          have nmsNd : (ys.take many.toNat).Nodup := (pm.nodup_iff.mpr kn6_nd).sublist (List.take_sublist _ _)
          generalize ys.take many.toNat = ns at eq hlN nmsOk nmsNd
          have qd := (S3.free hq).1
          have qg := (S3.free hq).2.1
          have cb1 : 1 ≤ cap.fdiv many := by
            rw [Int.fdiv_eq_ediv_of_nonneg _ (by omega)]
            exact (Int.le_ediv_iff_mul_le (by omega)).mpr (by omega)
          have cb2 : cap.fdiv many * many ≤ cap := by
            rw [Int.fdiv_eq_ediv_of_nonneg _ (by omega)]
            exact Int.ediv_mul_le _ (by omega)
          have cb3 : cap.fdiv many ≤ 400 := by
            have : cap.fdiv many * 1 ≤ cap.fdiv many * many := Int.mul_le_mul_of_nonneg_left i1 (by omega)
            omega
          generalize hcb : cap.fdiv many = cb at cb1 cb2 cb3
          refine ⟨_, rfl, q, rfl, ⟨_, SqL.of eq⟩, fun D hD => lc_list (K := K) (a := q) (xs := ns.map V.str)
            (fun i H' => ∃ ys es, H' D = some (.lst ys) ∧ DVs g H' ys es ∧ purs es = true ∧ es.length = i ∧ (∀ p ∈ es, pairF (formed (j + 1)) p = true) ∧ es.map nmOf = ns.take i ∧ (es.map (sndW (wordsN (j + 1)))).sum ≤ cb * i ∧ deps es ≤ 3 * (j + 1) + 1 ∧ StA H' d g c (n + 1 + 1 + kn6.length + cntK (j + 1) * i) ∧ Kp d g Hq H')
            ⟨[], [], upd_same, .nil, rfl, rfl, (fun p hp => by cases hp), rfl, by simp, Nat.zero_le _, S4.keep (same_new hD), Kp.of (same_new hD)⟩ (fun i H' _ ⟨_, _, _, _, _, _, _, _, _, _, _, kp⟩ => SqL.of (kp _ _ eq qd qg)) ?_ ?_⟩
          · rintro i x H' hi ⟨ys, es, h1, h2, h3, h4, h5, h6, h7, h8, S5, kp5⟩
            have hil : i < ns.length := by
              have := (List.getElem?_eq_some_iff.mp hi).1
              rw [List.length_map] at this
              exact this
            rw [List.getElem?_map] at hi
            obtain ⟨nm, hnm, rfl⟩ := Option.map_eq_some_iff.mp hi
            have hnm' := nmsOk nm (List.mem_of_getElem? hnm)
            refine ⟨rfl, ?_⟩
            refine ⟨_, rfl, _, rfl, _, rfl, _, _, rfl, rfl, _, rfl, _, rfl, _, _, rfl, rfl, ⟨by omega, by omega⟩, by omega, by omega, d, g, c, _, cb, ?_, S5, ?_, cb1, cb3, fun vi di H2 hvi pi fi wi de S6 kp6 => ?_⟩
            · show [V.ref d, V.int ((4 - ((j + 1 + 1 : Nat) : Int)) + 1), V.int (cap.fdiv many)] = _
              rw [dp1, hcb]
            · exact bigB hn (Nat.mul_le_mul (cnt_le (j := j) (by omega)) (show i ≤ 6 by omega))
            refine ⟨(by show 2 ≤ sizeLine; decide), fun p hp => ?_⟩
            generalize hHp : upd H2 p _ = Hp
            obtain ⟨sp, ep⟩ := freshF hp hHp
            have hDd : D ≠ d := ((S4.free hD)).1
            have hDg : D ≠ g := ((S4.free hD)).2.1
            have h1' := sp _ _ (kp6 _ _ h1 hDd hDg)
            refine ⟨_, h1', ?_, ys ++ [.ref p], es ++ [.tup [.str nm, di]], upd_same, ?_, ?_, ?_, ?_, ?_, ?_, ?_, ?_, ?_⟩
            · rw [h2.len, h4, sizeLine_eq]
              omega
            · have kt : Kt Hp (upd Hp D (.lst (ys ++ [.ref p]))) := Kt.put h1'
              have a1 := (h2.keepP (g' := g) (Kt.kp S5 kp6) h3).keepP (g' := g) (Kt.of sp) h3
              refine (a1.keepP kt h3).snoc ?_
              refine DV.tup (kt _ _ ep) (by show 2 ≤ 1000; decide) (.cons (.str hnm'.2) (.cons ((hvi.keepP (g' := g) (Kt.of sp) pi).keepP kt pi) .nil))
            · refine purs_snoc h3 ?_
              show (true && (pur di && true)) = true
              rw [pi]
              rfl
            · rw [List.length_append, h4]
              rfl
            · intro p' hp'
              rcases List.mem_append.mp hp' with q | q
              · exact h5 p' q
              · rw [List.mem_singleton.mp q]
                show (nameS nm && formed (j + 1) di) = true
                rw [hnm'.1, fi]
                rfl
            · rw [List.map_append, h6, List.take_succ, hnm]
              rfl
            · rw [sumCons]
              have e1 : cb * ((i + 1 : Nat) : Int) = cb * i + cb := by
                rw [Int.natCast_add, Int.mul_add]
                simp
              rw [e1]
              have e2 : sndW (wordsN (j + 1)) (.tup [.str nm, di]) = wordsN (j + 1) di := rfl
              rw [e2]
              omega
            · refine deps_le fun d' hd' => ?_
              rcases List.mem_append.mp hd' with q | q
              · exact Nat.le_trans (deps_mem q) h8
              · rw [List.mem_singleton.mp q]
                show max 0 (max (dep di) 0) + 1 ≤ _
                omega
            · refine ((S6.keep sp).upF hDd hDg (S4.free hD).2.2).mono ?_
              rw [Nat.mul_succ]
              omega
            · exact ((kp5.trans kp6).trans (Kp.of sp)).upF hD
          · rintro H5 ⟨ys, es, h1, h2, h3, h4, h5, h6, h7, h8, S5, kp5⟩
            rw [List.length_map] at h4 h6 h7 S5
            rw [List.take_length] at h6
            have hns : ns.length = many.toNat := hlN
            refine ⟨D, ys, rfl, .inl ⟨SqL.of h1, fun t ht => ?_⟩⟩
            generalize hHt : upd H5 t _ = Ht
            obtain ⟨stt, et⟩ := freshF ht hHt
            refine ⟨(by show 2 ≤ sizeLine; decide), fun p hp => ?_⟩
            generalize hHp : upd Ht p _ = Hp
            obtain ⟨sp, ep⟩ := freshF hp hHp
            refine k _ (.tup [.str "record", .tup es]) Hp (.tup ep (by show 2 ≤ 1000; decide) (.cons (.str (by decide +kernel)) (.cons (.tup (sp _ _ et) ?_ ((h2.keep (Kv.of stt)).keep (Kv.of sp))) .nil))) ?_ ?_ ?_ ?_ ?_ ?_
            · omega
            · show (true && (purs es && true)) = true
              rw [h3]
              rfl
            · rw [formed_two]
              show (true && ((decide (1 ≤ (es.length : Int)) && decide ((es.length : Int) ≤ 6)) && (es.all (pairF (formed (j + 1))) && decide (es.map nmOf).Nodup))) = true
              rw [h6, decide_eq_true nmsNd, List.all_eq_true.mpr h5, decide_eq_true (show 1 ≤ (es.length : Int) by omega), decide_eq_true (show (es.length : Int) ≤ 6 by omega)]
              rfl
            · rw [words_two]
              show (es.map (sndW (wordsN (j + 1)))).sum ≤ cap
              have e1 : ((ns.length : Nat) : Int) = many := by omega
              rw [e1] at h7
              omega
            · show max 0 (max (deps es + 1) 0) + 1 ≤ 3 * (j + 1 + 1)
              omega
            · refine ((S5.keep stt).keep sp).mono ?_
              have c2 : cntK (j + 1) * ns.length ≤ cntK (j + 1) * 6 := Nat.mul_le_mul_left _ (by omega)
              have c3 : kn6.length = 6 := rfl
              show _ ≤ n + (10 + 6 * cntK (j + 1))
              omega
            · exact ((kpq.trans kp5).trans (Kp.of stt)).trans (Kp.of sp)
end
end K0

set_option Elab.async false
set_option linter.all false
set_option pp.maxSteps 700
set_option maxRecDepth 100000
set_option maxHeartbeats 4000000
namespace K0
open PySem PySem.Spec PyProof.Rows L2
open TL (tl)
abbrev sNew : Stmt := top 43
abbrev sEdg : Stmt := top 44
abbrev sChg : Stmt := top 45
/-- a drawn value of any kind -/
def spVal (k : Nat) : Sp := fun vs H Q _ => ∃ (d g c : Addr) (n : Nat), vs = [.ref d] ∧ StA H d g c n ∧ n ≤ 600000000 ∧ ∀ (v : V) (dt : Dt) (H' : Hp), DV g H' v dt → StA H' d g c (n + k) → Kp d g H H' → Q v H'
theorem len_app (x y : Str) : (x ++ y).length = x.length + y.length := by rw [TL.len_tl, TL.tl_append, List.length_append, TL.len_tl x, TL.len_tl y]
theorem dvs_strs {g : Addr} {H : Hp} : ∀ ts : List Str, (∀ x ∈ ts, x.length ≤ 1000) → DVs g H (ts.map V.str) (ts.map Dt.str)
  | [], _ => .nil
  | x :: ts, h => .cons (.str (h x List.mem_cons_self)) (dvs_strs ts fun y hy => h y (List.mem_cons_of_mem _ hy))
theorem wds_len : ∀ x ∈ wds, x.length ≤ 1000 := by decide +kernel
theorem upper_len {x : Str} (h : x.length ≤ 10) : (Txt.upper x).length ≤ 1000 := by
  have := len_upper x
  omega
section
variable {P : Program} {w : World} {K : PySem.W.Frag} {mg : Str → Option Value} {base : Heap}
variable {fShf fTab fNmd fKnd fNam fCbw fD fP fM fWd : Addr} {fdD fdP fdNam fdWd : FuncData}
theorem scNew : FnScope ["state", "name", "at", "sign", "some"] ["state"] (defScope sNew) := ⟨rfl, rfl, rfl, by decide +kernel, rfl, by decide +kernel, by decide +kernel⟩
theorem ok_new {f : Addr} {fd : FuncData} (F : Fun K "_law_new_name" "_law_new_name" sNew f fd) (T : MgN K mg fM fD fP fWd) (L : MgL K mg fShf fTab fNmd fKnd fNam fCbw)
    (GD : FnOk P w K mg base CX0 2 fD fdD ["state", "room"] spDrw) (bD : L2.Binds K fdD ["state", "room"] [])
    (GP : FnOk P w K mg base CX0 3 fP fdP ["state", "some"] spPck) (bP : L2.Binds K fdP ["state", "some"] [])
    (GN : FnOk P w K mg base CX0 4 fNam fdNam ["state", "taken"] spNam) (bN : L2.Binds K fdNam ["state", "taken"] [])
    (GW : FnOk P w K mg base CX0 1 fWd fdWd [] spWds) (bW : L2.Binds K fdWd [] []) : FnOk P w K mg base CX0 5 f fd ["state"] (spVal 20) := by
  refine F.ok scNew (fun vs H Q E h => ?_) (fun cdv A outer s H vs Q E hr h => ?_)
  · obtain ⟨d, g, c, n, rfl, _⟩ := h
    rfl
  · obtain ⟨d, g, c, n, rfl, S, hn, k⟩ := h
    have hr1 : Room 1 _ := hr.mono (by decide)
    have hr2 : Room 2 _ := hr.mono (by decide)
    have hr3 : Room 3 _ := hr.mono (by decide)
    refine ⟨_, (pss_cons (ps_set (i := 1) scNew.nd rfl (Or.inl rfl) (pe_call GN hr (by rfl) L.nam L.knam bN .nil pass0 (pa_cons (pv 0) (pa_cons (pe_lst pa_nil) pa_nil))))
      (pss_cons (ps_set (i := 2) scNew.nd rfl (Or.inl rfl) (pe_call GD hr2 (by rfl) T.dr T.kdr bD .nil pass0 (pa_cons (pv 0) (pa_cons (pe_callB call_len_str (by rfl) T.len PySem.boot_len (pa_cons (pv 1) pa_nil)) pa_nil))))
      (pss_cons (ps_set (i := 3) scNew.nd rfl (Or.inl rfl) (pe_call GP hr3 (by rfl) T.pk T.kpk bP .nil pass0 (pa_cons (pv 0) (pa_cons (pe_lst (pa_cons pe_str (pa_cons pe_str (pa_cons pe_str (pa_cons pe_str (pa_cons pe_str (pa_cons pe_str (pa_cons pe_str (pa_cons pe_str (pa_cons pe_str (pa_cons pe_str pa_nil))))))))))) pa_nil))))
      (pss_cons (ps_set (i := 4) scNew.nd rfl (Or.inl rfl) (pe_lst (pa_cons (pv 1) (pa_cons (pe_op op_add_str (pe_op op_add_str (pe_slice sl_str (pv 1) po_none (po_some (pv 2))) (pv 3)) (pe_slice sl_str (pv 1) (po_some (pe_op op_add (pv 2) pe_int)) po_none)) (pa_cons (pe_op op_add_str (pe_op op_add_str (pe_slice sl_str (pv 1) po_none (po_some (pv 2))) (pv 3)) (pe_slice sl_str (pv 1) (po_some (pv 2)) po_none)) (pa_cons (pe_slice sl_str (pe_op op_add_str (pv 1) (pe_op op_mul_str (pv 1) pe_int)) po_none (po_some pe_int)) (pa_cons (pe_slice sl_str (pe_op op_add_str (pv 1) (pe_op op_mul_str pe_str pe_int)) po_none (po_some pe_int)) pa_nil)))))))
      (pss_one (ps_ret (pe_call GP hr3 (by rfl) T.pk T.kpk bP .nil pass0 (pa_cons (pv 0) (pa_cons (pe_op op_cat (pv 4) (pe_lst (pa_cons (pe_call GP hr3 (by rfl) T.pk T.kpk bP .nil pass0 (pa_cons (pv 0) (pa_cons (pe_call0 GW hr1 (by rfl) T.wd T.kwd bW .nil pass0) pa_nil))) (pa_cons pe_str (pa_cons pe_str (pa_cons pe_str (pa_cons (pe_upper (pv 1)) (pa_cons pe_non (pa_cons pe_int (pa_cons pe_bl (pa_cons (pe_tup (pa_cons (pv 1) pa_nil)) (pa_cons (pe_lst (pa_cons (pv 1) pa_nil)) pa_nil)))))))))))) pa_nil))))))))), ?_⟩
    -- name
    refine ⟨_, rfl, Nat.zero_le _, fun l hl => ?_⟩
    generalize hHa : upd H l _ = Ha
    obtain ⟨sl, el⟩ := freshF hl hHa
    refine ⟨d, g, c, l, n, [], rfl, S.keep sl, by omega, el, by decide, (S.free hl).2.1, fun x Hb okx Sb kpb => ?_⟩
    have xl := (okS_to okx).2.2
    have x1 := (okS_to okx).2.1
    have xs : x.length ≤ sizeLine := by rw [sizeLine_eq]; omega
    -- at
    refine ⟨_, rfl, _, rfl, x, rfl, xs, d, g, c, _, _, rfl, Sb, by omega, by omega, by omega, fun v Hc v0 v1 Sc kpc => ?_⟩
    -- sign
    refine ⟨_, rfl, (by show 10 ≤ sizeLine; decide), fun m hm => ?_⟩
    generalize hHd : upd Hc m _ = Hd
    obtain ⟨sm, em⟩ := freshF hm hHd
    refine ⟨d, g, c, m, _, _, rfl, Sc.keep sm, by omega, em, (Sc.free hm).2.1, by simp, (by show 10 ≤ 1000000; decide), fun sg He hsg Se kpe => ?_⟩
    have hs : ∃ z : Str, sg = .str z ∧ z.length ≤ 1 := by
      simp only [List.mem_cons, List.not_mem_nil, or_false] at hsg
      rcases hsg with rfl | rfl | rfl | rfl | rfl | rfl | rfl | rfl | rfl | rfl <;> exact ⟨_, rfl, by decide +kernel⟩
    obtain ⟨z, rfl, zl⟩ := hs
    have c1 := cutS_length x none (some v)
    have c2 := cutS_length x (some (v + 1)) none
    have c3 := cutS_length x (some v) none
    have m8 : (Txt.mul x 8).length ≤ 10 * 8 := len_mul_leN xl (by decide)
    have m9 : (Txt.mul ("a" : Str) 9).length ≤ 1 * 9 := len_mul_leN (by decide +kernel) (by decide)
    have a1 := len_app (cutS x none (some v)) z
    have a2 := len_app (cutS x none (some v) ++ z) (cutS x (some (v + 1)) none)
    have a3 := len_app (cutS x none (some v) ++ z) (cutS x (some v) none)
    have a4 := len_app x (Txt.mul x 8)
    have a5 := len_app x (Txt.mul ("a" : Str) 9)
    have c4 := cutS_length (x ++ Txt.mul x 8) none (some 8)
    have c5 := cutS_length (x ++ Txt.mul ("a" : Str) 9) none (some 9)
    have big : ∀ {k : Nat}, k ≤ 1000 → k ≤ sizeLine := fun h => by rw [sizeLine_eq]; omega
    refine ⟨_, rfl, ?_⟩
    refine ⟨_, rfl, _, rfl, _, rfl, x, rfl, xs, _, rfl, _, _, rfl, rfl, big (by omega), ?_⟩
    refine ⟨_, rfl, _, rfl, _, _, rfl, rfl, _, rfl, x, rfl, xs, _, _, rfl, rfl, big (by omega), ?_⟩
    refine ⟨_, rfl, _, rfl, _, rfl, x, rfl, xs, _, rfl, _, _, rfl, rfl, big (by omega), ?_⟩
    refine ⟨_, rfl, _, rfl, _, rfl, x, rfl, xs, _, _, rfl, rfl, big (by omega), ?_⟩
    refine ⟨_, rfl, _, rfl, _, _, rfl, rfl, by decide, by decide, by omega, _, _, rfl, rfl, big (by omega), _, rfl, _, rfl, big (by omega), ?_⟩
    refine ⟨_, rfl, _, _, rfl, rfl, by decide, by decide, by decide +kernel, _, _, rfl, rfl, big (by omega), _, rfl, _, rfl, big (by omega), ?_⟩
    refine ⟨(by show 5 ≤ sizeLine; decide), fun o ho => ?_⟩
    generalize hHf : upd He o _ = Hf
    obtain ⟨so, eo⟩ := freshF ho hHf
    have Sf := Se.keep so
    have dvo : DVs g Hf ([x, cutS x none (some v) ++ z ++ cutS x (some (v + 1)) none, cutS x none (some v) ++ z ++ cutS x (some v) none, cutS (x ++ Txt.mul x 8) none (some 8), cutS (x ++ Txt.mul ("a" : Str) 9) none (some 9)].map V.str) _ := dvs_strs _ (fun y hy => by
      simp only [List.mem_cons, List.not_mem_nil, or_false] at hy
      rcases hy with rfl | rfl | rfl | rfl | rfl <;> omega)
    -- the last list
    refine ⟨_, rfl, _, rfl, ?_⟩
    refine ⟨_, rfl, rfl, fun pw Hg sg hpw epw => ?_⟩
    have Sg := Sf.keep sg
    refine ⟨d, g, c, pw, _, _, rfl, Sg, by omega, epw, (Sf.free hpw).2.1, by simp [wds, wd1], (by show 30 ≤ 1000000; decide), fun wv Hh hwv Sh kph => ?_⟩
    obtain ⟨wz, hwz, rfl⟩ := List.mem_map.mp hwv
    have wl := wds_len wz hwz
    refine ⟨_, rfl, ⟨_, rfl⟩, x, rfl, rfl, by omega, ?_⟩
    refine ⟨_, rfl, (by show 1 ≤ sizeLine; decide), fun pq0 hpq0 => ?_⟩
    generalize hHq0 : upd Hh pq0 _ = Hq0
    obtain ⟨sq0, eq0⟩ := freshF hpq0 hHq0
    have tq0 : Same Hh Hq0 := sq0
    refine ⟨_, rfl, (by show 1 ≤ sizeLine; decide), fun pq1 hpq1 => ?_⟩
    generalize hHq1 : upd Hq0 pq1 _ = Hq1
    obtain ⟨sq1, eq1⟩ := freshF hpq1 hHq1
    have tq1 : Same Hh Hq1 := tq0.trans sq1
    have gq1 := ((Sh.keep tq0).free hpq1).2.1
    refine ⟨(by show 10 ≤ sizeLine; decide), fun lq hpq2 => ?_⟩
    generalize hHq2 : upd Hq1 lq _ = Hq
    obtain ⟨sq2, eq2⟩ := freshF hpq2 hHq2
    have tq2 : Same Hh Hq := tq1.trans sq2
    have gq2 := ((Sh.keep tq1).free hpq2).2.1
    have uq1 : Same Hq1 Hq := sq2
    have uq0 : Same Hq0 Hq := sq1.trans uq1
    have tq := tq2
    have dvq : DVs g Hq [V.str wz, V.str "", V.str "main", V.str "z", V.str (Txt.upper x), V.non, V.int 5, V.bl true, V.ref pq0, V.ref pq1] [Dt.str wz, Dt.str "", Dt.str "main", Dt.str "z", Dt.str (Txt.upper x), Dt.non, Dt.int 5, Dt.bl true, Dt.tup [Dt.str x], Dt.lst [Dt.str x]] := (.cons (.str wl) (.cons (.str (by decide +kernel)) (.cons (.str (by decide +kernel)) (.cons (.str (by decide +kernel)) (.cons (.str (upper_len xl)) (.cons .non (.cons (.int _) (.cons (.bl _) (.cons (.tup (uq0 _ _ eq0) (by show 1 ≤ 1000; decide) (.cons ((DV.str (g := g) (H := Hh) (show x.length ≤ 1000 by omega)).keep (Kv.of tq2)) .nil)) (.cons (.lst (uq1 _ _ eq1) gq1 (by show 1 ≤ 1000; decide) (.cons ((DV.str (g := g) (H := Hh) (show x.length ≤ 1000 by omega)).keep (Kv.of tq2)) .nil)) .nil))))))))))
    have eq := eq2
    have hlq := hpq2
    have kv1 := Kv.trans (Kv.of (g := g) sg) (Kv.kp Sg kph)
    have og := (Se.free ho).2.1
    have od := (Se.free ho).1
    have eo := tq _ _ (kph _ _ (sg _ _ eo) od og)
    have dvo := (dvo.keep kv1).keep (Kv.of tq)
    refine ⟨o, lq, _, _, rfl, rfl, eo, eq, (by show 5 + 10 ≤ sizeLine; decide), fun r hr => ?_⟩
    generalize hHr : upd Hq r _ = Hr
    obtain ⟨sr, er⟩ := freshF hr hHr
    have Sr := (Sh.keep tq).keep sr
    refine ⟨d, g, c, r, _, _, rfl, Sr, by omega, er, ((Sh.keep tq).free hr).2.1, by simp, (by show 15 ≤ 1000000; decide), fun fv Hs hfv Ss kps => ?_⟩
    obtain ⟨dt, _, hdt⟩ := ((dvo.app dvq).keep (Kv.of sr)).pick hfv
    refine k fv dt Hs (hdt.keep (Kv.kp Sr kps)) (Ss.mono (by omega)) ?_
    exact (Kp.of sl).trans (kpb.trans (kpc.trans ((Kp.of sm).trans (kpe.trans ((Kp.of so).trans ((Kp.of sg).trans (kph.trans ((Kp.of tq).trans ((Kp.of sr).trans kps)))))))))
end
end K0

set_option Elab.async false
set_option linter.all false
set_option pp.maxSteps 700
set_option maxRecDepth 100000
set_option maxHeartbeats 4000000
namespace K0
open PySem PySem.Spec PyProof.Rows L2
open TL (tl)
theorem Kt.trans {H H1 H2 : Hp} (a : Kt H H1) (b : Kt H1 H2) : Kt H H2 := fun c xs e => b _ _ (a _ _ e)
theorem putF {H H1 : Hp} {p : Addr} {o : HO} {l : List V} (h : H p = some (.lst l)) (e : upd H p o = H1) : Kt H H1 ∧ H1 p = some o ∧ ∀ b, b ≠ p → H1 b = H b := by
  subst e
  exact ⟨Kt.put h, upd_same, fun b hb => upd_ne hb⟩
theorem StA.same {H H' : Hp} {d g c : Addr} {n : Nat} (S : StA H d g c n) {p : Addr} (hd : d ≠ p) (hg : g ≠ p) (hc : c ≠ p) (h : ∀ b, b ≠ p → H' b = H b) : StA H' d g c n := by
  obtain ⟨r, tt, gs, cs, S⟩ := S
  exact ⟨r, tt, gs, cs, { S with dk := by rw [h d hd]; exact S.dk, gl := by rw [h g hg]; exact S.gl, cl := by rw [h c hc]; exact S.cl }⟩
theorem Kp.same {d g p : Addr} {H H1 H2 : Hp} (k : Kp d g H H1) (hp : H p = none) (h : ∀ b, b ≠ p → H2 b = H1 b) : Kp d g H H2 := fun b u e h1 h2 => by
  rw [h b (ne_of_none e hp)]
  exact k b u e h1 h2
theorem digsL_ok : ∀ i : Fin 90, ((("f" : Str) ++ digs i.val).length ≤ 1000) := by decide +kernel
section
variable {P : Program} {w : World} {K : PySem.W.Frag} {mg : Str → Option Value} {base : Heap}
variable {fShf fTab fNmd fKnd fNam fCbw fD fP fM fWd : Addr} {fdD fdP fdNam fdWd : FuncData}
theorem scEdg : FnScope ["state", "many", "some", "deep", "lap", "names", "at", "name"] ["state"] (defScope sEdg) := ⟨rfl, rfl, rfl, by decide +kernel, rfl, by decide +kernel, by decide +kernel⟩
theorem ok_edg {f : Addr} {fd : FuncData} (F : Fun K "_law_edge" "_law_edge" sEdg f fd) (T : MgN K mg fM fD fP fWd) (L : MgL K mg fShf fTab fNmd fKnd fNam fCbw)
    (GD : FnOk P w K mg base CX0 2 fD fdD ["state", "room"] spDrw) (bD : L2.Binds K fdD ["state", "room"] [])
    (GP : FnOk P w K mg base CX0 3 fP fdP ["state", "some"] spPck) (bP : L2.Binds K fdP ["state", "some"] []) : FnOk P w K mg base CX0 4 f fd ["state"] (spVal 20) := by
  refine F.ok scEdg (fun vs H Q E h => ?_) (fun cdv A outer s H vs Q E hr h => ?_)
  · obtain ⟨d, g, c, n, rfl, _⟩ := h
    rfl
  · obtain ⟨d, g, c, n, rfl, S, hn, k⟩ := h
    have hr2 : Room 2 _ := hr.mono (by decide)
    refine ⟨_, (pss_cons (ps_set (i := 1) scEdg.nd rfl (Or.inl rfl) (pe_call GP hr (by rfl) T.pk T.kpk bP .nil pass0 (pa_cons (pv 0) (pa_cons (pe_lst (pa_cons pe_int (pa_cons pe_int (pa_cons pe_int pa_nil)))) pa_nil))))
      (pss_cons (ps_set (i := 2) scEdg.nd rfl (Or.inl rfl) (pe_lst (pa_cons (pe_tup (pa_cons pe_str (pa_cons (pe_tup (pa_cons (pe_tup (pa_cons pe_str (pa_cons (pe_tup (pa_cons pe_str (pa_cons pe_int (pa_cons (pe_tup (pa_cons pe_str (pa_cons pe_int (pa_cons pe_str pa_nil)))) pa_nil)))) pa_nil))) (pa_cons (pe_tup (pa_cons pe_str (pa_cons (pe_tup (pa_cons pe_str (pa_cons (pv 1) (pa_cons pe_str pa_nil)))) pa_nil))) pa_nil))) pa_nil))) pa_nil)))
      (pss_cons (ps_set (i := 1) scEdg.nd rfl (Or.inl rfl) (pe_call GP hr (by rfl) T.pk T.kpk bP .nil pass0 (pa_cons (pv 0) (pa_cons (pe_lst (pa_cons pe_int (pa_cons pe_int (pa_cons pe_int (pa_cons pe_int (pa_cons pe_int (pa_cons pe_int (pa_cons pe_int pa_nil)))))))) pa_nil))))
      (pss_cons (ps_expr (qApp (pv 2) (pe_tup (pa_cons pe_str (pa_cons (pv 1) (pa_cons (pe_tup (pa_cons pe_str (pa_cons (pe_callB (call_min2 rfl) (by rfl) L.min PyProof.Rows.boot_min (pa_cons pe_int (pa_cons (pe_op op_add (pe_op op_fdivN pe_int (pv 1)) (pe_call GD hr2 (by rfl) T.dr T.kdr bD .nil pass0 (pa_cons (pv 0) (pa_cons pe_int pa_nil)))) pa_nil))) (pa_cons pe_str pa_nil)))) pa_nil))))))
      (pss_cons (ps_set (i := 3) scEdg.nd rfl (Or.inl rfl) (pe_call GP hr (by rfl) T.pk T.kpk bP .nil pass0 (pa_cons (pv 0) (pa_cons (pe_lst (pa_cons pe_str (pa_cons pe_str pa_nil))) pa_nil))))
      (pss_cons (ps_for PassesOwn.never rfl (pi_range1 (by rfl) L.rng (pa_cons (pe_call GP hr (by rfl) T.pk T.kpk bP .nil pass0 (pa_cons (pv 0) (pa_cons (pe_lst (pa_cons pe_int (pa_cons pe_int pa_nil))) pa_nil))) pa_nil)) (pg_name (i := 4) scEdg.nd rfl (Or.inl rfl))
          (pss_one (ps_set (i := 3) scEdg.nd rfl (Or.inl rfl) (pe_call GP hr (by rfl) T.pk T.kpk bP .nil pass0 (pa_cons (pv 0) (pa_cons (pe_lst (pa_cons (pe_tup (pa_cons pe_str (pa_cons pe_int (pa_cons (pv 3) pa_nil)))) (pa_cons (pe_tup (pa_cons pe_str (pa_cons (pe_tup (pa_cons (pe_tup (pa_cons pe_str (pa_cons (pv 3) pa_nil))) pa_nil)) pa_nil))) (pa_cons (pe_tup (pa_cons pe_str (pa_cons (pe_tup (pa_cons (pe_tup (pa_cons pe_str (pa_cons pe_str pa_nil))) (pa_cons (pe_tup (pa_cons pe_str (pa_cons (pv 3) pa_nil))) pa_nil))) pa_nil))) pa_nil)))) pa_nil))))))
      (pss_cons (ps_expr (qApp (pv 2) (pv 3)))
      (pss_cons (ps_setLc (i := 5) (own := [("at", 6)]) (g := gName 6) (tt := tYes) (by rfl) scEdg.nd rfl rfl (sw_true rfl rfl rfl (by decide +kernel)) (pi_range1 (by rfl) L.rng (pa_cons (pe_call GP hr (by rfl) T.pk T.kpk bP .nil pass0 (pa_cons (pv 0) (pa_cons (pe_lst (pa_cons pe_int (pa_cons pe_int pa_nil))) pa_nil))) pa_nil)) (blkOk_by (own := [("at", 6)]) (N := ["state", "many", "some", "deep", "lap", "names", "at", "name"]) (sc := defScope sEdg) (by decide +kernel)) (fun _ _ _ _ _ => (pg_name (i := 6) scEdg.nd rfl (Or.inl rfl))) (fun _ _ _ _ _ => pts_nil) (fun _ _ _ _ _ => (pe_op op_add_str pe_str (pe_callTy call_str_int (by rfl) L.str (by decide +kernel) (pa_cons (pv 6) pa_nil)))))
      (pss_cons (ps_expr (qApp (pv 2) (pe_tup (pa_cons pe_str (pa_cons (pe_callTy call_tuple_of (by rfl) L.tpl (by decide +kernel) (pa_cons (pe_lc (own := [("name", 7)]) (g := gName 7) (tt := tYes) (by rfl) scEdg.nd (pi_list (pv 5)) (blkOk_by (own := [("name", 7)]) (N := ["state", "many", "some", "deep", "lap", "names", "at", "name"]) (sc := defScope sEdg) (by decide +kernel)) (fun _ _ _ _ _ => (pg_name (i := 7) scEdg.nd rfl (Or.inl rfl))) (fun _ _ _ _ _ => pts_nil) (fun _ _ _ _ _ => (pe_tup (pa_cons (pv 7) (pa_cons pe_str pa_nil))))) pa_nil)) pa_nil)))))
      (pss_one (ps_ret (pe_call GP hr (by rfl) T.pk T.kpk bP .nil pass0 (pa_cons (pv 0) (pa_cons (pe_op op_cat (pv 2) (pe_lst (pa_cons (pe_tup (pa_cons pe_str (pa_cons (pe_call GP hr (by rfl) T.pk T.kpk bP .nil pass0 (pa_cons (pv 0) (pa_cons (pe_lst (pa_cons pe_int (pa_cons pe_int (pa_cons pe_int (pa_cons pe_int (pa_cons (pe_un un_neg pe_int) pa_nil)))))) pa_nil))) (pa_cons pe_str pa_nil)))) pa_nil))) pa_nil)))))))))))))), ?_⟩
    -- many
    refine ⟨_, rfl, (by show 3 ≤ sizeLine; decide), fun la hpa0 => ?_⟩
    generalize hHa0 : upd H la _ = Ha
    obtain ⟨sa0, ea0⟩ := freshF hpa0 hHa0
    have ta0 : Same H Ha := sa0
    have ga0 := (S.free hpa0).2.1
    have ta := ta0
    have dva : DVs g Ha [V.int 15, V.int 16, V.int 17] [Dt.int 15, Dt.int 16, Dt.int 17] := (.cons (.int _) (.cons (.int _) (.cons (.int _) .nil)))
    have ea := ea0
    have hla := hpa0
    have fa := S.free hla
    have na := hla
    refine ⟨d, g, c, la, n, _, rfl, S.keep ta, by omega, ea, fa.2.1, by simp, (by show 3 ≤ 1000000; decide), fun v Hb hv Sb kpb => ?_⟩
    have hv' : ∃ z : Int, v = .int z := by
      simp only [List.mem_cons, List.not_mem_nil, or_false] at hv
      rcases hv with rfl | rfl | rfl <;> exact ⟨_, rfl⟩
    obtain ⟨m1, rfl⟩ := hv'
    have kb : Kp d g H Hb := (Kp.of ta).trans kpb
    -- some
    refine ⟨(by show 3 ≤ sizeLine; decide), fun ps0 hps0 => ?_⟩
    generalize hHs0 : upd Hb ps0 _ = Hs0
    obtain ⟨ss0, es0⟩ := freshF hps0 hHs0
    have ts0 : Same Hb Hs0 := ss0
    refine ⟨(by show 3 ≤ sizeLine; decide), fun ps1 hps1 => ?_⟩
    generalize hHs1 : upd Hs0 ps1 _ = Hs1
    obtain ⟨ss1, es1⟩ := freshF hps1 hHs1
    have ts1 : Same Hb Hs1 := ts0.trans ss1
    refine ⟨(by show 2 ≤ sizeLine; decide), fun ps2 hps2 => ?_⟩
    generalize hHs2 : upd Hs1 ps2 _ = Hs2
    obtain ⟨ss2, es2⟩ := freshF hps2 hHs2
    have ts2 : Same Hb Hs2 := ts1.trans ss2
    refine ⟨_, rfl, (by show 3 ≤ sizeLine; decide), fun ps3 hps3 => ?_⟩
    generalize hHs3 : upd Hs2 ps3 _ = Hs3
    obtain ⟨ss3, es3⟩ := freshF hps3 hHs3
    have ts3 : Same Hb Hs3 := ts2.trans ss3
    refine ⟨(by show 2 ≤ sizeLine; decide), fun ps4 hps4 => ?_⟩
    generalize hHs4 : upd Hs3 ps4 _ = Hs4
    obtain ⟨ss4, es4⟩ := freshF hps4 hHs4
    have ts4 : Same Hb Hs4 := ts3.trans ss4
    refine ⟨(by show 2 ≤ sizeLine; decide), fun ps5 hps5 => ?_⟩
    generalize hHs5 : upd Hs4 ps5 _ = Hs5
    obtain ⟨ss5, es5⟩ := freshF hps5 hHs5
    have ts5 : Same Hb Hs5 := ts4.trans ss5
    refine ⟨(by show 2 ≤ sizeLine; decide), fun ps6 hps6 => ?_⟩
    generalize hHs6 : upd Hs5 ps6 _ = Hs6
    obtain ⟨ss6, es6⟩ := freshF hps6 hHs6
    have ts6 : Same Hb Hs6 := ts5.trans ss6
    refine ⟨(by show 1 ≤ sizeLine; decide), fun ls hps7 => ?_⟩
    generalize hHs7 : upd Hs6 ls _ = Hs
    obtain ⟨ss7, es7⟩ := freshF hps7 hHs7
    have ts7 : Same Hb Hs := ts6.trans ss7
    have gs7 := ((Sb.keep ts6).free hps7).2.1
    have us6 : Same Hs6 Hs := ss7
    have us5 : Same Hs5 Hs := ss6.trans us6
    have us4 : Same Hs4 Hs := ss5.trans us5
    have us3 : Same Hs3 Hs := ss4.trans us4
    have us2 : Same Hs2 Hs := ss3.trans us3
    have us1 : Same Hs1 Hs := ss2.trans us2
    have us0 : Same Hs0 Hs := ss1.trans us1
    have ts := ts7
    have dvs : DVs g Hs [V.ref ps6] [Dt.tup [Dt.str "record", Dt.tup [Dt.tup [Dt.str "a", Dt.tup [Dt.str "row", Dt.int 64, Dt.tup [Dt.str "row", Dt.int 6, Dt.str "truth"]]], Dt.tup [Dt.str "b", Dt.tup [Dt.str "row", Dt.int m1, Dt.str "number"]]]]] := (.cons (.tup (us6 _ _ es6) (by show 2 ≤ 1000; decide) (.cons (.str (by decide +kernel)) (.cons (.tup (us5 _ _ es5) (by show 2 ≤ 1000; decide) (.cons (.tup (us2 _ _ es2) (by show 2 ≤ 1000; decide) (.cons (.str (by decide +kernel)) (.cons (.tup (us1 _ _ es1) (by show 3 ≤ 1000; decide) (.cons (.str (by decide +kernel)) (.cons (.int _) (.cons (.tup (us0 _ _ es0) (by show 3 ≤ 1000; decide) (.cons (.str (by decide +kernel)) (.cons (.int _) (.cons (.str (by decide +kernel)) .nil)))) .nil)))) .nil))) (.cons (.tup (us4 _ _ es4) (by show 2 ≤ 1000; decide) (.cons (.str (by decide +kernel)) (.cons (.tup (us3 _ _ es3) (by show 3 ≤ 1000; decide) (.cons (.str (by decide +kernel)) (.cons ((DV.int (g := g) (H := Hb) m1).keep (Kv.of ts7)) (.cons (.str (by decide +kernel)) .nil)))) .nil))) .nil))) .nil))) .nil)
    have es := es7
    have hls := hps7
    have fs := (Sb.keep ts6).free hls
    have ns := ts6.free hls
    have Ss := Sb.keep ts
    have ks : Kp d g H Hs := kb.trans (Kp.of ts)
    have hls : H ls = none := by
      cases e : H ls with
      | none => rfl
      | some u => exact absurd (kb _ _ e fs.1 fs.2.1) (by rw [ns]; intro z; cases z)
    -- many
    refine ⟨_, rfl, (by show 7 ≤ sizeLine; decide), fun lb hpb0 => ?_⟩
    generalize hHb0 : upd Hs lb _ = Hb
    obtain ⟨sb0, eb0⟩ := freshF hpb0 hHb0
    have tb0 : Same Hs Hb := sb0
    have gb0 := (Ss.free hpb0).2.1
    have tb := tb0
    have dvb : DVs g Hb [V.int 2, V.int 3, V.int 4, V.int 20, V.int 64, V.int 39, V.int 57] [Dt.int 2, Dt.int 3, Dt.int 4, Dt.int 20, Dt.int 64, Dt.int 39, Dt.int 57] := (.cons (.int _) (.cons (.int _) (.cons (.int _) (.cons (.int _) (.cons (.int _) (.cons (.int _) (.cons (.int _) .nil)))))))
    have eb := eb0
    have hlb := hpb0
    have fb := Ss.free hlb
    have nb := hlb
    refine ⟨d, g, c, lb, n + 1, _, rfl, Ss.keep tb, by omega, eb, fb.2.1, by simp, (by show 7 ≤ 1000000; decide), fun v Hc hv Sc kpc => ?_⟩
    have hv' : ∃ z : Int, v = .int z ∧ 2 ≤ z ∧ z ≤ 64 := by
      simp only [List.mem_cons, List.not_mem_nil, or_false] at hv
      rcases hv with rfl | rfl | rfl | rfl | rfl | rfl | rfl <;> exact ⟨_, rfl, by decide, by decide⟩
    obtain ⟨m2, rfl, m22, m264⟩ := hv'
    have kc : Kp d g H Hc := (ks.trans (Kp.of tb)).trans kpc
    have esc := kpc _ _ (tb _ _ es) fs.1 fs.2.1
    have pus : purs [Dt.tup [Dt.str "record", Dt.tup [Dt.tup [Dt.str "a", Dt.tup [Dt.str "row", Dt.int 64, Dt.tup [Dt.str "row", Dt.int 6, Dt.str "truth"]]], Dt.tup [Dt.str "b", Dt.tup [Dt.str "row", Dt.int m1, Dt.str "number"]]]]] = true := rfl
    have dvs := dvs.keepP (g' := g) ((Kt.of tb).trans (Kt.kp (Ss.keep tb) kpc)) pus
    -- some.append(..)
    refine ⟨_, rfl, .inl ⟨rfl, _, SqL.of esc⟩, _, rfl, _, rfl, _, _, rfl, rfl, ⟨by omega, by omega⟩, _, rfl, d, g, c, _, 2, rfl, Sc, by omega, by decide, by decide, fun w Hd w0 w1 Sd kpd => ?_⟩
    have dvs := dvs.keepP (g' := g) (Kt.kp Sc kpd) pus
    have esd := kpd _ _ esc fs.1 fs.2.1
    refine ⟨_, _, rfl, rfl, _, _, rfl, (by show 3 ≤ sizeLine; decide), fun q hq => ?_⟩
    generalize hHe : upd Hd q _ = He
    obtain ⟨sq, eq⟩ := freshF hq hHe
    refine ⟨(by show 3 ≤ sizeLine; decide), fun r hr => ?_⟩
    generalize hHf : upd He r _ = Hf
    obtain ⟨sr, er⟩ := freshF hr hHf
    have dv2 := DV.tup (g := g) er (by show 3 ≤ 1000; decide) (.cons (.str (by decide +kernel)) (.cons (.int _) (.cons (.tup (sr _ _ eq) (by show 3 ≤ 1000; decide) (.cons (.str (by decide +kernel)) (.cons (.int _) (.cons (.str (by decide +kernel)) .nil)))) .nil)))
    have dvs := dvs.keepP (g' := g) (Kt.of (sq.trans sr)) pus
    have kd : Kp d g H Hf := ((kc.trans kpd).trans (Kp.of sq)).trans (Kp.of sr)
    have esf := sr _ _ (sq _ _ esd)
    refine ⟨ls, _, _, rfl, rfl, esf, (by show 1 < sizeLine; decide), ?_⟩
    generalize hHg : upd Hf ls _ = Hg
    obtain ⟨ktg, esg, neg⟩ := putF esf hHg
    have Sg := ((Sd.keep sq).keep sr).same fs.1.symm fs.2.1.symm fs.2.2.symm neg
    have kg := kd.same hls neg
    have dvg := (dvs.app (.cons dv2 .nil)).keepP (g' := g) ktg rfl
    -- deep
    obtain ⟨vs2, ds2, esg, dvg, pug, lg⟩ : ∃ vs ds, Hg ls = some (.lst vs) ∧ DVs g Hg vs ds ∧ purs ds = true ∧ vs.length = 2 := ⟨_, _, esg, dvg, rfl, rfl⟩
    refine ⟨_, rfl, (by show 2 ≤ sizeLine; decide), fun ldp hpdp0 => ?_⟩
    generalize hHdp0 : upd Hg ldp _ = Hdp
    obtain ⟨sdp0, edp0⟩ := freshF hpdp0 hHdp0
    have tdp0 : Same Hg Hdp := sdp0
    have gdp0 := (Sg.free hpdp0).2.1
    have tdp := tdp0
    have dvdp : DVs g Hdp [V.str "number", V.str "truth"] [Dt.str "number", Dt.str "truth"] := (.cons (.str (by decide +kernel)) (.cons (.str (by decide +kernel)) .nil))
    have edp := edp0
    have hldp := hpdp0
    have fdp := Sg.free hldp
    have ndp := hldp
    refine ⟨d, g, c, ldp, _, _, rfl, Sg.keep tdp, by omega, edp, fdp.2.1, by simp, (by show 2 ≤ 1000000; decide), fun v Hh hv Sh kph => ?_⟩
    obtain ⟨dz, hdz, pdz⟩ : ∃ dz, DV g Hh v dz ∧ pur dz = true := by
      simp only [List.mem_cons, List.not_mem_nil, or_false] at hv
      rcases hv with rfl | rfl <;> exact ⟨_, .str (by decide +kernel), rfl⟩
    have kh : Kp d g H Hh := (kg.trans (Kp.of tdp)).trans kph
    have esh := kph _ _ (tdp _ _ esg) fs.1 fs.2.1
    have dvh := (dvg.keepP (g' := g) (Kt.of tdp) pug).keepP (g' := g) (Kt.kp (Sg.keep tdp) kph) pug
    -- for lap in range(..)
    refine ⟨_, rfl, (by show 2 ≤ sizeLine; decide), fun lx hpx0 => ?_⟩
    generalize hHx0 : upd Hh lx _ = Hx
    obtain ⟨sx0, ex0⟩ := freshF hpx0 hHx0
    have tx0 : Same Hh Hx := sx0
    have gx0 := (Sh.free hpx0).2.1
    have tx := tx0
    have dvx : DVs g Hx [V.int 3, V.int 4] [Dt.int 3, Dt.int 4] := (.cons (.int _) (.cons (.int _) .nil))
    have ex := ex0
    have hlx := hpx0
    have fx := Sh.free hlx
    have nx := hlx
    refine ⟨d, g, c, lx, _, _, rfl, Sh.keep tx, by omega, ex, fx.2.1, by simp, (by show 2 ≤ 1000000; decide), fun v2 Hi hv Si kpi => ?_⟩
    have hv' : ∃ z : Int, v2 = .int z ∧ 0 ≤ z ∧ z ≤ 4 := by
      simp only [List.mem_cons, List.not_mem_nil, or_false] at hv
      rcases hv with rfl | rfl <;> exact ⟨_, rfl, by decide, by decide⟩
    obtain ⟨m3, rfl, m30, m34⟩ := hv'
    have ki : Kp d g H Hi := (kh.trans (Kp.of tx)).trans kpi
    have esi := kpi _ _ (tx _ _ esh) fs.1 fs.2.1
    have dvi := (dvh.keepP (g' := g) (Kt.of tx) pug).keepP (g' := g) (Kt.kp (Sh.keep tx) kpi) pug
    have hdi := (hdz.keepP (g' := g) (Kt.of tx) pdz).keepP (g' := g) (Kt.kp (Sh.keep tx) kpi) pdz
    refine ⟨_, rfl, by omega, by omega, for_range (lo := 0) (n := m3.toNat)
      (fun i σ H' => ∃ (v : V) (dt : Dt) (lv : Option V), σ = [some (.ref d), some (.int m2), some (.ref ls), some v, lv, none, none, none] ∧ DV g H' v dt ∧ pur dt = true ∧ H' ls = some (.lst vs2) ∧ DVs g H' vs2 ds2 ∧ StA H' d g c (n + 6 + i) ∧ Kp d g H H')
      ⟨v, dz, none, rfl, hdi, pdz, esi, dvi, Si.mono (by omega), ki⟩ ?_ ?_⟩
    · rintro i σ H1 hi ⟨v, dt, lv, rfl, hdt, pdt, es1, dv1, S1, k1⟩
      have hi4 : i < 4 := by omega
      refine ⟨_, rfl, _, rfl, (by show 3 ≤ sizeLine; decide), fun py0 hpy0 => ?_⟩
      generalize hHy0 : upd H1 py0 _ = Hy0
      obtain ⟨sy0, ey0⟩ := freshF hpy0 hHy0
      have ty0 : Same H1 Hy0 := sy0
      refine ⟨_, rfl, (by show 2 ≤ sizeLine; decide), fun py1 hpy1 => ?_⟩
      generalize hHy1 : upd Hy0 py1 _ = Hy1
      obtain ⟨sy1, ey1⟩ := freshF hpy1 hHy1
      have ty1 : Same H1 Hy1 := ty0.trans sy1
      refine ⟨(by show 1 ≤ sizeLine; decide), fun py2 hpy2 => ?_⟩
      generalize hHy2 : upd Hy1 py2 _ = Hy2
      obtain ⟨sy2, ey2⟩ := freshF hpy2 hHy2
      have ty2 : Same H1 Hy2 := ty1.trans sy2
      refine ⟨(by show 2 ≤ sizeLine; decide), fun py3 hpy3 => ?_⟩
      generalize hHy3 : upd Hy2 py3 _ = Hy3
      obtain ⟨sy3, ey3⟩ := freshF hpy3 hHy3
      have ty3 : Same H1 Hy3 := ty2.trans sy3
      refine ⟨(by show 2 ≤ sizeLine; decide), fun py4 hpy4 => ?_⟩
      generalize hHy4 : upd Hy3 py4 _ = Hy4
      obtain ⟨sy4, ey4⟩ := freshF hpy4 hHy4
      have ty4 : Same H1 Hy4 := ty3.trans sy4
      refine ⟨_, rfl, (by show 2 ≤ sizeLine; decide), fun py5 hpy5 => ?_⟩
      generalize hHy5 : upd Hy4 py5 _ = Hy5
      obtain ⟨sy5, ey5⟩ := freshF hpy5 hHy5
      have ty5 : Same H1 Hy5 := ty4.trans sy5
      refine ⟨(by show 2 ≤ sizeLine; decide), fun py6 hpy6 => ?_⟩
      generalize hHy6 : upd Hy5 py6 _ = Hy6
      obtain ⟨sy6, ey6⟩ := freshF hpy6 hHy6
      have ty6 : Same H1 Hy6 := ty5.trans sy6
      refine ⟨(by show 2 ≤ sizeLine; decide), fun py7 hpy7 => ?_⟩
      generalize hHy7 : upd Hy6 py7 _ = Hy7
      obtain ⟨sy7, ey7⟩ := freshF hpy7 hHy7
      have ty7 : Same H1 Hy7 := ty6.trans sy7
      refine ⟨(by show 3 ≤ sizeLine; decide), fun ly hpy8 => ?_⟩
      generalize hHy8 : upd Hy7 ly _ = Hy
      obtain ⟨sy8, ey8⟩ := freshF hpy8 hHy8
      have ty8 : Same H1 Hy := ty7.trans sy8
      have gy8 := ((S1.keep ty7).free hpy8).2.1
      have uy7 : Same Hy7 Hy := sy8
      have uy6 : Same Hy6 Hy := sy7.trans uy7
      have uy5 : Same Hy5 Hy := sy6.trans uy6
      have uy4 : Same Hy4 Hy := sy5.trans uy5
      have uy3 : Same Hy3 Hy := sy4.trans uy4
      have uy2 : Same Hy2 Hy := sy3.trans uy3
      have uy1 : Same Hy1 Hy := sy2.trans uy2
      have uy0 : Same Hy0 Hy := sy1.trans uy1
      have ty := ty8
      have dvy : DVs g Hy [V.ref py0, V.ref py3, V.ref py7] [Dt.tup [Dt.str "row", Dt.int 2, dt], Dt.tup [Dt.str "record", Dt.tup [Dt.tup [Dt.str "a", dt]]], Dt.tup [Dt.str "record", Dt.tup [Dt.tup [Dt.str "b", Dt.str "truth"], Dt.tup [Dt.str "a", dt]]]] := (.cons (.tup (uy0 _ _ ey0) (by show 3 ≤ 1000; decide) (.cons (.str (by decide +kernel)) (.cons (.int _) (.cons (hdt.keep (Kv.of ty8)) .nil)))) (.cons (.tup (uy3 _ _ ey3) (by show 2 ≤ 1000; decide) (.cons (.str (by decide +kernel)) (.cons (.tup (uy2 _ _ ey2) (by show 1 ≤ 1000; decide) (.cons (.tup (uy1 _ _ ey1) (by show 2 ≤ 1000; decide) (.cons (.str (by decide +kernel)) (.cons (hdt.keep (Kv.of ty8)) .nil))) .nil)) .nil))) (.cons (.tup (uy7 _ _ ey7) (by show 2 ≤ 1000; decide) (.cons (.str (by decide +kernel)) (.cons (.tup (uy6 _ _ ey6) (by show 2 ≤ 1000; decide) (.cons (.tup (uy4 _ _ ey4) (by show 2 ≤ 1000; decide) (.cons (.str (by decide +kernel)) (.cons (.str (by decide +kernel)) .nil))) (.cons (.tup (uy5 _ _ ey5) (by show 2 ≤ 1000; decide) (.cons (.str (by decide +kernel)) (.cons (hdt.keep (Kv.of ty8)) .nil))) .nil))) .nil))) .nil)))
      have ey := ey8
      have hly := hpy8
      have fy := (S1.keep ty7).free hly
      have ny := ty7.free hly
      refine ⟨d, g, c, ly, _, _, rfl, S1.keep ty, by omega, ey, fy.2.1, by simp, (by show 3 ≤ 1000000; decide), fun v' H2 hv' S2 kp2 => ?_⟩
      obtain ⟨dt', hm, hdt'⟩ := dvy.pick hv'
      have pdt' : pur dt' = true := purs_mem (by simp [purs, pur, pdt]) hm
      exact ⟨v', dt', _, rfl, hdt'.keepP (Kt.kp (S1.keep ty) kp2) pdt', pdt', kp2 _ _ (ty _ _ es1) fs.1 fs.2.1, (dv1.keepP (g' := g) (Kt.of ty) pug).keepP (Kt.kp (S1.keep ty) kp2) pug, S2.mono (by omega), (k1.trans (Kp.of ty)).trans kp2⟩
    rintro σ H1 ⟨v, dt, lv, rfl, hdt, pdt, es1, dv1, S1, k1⟩
    have S1 := S1.mono (m := n + 10) (by omega)
    -- some.append(deep)
    refine ⟨_, rfl, .inl ⟨rfl, _, SqL.of es1⟩, _, rfl, ls, _, _, rfl, rfl, es1, by rw [lg, sizeLine_eq]; omega, ?_⟩
    generalize hH2 : upd H1 ls _ = H2
    obtain ⟨kt2, es2, ne2⟩ := putF es1 hH2
    have S2 := S1.same fs.1.symm fs.2.1.symm fs.2.2.symm ne2
    have k2 := k1.same hls ne2
    have dv2 := (dv1.snoc hdt).keepP (g' := g) kt2 (purs_snoc pug pdt)
    obtain ⟨vs3, ds3, es2, dv2, pu2, lg3⟩ : ∃ vs ds, H2 ls = some (.lst vs) ∧ DVs g H2 vs ds ∧ purs ds = true ∧ vs.length = 3 := ⟨_, _, es2, dv2, purs_snoc pug pdt, by rw [List.length_append, lg]; rfl⟩
    -- names
    refine ⟨_, rfl, (by show 2 ≤ sizeLine; decide), fun lz hpz0 => ?_⟩
    generalize hHz0 : upd H2 lz _ = Hz
    obtain ⟨sz0, ez0⟩ := freshF hpz0 hHz0
    have tz0 : Same H2 Hz := sz0
    have gz0 := (S2.free hpz0).2.1
    have tz := tz0
    have dvz : DVs g Hz [V.int 6, V.int 7] [Dt.int 6, Dt.int 7] := (.cons (.int _) (.cons (.int _) .nil))
    have ez := ez0
    have hlz := hpz0
    have fz := S2.free hlz
    have nz := hlz
    refine ⟨d, g, c, lz, _, _, rfl, S2.keep tz, by omega, ez, fz.2.1, by simp, (by show 2 ≤ 1000000; decide), fun v2 H3 hv S3 kp3 => ?_⟩
    have hv' : ∃ z : Int, v2 = .int z ∧ 0 ≤ z ∧ z ≤ 7 := by
      simp only [List.mem_cons, List.not_mem_nil, or_false] at hv
      rcases hv with rfl | rfl <;> exact ⟨_, rfl, by decide, by decide⟩
    obtain ⟨m4, rfl, m40, m47⟩ := hv'
    have k3 : Kp d g H H3 := (k2.trans (Kp.of tz)).trans kp3
    have es3 := kp3 _ _ (tz _ _ es2) fs.1 fs.2.1
    have dv3 := (dv2.keepP (g' := g) (Kt.of tz) pu2).keepP (g' := g) (Kt.kp (S2.keep tz) kp3) pu2
    refine ⟨m4, rfl, by omega, by omega, fun D hD => lc_range (lo := 0) (n := m4.toNat)
      (fun i H' => H' D = some (.lst (((List.range i).map (fun j => ("f" : Str) ++ digs j)).map V.str)) ∧ Same H3 H') ⟨upd_same, same_new hD⟩ ?_ ?_⟩
    · rintro i H' hi ⟨h1, s1⟩
      refine ⟨rfl, ?_⟩
      have od : okS 2 (digs i) = true := digs_ok ⟨i, by omega⟩
      have e0 : (0 : Int) + (i : Nat) = (i : Nat) := Int.zero_add _
      rw [e0]
      refine ⟨_, rfl, (i : Nat), rfl, ?_, ("f" : Str), digs i, rfl, rfl, ?_, _, h1, ?_, ?_, ?_⟩
      · rw [Int.natAbs_natCast]
        exact Nat.lt_of_le_of_lt (Nat.log2_le_self i) (by omega)
      · have h4 := (okS_to od).2.2
        have h5 : ("f" : Str).length = 1 := by decide +kernel
        rw [sizeLine_eq]
        omega
      · rw [List.length_map, List.length_map, List.length_range, sizeLine_eq]
        omega
      · rw [upd_same, List.range_succ, List.map_append, List.map_append]
        rfl
      · intro b o e
        rw [upd_ne (ne_of_none e hD)]
        exact s1 _ _ e
    rintro H4 ⟨eD, s4⟩
    have fls : ∀ x ∈ (List.range m4.toNat).map (fun j => ("f" : Str) ++ digs j), x.length ≤ 1000 := fun x hx => by
      obtain ⟨j, hj, rfl⟩ := List.mem_map.mp hx
      exact digsL_ok ⟨j, by have := List.mem_range.mp hj; omega⟩
    have fln : ((List.range m4.toNat).map (fun j => ("f" : Str) ++ digs j)).length ≤ 7 := by
      rw [List.length_map, List.length_range]
      omega
    generalize (List.range m4.toNat).map (fun j => ("f" : Str) ++ digs j) = fl at eD fls fln
    have S4 := S3.keep s4
    have k4 : Kp d g H H4 := k3.trans (Kp.of s4)
    have es4 := s4 _ _ es3
    have dv4 := dv3.keepP (g' := g) (Kt.of s4) pu2
    -- some.append(('record', tuple(..)))
    refine ⟨_, rfl, .inl ⟨rfl, _, SqL.of es4⟩, _, rfl, D, rfl, ⟨_, SqL.of eD⟩, fun D2 hD2 => lc_list (K := K) (a := D) (xs := fl.map V.str)
      (fun i H' => ∃ ys es, H' D2 = some (.lst ys) ∧ DVs g H' ys es ∧ purs es = true ∧ ys.length = i ∧ Same H4 H') ⟨[], [], upd_same, .nil, rfl, rfl, same_new hD2⟩ (fun i H' _ ⟨_, _, _, _, _, _, s⟩ => SqL.of (s _ _ eD)) ?_ ?_⟩
    · rintro i y H5 hi ⟨ys, es', h1, h2, h3, h4, s5⟩
      have hil : i < fl.length := by
        have := (List.getElem?_eq_some_iff.mp hi).1
        rw [List.length_map] at this
        exact this
      rw [List.getElem?_map] at hi
      obtain ⟨nm, hnm, rfl⟩ := Option.map_eq_some_iff.mp hi
      refine ⟨rfl, ?_⟩
      refine ⟨_, rfl, (by show 2 ≤ sizeLine; decide), fun p hp => ?_⟩
      generalize hH6 : upd H5 p _ = H6
      obtain ⟨sp, ep⟩ := freshF hp hH6
      refine ⟨_, sp _ _ h1, by rw [h4, sizeLine_eq]; omega, ys ++ [.ref p], es' ++ [.tup [.str nm, .str "number"]], upd_same, ?_, purs_snoc h3 rfl, by rw [List.length_append, h4]; rfl, ?_⟩
      · have kt : Kt H6 (upd H6 D2 (.lst (ys ++ [.ref p]))) := Kt.put (sp _ _ h1)
        exact ((h2.keepP (g' := g) (Kt.of sp) h3).keepP kt h3).snoc (.tup (kt _ _ ep) (by show 2 ≤ 1000; decide) (.cons (.str (fls nm (List.mem_of_getElem? hnm))) (.cons (.str (by decide +kernel)) .nil)))
      · intro b o e
        rw [upd_ne (ne_of_none e hD2)]
        exact sp _ _ (s5 _ _ e)
    rintro H5 ⟨ys, es', h1, h2, h3, h4, s5⟩
    rw [List.length_map] at h4
    refine ⟨D2, ys, rfl, .inl ⟨SqL.of h1, fun t ht => ?_⟩⟩
    generalize hH6 : upd H5 t _ = H6
    obtain ⟨st, et⟩ := freshF ht hH6
    refine ⟨(by show 2 ≤ sizeLine; decide), fun p hp => ?_⟩
    generalize hH7 : upd H6 p _ = H7
    obtain ⟨sp, ep⟩ := freshF hp hH7
    have s7 := (s5.trans st).trans sp
    have S7 := S4.keep s7
    have k7 : Kp d g H H7 := k4.trans (Kp.of s7)
    have es7 := s7 _ _ es4
    have dv7 := dv4.keepP (g' := g) (Kt.of s7) pu2
    have dvp : DV g H7 (.ref p) (.tup [.str "record", .tup es']) := .tup ep (by show 2 ≤ 1000; decide) (.cons (.str (by decide +kernel)) (.cons (.tup (sp _ _ et) (by rw [← h2.len]; omega) ((h2.keepP (g' := g) (Kt.of st) h3).keepP (Kt.of sp) h3)) .nil))
    have pup : pur (.tup [.str "record", .tup es']) = true := by simp [purs, pur, h3]
    refine ⟨ls, _, _, rfl, rfl, es7, by rw [lg3, sizeLine_eq]; omega, ?_⟩
    generalize hH8 : upd H7 ls _ = H8
    obtain ⟨kt8, es8, ne8⟩ := putF es7 hH8
    have S8 := S7.same fs.1.symm fs.2.1.symm fs.2.2.symm ne8
    have k8 := k7.same hls ne8
    have pu8 := purs_snoc pu2 pup
    have dv8 := (dv7.snoc dvp).keepP (g' := g) kt8 pu8
    -- return
    refine ⟨_, rfl, _, rfl, ?_⟩
    refine ⟨_, rfl, _, rfl, (by show 5 ≤ sizeLine; decide), fun lw hpw0 => ?_⟩
    generalize hHw0 : upd H8 lw _ = Hw
    obtain ⟨sw0, ew0⟩ := freshF hpw0 hHw0
    have tw0 : Same H8 Hw := sw0
    have gw0 := (S8.free hpw0).2.1
    have tw := tw0
    have dvw : DVs g Hw [V.int 0, V.int 1, V.int 64, V.int 65, V.int (-1)] [Dt.int 0, Dt.int 1, Dt.int 64, Dt.int 65, Dt.int (-1)] := (.cons (.int _) (.cons (.int _) (.cons (.int _) (.cons (.int _) (.cons (.int _) .nil)))))
    have ew := ew0
    have hlw := hpw0
    have fw := S8.free hlw
    have nw := hlw
    refine ⟨d, g, c, lw, _, _, rfl, S8.keep tw, by omega, ew, fw.2.1, by simp, (by show 5 ≤ 1000000; decide), fun v2 H9 hv S9 kp9 => ?_⟩
    have hv' : ∃ z : Int, v2 = .int z := by
      simp only [List.mem_cons, List.not_mem_nil, or_false] at hv
      rcases hv with rfl | rfl | rfl | rfl | rfl <;> exact ⟨_, rfl⟩
    obtain ⟨m5, rfl⟩ := hv'
    have k9 : Kp d g H H9 := (k8.trans (Kp.of tw)).trans kp9
    have es9 := kp9 _ _ (tw _ _ es8) fs.1 fs.2.1
    have dv9 := (dv8.keepP (g' := g) (Kt.of tw) pu8).keepP (g' := g) (Kt.kp (S8.keep tw) kp9) pu8
    refine ⟨(by show 3 ≤ sizeLine; decide), fun p2 hp2 => ?_⟩
    generalize hHA : upd H9 p2 _ = HA
    obtain ⟨sp2, ep2⟩ := freshF hp2 hHA
    refine ⟨(by show 1 ≤ sizeLine; decide), fun o ho => ?_⟩
    generalize hHB : upd HA o _ = HB
    obtain ⟨so, eo⟩ := freshF ho hHB
    have sB := sp2.trans so
    refine ⟨ls, o, _, _, rfl, rfl, sB _ _ es9, eo, ?_, fun r hr => ?_⟩
    · rw [List.length_append, lg3, sizeLine_eq]
      show 3 + 1 + 1 ≤ _
      omega
    generalize hHC : upd HB r _ = HC
    obtain ⟨sr, er⟩ := freshF hr hHC
    have sC := sB.trans sr
    have dvC := (dv9.keepP (g' := g) (Kt.of sC) pu8).app (.cons (.tup (sr _ _ (so _ _ ep2)) (by show 3 ≤ 1000; decide) (.cons (.str (by decide +kernel)) (.cons (.int m5) (.cons (.str (by decide +kernel)) .nil)))) .nil)
    refine ⟨d, g, c, r, _, _, rfl, S9.keep sC, by omega, er, ((S9.keep sB).free hr).2.1, by simp, ?_, fun fv HD hfv SD kpD => ?_⟩
    · simp only [List.length_append, lg3]
      show 3 + 1 + 1 ≤ _
      omega
    obtain ⟨dt', _, hdt'⟩ := dvC.pick hfv
    exact k fv dt' HD (hdt'.keep (Kv.kp (S9.keep sC) kpD)) (SD.mono (by omega)) ((k9.trans (Kp.of sC)).trans kpD)
end
end K0

set_option Elab.async false
set_option linter.all false
set_option pp.maxSteps 700
set_option maxRecDepth 100000
set_option maxHeartbeats 4000000
namespace K0
open PySem PySem.Spec PyProof.Rows L2
open TL (tl)
section
variable {X : Cx}
/-- t == (), t any tuple -/
theorem op_eqNilT (hu : X.A.units + 64 < cLine) : OpR X (compareOp .Eq) (fun x y H Q => ∃ (a b : Addr) (xs : List V), x = .ref a ∧ y = .ref b ∧ SqT X.K H a xs ∧ SqT X.K H b [] ∧ Q (.bl xs.isEmpty) H) := by
  intro pins s σ H x y v u Q I rx ry h
  obtain ⟨a, b, xs, rfl, rfl, ha, hb, q⟩ := h
  cases (show v = Value.ref a from rx)
  cases (show u = Value.ref b from ry)
  obtain ⟨us, r1, p1, _⟩ := I.tuple ha
  obtain ⟨ws, r2, p2, _⟩ := I.tuple hb
  cases r2
  refine SeqAt.eq_tupleAt (e := fun _ => true) p1 p2 (by omega) (fun j _ h2 => absurd h2 (by simp)) (fin_bl I q ?_)
  cases r1 with
  | nil => rfl
  | cons h t => simp
theorem pt_weak {e : Expr} {t : TT} (he : PT X e t) : PT X e (fun σ H Q => ∃ Qc : Bool → Hp → Prop, t σ H Qc ∧ ∀ b H1, Qc b H1 → Q b H1) := by
  refine ⟨fun pins s σ H Q I h => ?_⟩
  obtain ⟨Qc, h, k⟩ := h
  exact thn (he.run pins s σ H Qc I h) fun b s1 ⟨H1, I1, q⟩ => ⟨H1, I1, k b H1 q⟩
end
theorem cutV_take (xs : List V) {k : Nat} (h : k ≤ xs.length) : cutV xs none (some ((k : Nat) : Int)) = xs.take k := by
  unfold cutV
  rw [HT.sIx_none, List.drop_zero, HT.sIx_nat]
  congr 1
  omega
theorem cutV_drop (xs : List V) {k : Nat} (h : k ≤ xs.length) : cutV xs (some ((k : Nat) : Int)) none = xs.drop k := by
  unfold cutV
  rw [HT.sIx_none, HT.sIx_nat]
  have e : min k xs.length = k := by omega
  rw [e, List.take_of_length_le]
  rw [List.length_drop]
  omega
theorem DVs.take {g : Addr} {H : Hp} : ∀ {xs : List V} {ds : List Dt}, DVs g H xs ds → ∀ k, DVs g H (xs.take k) (ds.take k)
  | _, _, .nil, k => by
    rw [List.take_nil, List.take_nil]
    exact .nil
  | _, _, .cons h r, 0 => .nil
  | _, _, .cons h r, k + 1 => .cons h (r.take k)
theorem DVs.drop {g : Addr} {H : Hp} : ∀ {xs : List V} {ds : List Dt}, DVs g H xs ds → ∀ k, DVs g H (xs.drop k) (ds.drop k)
  | _, _, .nil, k => by
    rw [List.drop_nil, List.drop_nil]
    exact .nil
  | _, _, .cons h r, 0 => .cons h r
  | _, _, .cons h r, k + 1 => r.drop k
def spChg (m : Nat) : Sp := fun vs H Q _ => 1 ≤ m ∧ ∃ (d g c : Addr) (n : Nat) (v : V) (dt : Dt), vs = [.ref d, v, .int ((m : Nat) - 1)] ∧ StA H d g c n ∧ n + 2 * m ≤ 500000000 ∧ DV g H v dt ∧
  ∀ (v' : V) (dt' : Dt) (H' : Hp), DV g H' v' dt' → StA H' d g c (n + 2 * m) → Kp d g H H' → Q v' H'
theorem DV.tupv {g : Addr} {H : Hp} {v : V} {d : Dt} (h : DV g H v d) (ht : isTup d = true) : ∃ a xs ds, v = .ref a ∧ d = .tup ds ∧ H a = some (.tup xs) ∧ ds.length ≤ 1000 ∧ DVs g H xs ds := by
  cases h with
  | tup e h r => exact ⟨_, _, _, rfl, rfl, e, h, r⟩
  | _ => cases ht
section
variable {P : Program} {w : World} {K : PySem.W.Frag} {mg : Str → Option Value} {base : Heap}
variable {fShf fTab fNmd fKnd fNam fCbw fD fP fM fWd fChg : Addr} {fdD fdP fdChg : FuncData}
structure MgC (K : PySem.W.Frag) (mg : Str → Option Value) (fChg : Addr) : Prop where
  chg : mg "_law_changed" = some (.ref fChg)
  kchg : PySem.W.keepIn K (.ref fChg) = true
theorem scChg : FnScope ["state", "value", "deep", "some", "at"] ["state", "value", "deep"] (defScope sChg) := ⟨rfl, rfl, rfl, by decide +kernel, rfl, by decide +kernel, by decide +kernel⟩
theorem ok_chg (F : Fun K "_law_changed" "_law_changed" sChg fChg fdChg) (T : MgN K mg fM fD fP fWd) (L : MgL K mg fShf fTab fNmd fKnd fNam fCbw) (C : MgC K mg fChg) (b : L2.Binds K fdChg ["state", "value", "deep"] [])
    (GD : FnOk P w K mg base CX0 2 fD fdD ["state", "room"] spDrw) (bD : L2.Binds K fdD ["state", "room"] [])
    (GP : FnOk P w K mg base CX0 3 fP fdP ["state", "some"] spPck) (bP : L2.Binds K fdP ["state", "some"] []) : ∀ m : Nat, FnOk P w K mg base CX0 (m + 4) fChg fdChg ["state", "value", "deep"] (spChg m)
  | 0 => ok_none F scChg (fun vs H Q E h => absurd h.1 (by omega))
  | m + 1 => by
    have G : FnOk P w K mg base CX0 (m + 4) fChg fdChg ["state", "value", "deep"] (spChg m) := ok_chg F T L C b GD bD GP bP m
    refine F.ok scChg (fun vs H Q E h => ?_) (fun cdv A outer s H vs Q E hr h => ?_)
    · obtain ⟨_, d, g, c, n, v, dt, rfl, _⟩ := h
      rfl
    · obtain ⟨_, d, g, c, n, v, dt, rfl, S, hn, hd, k⟩ := h
      obtain ⟨ty, hty, k1, k2, k3, k4⟩ := hd.ty (K := K)
      have hrg := hr
      have hr2 : Room 2 _ := hr.mono (by omega)
      have hr3 : Room 3 _ := hr.mono (by omega)
      have m1 : ((m + 1 : Nat) : Int) - 1 = (m : Nat) := by omega
      rw [m1]
      refine ⟨_, (pss_cons (ps_if (pt_weak (PW.pt (pw_or (pt_cmpR op_eq (pv 2) pe_int (nomark _)) (pw_or (pt_not (pt_val (pe_callB call_isi (by rfl) L.isi (by decide +kernel) (pa_cons (pv 1) (pa_cons (pe_bltn (v := .ty "tuple") (by rfl) L.tpl boot_tuple rfl) pa_nil))))) (pw_or (pt_cmpR (op_eqNilT hr.units) (pv 1) (pe_tup pa_nil) (nomark _)) (pw_or1 (pt_cmpR op_eq (pe_call GD hr2 (by rfl) T.dr T.kdr bD .nil pass0 (pa_cons (pv 0) (pa_cons pe_int pa_nil))) pe_int (nomark _)))))))) (pss_cons (ps_set (i := 3) scChg.nd rfl (Or.inl rfl) (pe_lst (pa_cons pe_non (pa_cons pe_int (pa_cons pe_int (pa_cons pe_bl (pa_cons pe_str (pa_cons pe_str (pa_cons pe_str (pa_cons pe_str (pa_cons pe_str (pa_cons (pe_tup pa_nil) (pa_cons (pe_lst pa_nil) (pa_cons pe_dnewK (pa_cons (pe_tup (pa_cons pe_str pa_nil)) (pa_cons (pe_tup (pa_cons pe_str (pa_cons pe_int pa_nil))) (pa_cons (pe_tup (pa_cons pe_str (pa_cons pe_bl (pa_cons pe_str pa_nil)))) pa_nil)))))))))))))))))
          (pss_cons (ps_set (i := 3) scChg.nd rfl (Or.inl rfl) (pe_op op_cat (pv 3) (pe_lst (pa_cons (pe_tup (pa_cons pe_str (pa_cons pe_int (pa_cons pe_str (pa_cons pe_int pa_nil))))) (pa_cons (pe_tup (pa_cons pe_str (pa_cons (pe_tup pa_nil) pa_nil))) (pa_cons (pe_tup (pa_cons pe_str (pa_cons (pe_tup (pa_cons (pe_tup (pa_cons pe_str (pa_cons pe_str pa_nil))) (pa_cons (pe_tup (pa_cons pe_str (pa_cons pe_str pa_nil))) pa_nil))) pa_nil))) (pa_cons (pe_tup (pa_cons pe_str (pa_cons (pe_lst (pa_cons (pe_tup (pa_cons pe_str (pa_cons pe_str pa_nil))) pa_nil)) pa_nil))) pa_nil)))))))
          (pss_cons (ps_set (i := 3) scChg.nd rfl (Or.inl rfl) (pe_op op_cat (pv 3) (pe_lst (pa_cons (pe_lst (pa_cons pe_str (pa_cons pe_int (pa_cons pe_str pa_nil)))) (pa_cons (pe_tup (pa_cons pe_str (pa_cons pe_int (pa_cons (pe_lst (pa_cons pe_str pa_nil)) pa_nil)))) (pa_cons (pe_tup (pa_cons pe_str (pa_cons (pe_tup (pa_cons (pe_tup (pa_cons pe_str (pa_cons pe_str (pa_cons pe_int pa_nil)))) pa_nil)) pa_nil))) (pa_cons (pe_tup (pa_cons pe_str (pa_cons (pe_tup (pa_cons (pe_lst (pa_cons pe_str (pa_cons pe_str pa_nil))) pa_nil)) pa_nil))) pa_nil)))))))
          (pss_cons (ps_set (i := 3) scChg.nd rfl (Or.inl rfl) (pe_op op_cat (pv 3) (pe_lst (pa_cons (pe_tup (pa_cons pe_str (pa_cons (pe_tup (pa_cons (pe_tup (pa_cons pe_str (pa_cons pe_str pa_nil))) pa_nil)) pa_nil))) (pa_cons (pe_tup (pa_cons pe_str (pa_cons (pe_tup (pa_cons (pe_tup (pa_cons pe_str (pa_cons pe_str pa_nil))) pa_nil)) pa_nil))) (pa_cons (pe_tup (pa_cons pe_str (pa_cons pe_int (pa_cons pe_str pa_nil)))) (pa_cons (pe_tup (pa_cons pe_str (pa_cons pe_int (pa_cons (pv 1) pa_nil)))) (pa_cons pe_int pa_nil))))))))
          (pss_one (ps_ret (pe_call GP hr3 (by rfl) T.pk T.kpk bP .nil pass0 (pa_cons (pv 0) (pa_cons (pv 3) pa_nil))))))))) pss_nil)
      (pss_cons (ps_set (i := 4) scChg.nd rfl (Or.inl rfl) (pe_call GD hr2 (by rfl) T.dr T.kdr bD .nil pass0 (pa_cons (pv 0) (pa_cons (pe_callB call_len_seq (by rfl) L.len PySem.boot_len (pa_cons (pv 1) pa_nil)) pa_nil))))
      (pss_one (ps_ret (pe_op op_catA (pe_weak (pe_op op_catA (pe_slice sl_tupA (pv 1) po_none (po_some (pv 4))) (pe_tup (pa_cons (pe_call G hrg (by rfl) C.chg C.kchg b .nil pass0 (pa_cons (pv 0) (pa_cons (pe_ix ix_tup (pv 1) (pv 4) (fun _ _ => rfl)) (pa_cons (pe_op op_sub (pv 2) pe_int) pa_nil)))) pa_nil)))) (pe_slice sl_tupA (pv 1) (po_some (pe_op op_add (pv 4) pe_int)) po_none)))))), ?_⟩
      refine ⟨fun b H1 => StA H1 d g c (n + 1) ∧ Kp d g H H1 ∧ (b = false → 1 ≤ m ∧ isTup dt = true ∧ ∀ ds, dt = .tup ds → 0 < ds.length), ?_, ?_⟩
      · refine ⟨_, rfl, rfl, _, rfl, ?_⟩
        by_cases hm : m = 0
        · refine ifT (decide_eq_true (by rw [hm]; rfl)) ?_
          exact ⟨S.mono (by omega), Kp.refl H, fun z => by cases z⟩
        refine ifF (decide_eq_false (fun z => by injection z with z; omega)) ?_
        refine ⟨_, rfl, _, _, _, _, _, rfl, .ty "tuple", hty, k2, _, rfl, ?_⟩
        cases ht : isTup dt with
        | false => exact iteT ⟨S.mono (by omega), Kp.refl H, fun z => by cases z⟩
        | true =>
          refine iteF ?_
          obtain ⟨a, xs, ds, rfl, rfl, e, hl, r⟩ := hd.tupv ht
          refine ⟨_, rfl, Nat.zero_le _, fun p hp => ?_⟩
          generalize hHa : upd H p _ = Ha
          obtain ⟨sp, ep⟩ := freshF hp hHa
          refine ⟨a, p, xs, rfl, rfl, SqT.of (sp _ _ e), SqT.of ep, _, rfl, ?_⟩
          have Sa := S.keep sp
          cases hx : xs.isEmpty with
          | true => exact iteT ⟨Sa.mono (by omega), Kp.of sp, fun z => by cases z⟩
          | false =>
            refine iteF ?_
            refine ⟨_, rfl, d, g, c, n, 3, rfl, Sa, by omega, by decide, by decide, fun w H1 w0 w1 S1 kp1 => ⟨rfl, _, rfl, S1, (Kp.of sp).trans kp1, fun _ => ⟨by omega, rfl, fun ds' e' => ?_⟩⟩⟩
            injection e' with e'
            rw [← e', ← r.len]
            cases xs with
            | nil => cases hx
            | cons _ _ => simp
      · rintro bb H1 ⟨S1, kp1, hb⟩
        have hd1 := hd.keep (Kv.kp S kp1)
        cases bb with
        | true =>
          refine iteT ?_
          refine ⟨(by show 0 ≤ sizeLine; decide), fun pa0 hpa0 => ?_⟩
          generalize hHa0 : upd H1 pa0 _ = Ha0
          obtain ⟨sa0, ea0⟩ := freshF hpa0 hHa0
          have ta0 : Same H1 Ha0 := sa0
          refine ⟨(by show 0 ≤ sizeLine; decide), fun pa1 hpa1 => ?_⟩
          generalize hHa1 : upd Ha0 pa1 _ = Ha1
          obtain ⟨sa1, ea1⟩ := freshF hpa1 hHa1
          have ta1 : Same H1 Ha1 := ta0.trans sa1
          have ga1 := ((S1.keep ta0).free hpa1).2.1
          refine fun pa2 hpa2 => ?_
          generalize hHa2 : upd Ha1 pa2 _ = Ha2
          obtain ⟨sa2, ea2⟩ := freshF hpa2 hHa2
          have ta2 : Same H1 Ha2 := ta1.trans sa2
          refine ⟨(by show 1 ≤ sizeLine; decide), fun pa3 hpa3 => ?_⟩
          generalize hHa3 : upd Ha2 pa3 _ = Ha3
          obtain ⟨sa3, ea3⟩ := freshF hpa3 hHa3
          have ta3 : Same H1 Ha3 := ta2.trans sa3
          refine ⟨(by show 2 ≤ sizeLine; decide), fun pa4 hpa4 => ?_⟩
          generalize hHa4 : upd Ha3 pa4 _ = Ha4
          obtain ⟨sa4, ea4⟩ := freshF hpa4 hHa4
          have ta4 : Same H1 Ha4 := ta3.trans sa4
          refine ⟨(by show 3 ≤ sizeLine; decide), fun pa5 hpa5 => ?_⟩
          generalize hHa5 : upd Ha4 pa5 _ = Ha5
          obtain ⟨sa5, ea5⟩ := freshF hpa5 hHa5
          have ta5 : Same H1 Ha5 := ta4.trans sa5
          refine ⟨(by show 15 ≤ sizeLine; decide), fun la hpa6 => ?_⟩
          generalize hHa6 : upd Ha5 la _ = Ha
          obtain ⟨sa6, ea6⟩ := freshF hpa6 hHa6
          have ta6 : Same H1 Ha := ta5.trans sa6
          have ga6 := ((S1.keep ta5).free hpa6).2.1
          have ua5 : Same Ha5 Ha := sa6
          have ua4 : Same Ha4 Ha := sa5.trans ua5
          have ua3 : Same Ha3 Ha := sa4.trans ua4
          have ua2 : Same Ha2 Ha := sa3.trans ua3
          have ua1 : Same Ha1 Ha := sa2.trans ua2
          have ua0 : Same Ha0 Ha := sa1.trans ua1
          have ta := ta6
          have dva : DVs g Ha [V.non, V.int 0, V.int 1, V.bl true, V.str "number", V.str "truth", V.str "row", V.str "record", V.str "text", V.ref pa0, V.ref pa1, V.ref pa2, V.ref pa3, V.ref pa4, V.ref pa5] [Dt.non, Dt.int 0, Dt.int 1, Dt.bl true, Dt.str "number", Dt.str "truth", Dt.str "row", Dt.str "record", Dt.str "text", Dt.tup [], Dt.lst [], Dt.dic, Dt.tup [Dt.str "row"], Dt.tup [Dt.str "row", Dt.int 2], Dt.tup [Dt.str "row", Dt.bl true, Dt.str "number"]] := (.cons .non (.cons (.int _) (.cons (.int _) (.cons (.bl _) (.cons (.str (by decide +kernel)) (.cons (.str (by decide +kernel)) (.cons (.str (by decide +kernel)) (.cons (.str (by decide +kernel)) (.cons (.str (by decide +kernel)) (.cons (.tup (ua0 _ _ ea0) (by show 0 ≤ 1000; decide) .nil) (.cons (.lst (ua1 _ _ ea1) ga1 (by show 0 ≤ 1000; decide) .nil) (.cons (.dic (ua2 _ _ ea2)) (.cons (.tup (ua3 _ _ ea3) (by show 1 ≤ 1000; decide) (.cons (.str (by decide +kernel)) .nil)) (.cons (.tup (ua4 _ _ ea4) (by show 2 ≤ 1000; decide) (.cons (.str (by decide +kernel)) (.cons (.int _) .nil))) (.cons (.tup (ua5 _ _ ea5) (by show 3 ≤ 1000; decide) (.cons (.str (by decide +kernel)) (.cons (.bl _) (.cons (.str (by decide +kernel)) .nil)))) .nil)))))))))))))))
          have ea := ea6
          have hla := hpa6
          have fa := (S1.keep ta5).free hla
          have na := ta5.free hla
          refine ⟨_, rfl, ?_⟩
          refine ⟨(by show 4 ≤ sizeLine; decide), fun pb0 hpb0 => ?_⟩
          generalize hHb0 : upd Ha pb0 _ = Hb0
          obtain ⟨sb0, eb0⟩ := freshF hpb0 hHb0
          have tb0 : Same Ha Hb0 := sb0
          refine ⟨(by show 0 ≤ sizeLine; decide), fun pb1 hpb1 => ?_⟩
          generalize hHb1 : upd Hb0 pb1 _ = Hb1
          obtain ⟨sb1, eb1⟩ := freshF hpb1 hHb1
          have tb1 : Same Ha Hb1 := tb0.trans sb1
          refine ⟨(by show 2 ≤ sizeLine; decide), fun pb2 hpb2 => ?_⟩
          generalize hHb2 : upd Hb1 pb2 _ = Hb2
          obtain ⟨sb2, eb2⟩ := freshF hpb2 hHb2
          have tb2 : Same Ha Hb2 := tb1.trans sb2
          refine ⟨(by show 2 ≤ sizeLine; decide), fun pb3 hpb3 => ?_⟩
          generalize hHb3 : upd Hb2 pb3 _ = Hb3
          obtain ⟨sb3, eb3⟩ := freshF hpb3 hHb3
          have tb3 : Same Ha Hb3 := tb2.trans sb3
          refine ⟨(by show 2 ≤ sizeLine; decide), fun pb4 hpb4 => ?_⟩
          generalize hHb4 : upd Hb3 pb4 _ = Hb4
          obtain ⟨sb4, eb4⟩ := freshF hpb4 hHb4
          have tb4 : Same Ha Hb4 := tb3.trans sb4
          refine ⟨(by show 2 ≤ sizeLine; decide), fun pb5 hpb5 => ?_⟩
          generalize hHb5 : upd Hb4 pb5 _ = Hb5
          obtain ⟨sb5, eb5⟩ := freshF hpb5 hHb5
          have tb5 : Same Ha Hb5 := tb4.trans sb5
          refine ⟨(by show 2 ≤ sizeLine; decide), fun pb6 hpb6 => ?_⟩
          generalize hHb6 : upd Hb5 pb6 _ = Hb6
          obtain ⟨sb6, eb6⟩ := freshF hpb6 hHb6
          have tb6 : Same Ha Hb6 := tb5.trans sb6
          refine ⟨(by show 2 ≤ sizeLine; decide), fun pb7 hpb7 => ?_⟩
          generalize hHb7 : upd Hb6 pb7 _ = Hb7
          obtain ⟨sb7, eb7⟩ := freshF hpb7 hHb7
          have tb7 : Same Ha Hb7 := tb6.trans sb7
          refine ⟨(by show 1 ≤ sizeLine; decide), fun pb8 hpb8 => ?_⟩
          generalize hHb8 : upd Hb7 pb8 _ = Hb8
          obtain ⟨sb8, eb8⟩ := freshF hpb8 hHb8
          have tb8 : Same Ha Hb8 := tb7.trans sb8
          have gb8 := (((S1.keep ta).keep tb7).free hpb8).2.1
          refine ⟨(by show 2 ≤ sizeLine; decide), fun pb9 hpb9 => ?_⟩
          generalize hHb9 : upd Hb8 pb9 _ = Hb9
          obtain ⟨sb9, eb9⟩ := freshF hpb9 hHb9
          have tb9 : Same Ha Hb9 := tb8.trans sb9
          refine ⟨(by show 4 ≤ sizeLine; decide), fun lb hpb10 => ?_⟩
          generalize hHb10 : upd Hb9 lb _ = Hb
          obtain ⟨sb10, eb10⟩ := freshF hpb10 hHb10
          have tb10 : Same Ha Hb := tb9.trans sb10
          have gb10 := (((S1.keep ta).keep tb9).free hpb10).2.1
          have ub9 : Same Hb9 Hb := sb10
          have ub8 : Same Hb8 Hb := sb9.trans ub9
          have ub7 : Same Hb7 Hb := sb8.trans ub8
          have ub6 : Same Hb6 Hb := sb7.trans ub7
          have ub5 : Same Hb5 Hb := sb6.trans ub6
          have ub4 : Same Hb4 Hb := sb5.trans ub5
          have ub3 : Same Hb3 Hb := sb4.trans ub4
          have ub2 : Same Hb2 Hb := sb3.trans ub3
          have ub1 : Same Hb1 Hb := sb2.trans ub2
          have ub0 : Same Hb0 Hb := sb1.trans ub1
          have tb := tb10
          have dvb : DVs g Hb [V.ref pb0, V.ref pb2, V.ref pb6, V.ref pb9] [Dt.tup [Dt.str "row", Dt.int 2, Dt.str "number", Dt.int 0], Dt.tup [Dt.str "record", Dt.tup []], Dt.tup [Dt.str "record", Dt.tup [Dt.tup [Dt.str "a", Dt.str "number"], Dt.tup [Dt.str "a", Dt.str "truth"]]], Dt.tup [Dt.str "record", Dt.lst [Dt.tup [Dt.str "a", Dt.str "number"]]]] := (.cons (.tup (ub0 _ _ eb0) (by show 4 ≤ 1000; decide) (.cons (.str (by decide +kernel)) (.cons (.int _) (.cons (.str (by decide +kernel)) (.cons (.int _) .nil))))) (.cons (.tup (ub2 _ _ eb2) (by show 2 ≤ 1000; decide) (.cons (.str (by decide +kernel)) (.cons (.tup (ub1 _ _ eb1) (by show 0 ≤ 1000; decide) .nil) .nil))) (.cons (.tup (ub6 _ _ eb6) (by show 2 ≤ 1000; decide) (.cons (.str (by decide +kernel)) (.cons (.tup (ub5 _ _ eb5) (by show 2 ≤ 1000; decide) (.cons (.tup (ub3 _ _ eb3) (by show 2 ≤ 1000; decide) (.cons (.str (by decide +kernel)) (.cons (.str (by decide +kernel)) .nil))) (.cons (.tup (ub4 _ _ eb4) (by show 2 ≤ 1000; decide) (.cons (.str (by decide +kernel)) (.cons (.str (by decide +kernel)) .nil))) .nil))) .nil))) (.cons (.tup (ub9 _ _ eb9) (by show 2 ≤ 1000; decide) (.cons (.str (by decide +kernel)) (.cons (.lst (ub8 _ _ eb8) gb8 (by show 1 ≤ 1000; decide) (.cons (.tup (ub7 _ _ eb7) (by show 2 ≤ 1000; decide) (.cons (.str (by decide +kernel)) (.cons (.str (by decide +kernel)) .nil))) .nil)) .nil))) .nil))))
          have eb := eb10
          have hlb := hpb10
          have fb := ((S1.keep ta).keep tb9).free hlb
          have nb := tb9.free hlb
          refine ⟨la, lb, _, _, rfl, rfl, tb _ _ ea, eb, (by show 15 + 4 ≤ sizeLine; decide), fun r1 hr1 => ?_⟩
          generalize hHc : upd Hb r1 _ = Hc
          obtain ⟨sr1, er1⟩ := freshF hr1 hHc
          have dvc := ((dva.keep (Kv.of tb)).app dvb).keep (Kv.of sr1)
          have sc1 := (ta.trans tb).trans sr1
          have Sc := S1.keep sc1
          have hdc := hd1.keep (Kv.of sc1)
          refine ⟨_, rfl, ?_⟩
          refine ⟨(by show 3 ≤ sizeLine; decide), fun pe0 hpe0 => ?_⟩
          generalize hHe0 : upd Hc pe0 _ = He0
          obtain ⟨se0, ee0⟩ := freshF hpe0 hHe0
          have te0 : Same Hc He0 := se0
          have ge0 := (Sc.free hpe0).2.1
          refine ⟨(by show 1 ≤ sizeLine; decide), fun pe1 hpe1 => ?_⟩
          generalize hHe1 : upd He0 pe1 _ = He1
          obtain ⟨se1, ee1⟩ := freshF hpe1 hHe1
          have te1 : Same Hc He1 := te0.trans se1
          have ge1 := ((Sc.keep te0).free hpe1).2.1
          refine ⟨(by show 3 ≤ sizeLine; decide), fun pe2 hpe2 => ?_⟩
          generalize hHe2 : upd He1 pe2 _ = He2
          obtain ⟨se2, ee2⟩ := freshF hpe2 hHe2
          have te2 : Same Hc He2 := te1.trans se2
          refine ⟨(by show 3 ≤ sizeLine; decide), fun pe3 hpe3 => ?_⟩
          generalize hHe3 : upd He2 pe3 _ = He3
          obtain ⟨se3, ee3⟩ := freshF hpe3 hHe3
          have te3 : Same Hc He3 := te2.trans se3
          refine ⟨(by show 1 ≤ sizeLine; decide), fun pe4 hpe4 => ?_⟩
          generalize hHe4 : upd He3 pe4 _ = He4
          obtain ⟨se4, ee4⟩ := freshF hpe4 hHe4
          have te4 : Same Hc He4 := te3.trans se4
          refine ⟨(by show 2 ≤ sizeLine; decide), fun pe5 hpe5 => ?_⟩
          generalize hHe5 : upd He4 pe5 _ = He5
          obtain ⟨se5, ee5⟩ := freshF hpe5 hHe5
          have te5 : Same Hc He5 := te4.trans se5
          refine ⟨(by show 2 ≤ sizeLine; decide), fun pe6 hpe6 => ?_⟩
          generalize hHe6 : upd He5 pe6 _ = He6
          obtain ⟨se6, ee6⟩ := freshF hpe6 hHe6
          have te6 : Same Hc He6 := te5.trans se6
          have ge6 := ((Sc.keep te5).free hpe6).2.1
          refine ⟨(by show 1 ≤ sizeLine; decide), fun pe7 hpe7 => ?_⟩
          generalize hHe7 : upd He6 pe7 _ = He7
          obtain ⟨se7, ee7⟩ := freshF hpe7 hHe7
          have te7 : Same Hc He7 := te6.trans se7
          refine ⟨(by show 2 ≤ sizeLine; decide), fun pe8 hpe8 => ?_⟩
          generalize hHe8 : upd He7 pe8 _ = He8
          obtain ⟨se8, ee8⟩ := freshF hpe8 hHe8
          have te8 : Same Hc He8 := te7.trans se8
          refine ⟨(by show 4 ≤ sizeLine; decide), fun le hpe9 => ?_⟩
          generalize hHe9 : upd He8 le _ = He
          obtain ⟨se9, ee9⟩ := freshF hpe9 hHe9
          have te9 : Same Hc He := te8.trans se9
          have ge9 := ((Sc.keep te8).free hpe9).2.1
          have ue8 : Same He8 He := se9
          have ue7 : Same He7 He := se8.trans ue8
          have ue6 : Same He6 He := se7.trans ue7
          have ue5 : Same He5 He := se6.trans ue6
          have ue4 : Same He4 He := se5.trans ue5
          have ue3 : Same He3 He := se4.trans ue4
          have ue2 : Same He2 He := se3.trans ue3
          have ue1 : Same He1 He := se2.trans ue2
          have ue0 : Same He0 He := se1.trans ue1
          have te := te9
          have dve : DVs g He [V.ref pe0, V.ref pe2, V.ref pe5, V.ref pe8] [Dt.lst [Dt.str "row", Dt.int 2, Dt.str "number"], Dt.tup [Dt.str "row", Dt.int 2, Dt.lst [Dt.str "number"]], Dt.tup [Dt.str "record", Dt.tup [Dt.tup [Dt.str "a", Dt.str "number", Dt.int 0]]], Dt.tup [Dt.str "record", Dt.tup [Dt.lst [Dt.str "a", Dt.str "number"]]]] := (.cons (.lst (ue0 _ _ ee0) ge0 (by show 3 ≤ 1000; decide) (.cons (.str (by decide +kernel)) (.cons (.int _) (.cons (.str (by decide +kernel)) .nil)))) (.cons (.tup (ue2 _ _ ee2) (by show 3 ≤ 1000; decide) (.cons (.str (by decide +kernel)) (.cons (.int _) (.cons (.lst (ue1 _ _ ee1) ge1 (by show 1 ≤ 1000; decide) (.cons (.str (by decide +kernel)) .nil)) .nil)))) (.cons (.tup (ue5 _ _ ee5) (by show 2 ≤ 1000; decide) (.cons (.str (by decide +kernel)) (.cons (.tup (ue4 _ _ ee4) (by show 1 ≤ 1000; decide) (.cons (.tup (ue3 _ _ ee3) (by show 3 ≤ 1000; decide) (.cons (.str (by decide +kernel)) (.cons (.str (by decide +kernel)) (.cons (.int _) .nil)))) .nil)) .nil))) (.cons (.tup (ue8 _ _ ee8) (by show 2 ≤ 1000; decide) (.cons (.str (by decide +kernel)) (.cons (.tup (ue7 _ _ ee7) (by show 1 ≤ 1000; decide) (.cons (.lst (ue6 _ _ ee6) ge6 (by show 2 ≤ 1000; decide) (.cons (.str (by decide +kernel)) (.cons (.str (by decide +kernel)) .nil))) .nil)) .nil))) .nil))))
          have ee := ee9
          have hle := hpe9
          have fe := (Sc.keep te8).free hle
          have ne := te8.free hle
          refine ⟨r1, le, _, _, rfl, rfl, te _ _ er1, ee, (by show 19 + 4 ≤ sizeLine; decide), fun r2 hr2' => ?_⟩
          generalize hHf : upd He r2 _ = Hf
          obtain ⟨sr2, er2⟩ := freshF hr2' hHf
          have dvf := ((dvc.keep (Kv.of te)).app dve).keep (Kv.of sr2)
          have sc2 := te.trans sr2
          have Sf := Sc.keep sc2
          have hdf := hdc.keep (Kv.of sc2)
          refine ⟨_, rfl, ?_⟩
          refine ⟨(by show 2 ≤ sizeLine; decide), fun ph0 hph0 => ?_⟩
          generalize hHh0 : upd Hf ph0 _ = Hh0
          obtain ⟨sh0, eh0⟩ := freshF hph0 hHh0
          have th0 : Same Hf Hh0 := sh0
          refine ⟨(by show 1 ≤ sizeLine; decide), fun ph1 hph1 => ?_⟩
          generalize hHh1 : upd Hh0 ph1 _ = Hh1
          obtain ⟨sh1, eh1⟩ := freshF hph1 hHh1
          have th1 : Same Hf Hh1 := th0.trans sh1
          refine ⟨(by show 2 ≤ sizeLine; decide), fun ph2 hph2 => ?_⟩
          generalize hHh2 : upd Hh1 ph2 _ = Hh2
          obtain ⟨sh2, eh2⟩ := freshF hph2 hHh2
          have th2 : Same Hf Hh2 := th1.trans sh2
          refine ⟨(by show 2 ≤ sizeLine; decide), fun ph3 hph3 => ?_⟩
          generalize hHh3 : upd Hh2 ph3 _ = Hh3
          obtain ⟨sh3, eh3⟩ := freshF hph3 hHh3
          have th3 : Same Hf Hh3 := th2.trans sh3
          refine ⟨(by show 1 ≤ sizeLine; decide), fun ph4 hph4 => ?_⟩
          generalize hHh4 : upd Hh3 ph4 _ = Hh4
          obtain ⟨sh4, eh4⟩ := freshF hph4 hHh4
          have th4 : Same Hf Hh4 := th3.trans sh4
          refine ⟨(by show 2 ≤ sizeLine; decide), fun ph5 hph5 => ?_⟩
          generalize hHh5 : upd Hh4 ph5 _ = Hh5
          obtain ⟨sh5, eh5⟩ := freshF hph5 hHh5
          have th5 : Same Hf Hh5 := th4.trans sh5
          refine ⟨(by show 3 ≤ sizeLine; decide), fun ph6 hph6 => ?_⟩
          generalize hHh6 : upd Hh5 ph6 _ = Hh6
          obtain ⟨sh6, eh6⟩ := freshF hph6 hHh6
          have th6 : Same Hf Hh6 := th5.trans sh6
          refine ⟨_, rfl, (by show 3 ≤ sizeLine; decide), fun ph7 hph7 => ?_⟩
          generalize hHh7 : upd Hh6 ph7 _ = Hh7
          obtain ⟨sh7, eh7⟩ := freshF hph7 hHh7
          have th7 : Same Hf Hh7 := th6.trans sh7
          refine ⟨(by show 5 ≤ sizeLine; decide), fun lh hph8 => ?_⟩
          generalize hHh8 : upd Hh7 lh _ = Hh
          obtain ⟨sh8, eh8⟩ := freshF hph8 hHh8
          have th8 : Same Hf Hh := th7.trans sh8
          have gh8 := ((Sf.keep th7).free hph8).2.1
          have uh7 : Same Hh7 Hh := sh8
          have uh6 : Same Hh6 Hh := sh7.trans uh7
          have uh5 : Same Hh5 Hh := sh6.trans uh6
          have uh4 : Same Hh4 Hh := sh5.trans uh5
          have uh3 : Same Hh3 Hh := sh4.trans uh4
          have uh2 : Same Hh2 Hh := sh3.trans uh3
          have uh1 : Same Hh1 Hh := sh2.trans uh2
          have uh0 : Same Hh0 Hh := sh1.trans uh1
          have th := th8
          have dvh : DVs g Hh [V.ref ph2, V.ref ph5, V.ref ph6, V.ref ph7, V.int 64] [Dt.tup [Dt.str "record", Dt.tup [Dt.tup [Dt.str "if", Dt.str "truth"]]], Dt.tup [Dt.str "record", Dt.tup [Dt.tup [Dt.str "e", Dt.str "truth"]]], Dt.tup [Dt.str "row", Dt.int 64, Dt.str "truth"], Dt.tup [Dt.str "row", Dt.int 2, dt], Dt.int 64] := (.cons (.tup (uh2 _ _ eh2) (by show 2 ≤ 1000; decide) (.cons (.str (by decide +kernel)) (.cons (.tup (uh1 _ _ eh1) (by show 1 ≤ 1000; decide) (.cons (.tup (uh0 _ _ eh0) (by show 2 ≤ 1000; decide) (.cons (.str (by decide +kernel)) (.cons (.str (by decide +kernel)) .nil))) .nil)) .nil))) (.cons (.tup (uh5 _ _ eh5) (by show 2 ≤ 1000; decide) (.cons (.str (by decide +kernel)) (.cons (.tup (uh4 _ _ eh4) (by show 1 ≤ 1000; decide) (.cons (.tup (uh3 _ _ eh3) (by show 2 ≤ 1000; decide) (.cons (.str (by decide +kernel)) (.cons (.str (by decide +kernel)) .nil))) .nil)) .nil))) (.cons (.tup (uh6 _ _ eh6) (by show 3 ≤ 1000; decide) (.cons (.str (by decide +kernel)) (.cons (.int _) (.cons (.str (by decide +kernel)) .nil)))) (.cons (.tup (uh7 _ _ eh7) (by show 3 ≤ 1000; decide) (.cons (.str (by decide +kernel)) (.cons (.int _) (.cons (hdf.keep (Kv.of th8)) .nil)))) (.cons (.int _) .nil)))))
          have eh := eh8
          have hlh := hph8
          have fh := (Sf.keep th7).free hlh
          have nh := th7.free hlh
          refine ⟨r2, lh, _, _, rfl, rfl, th _ _ er2, eh, (by show 23 + 5 ≤ sizeLine; decide), fun r3 hr3' => ?_⟩
          generalize hHi : upd Hh r3 _ = Hi
          obtain ⟨sr3, er3⟩ := freshF hr3' hHi
          have dvi := ((dvf.keep (Kv.of th)).app dvh).keep (Kv.of sr3)
          have sc3 := th.trans sr3
          have Si := Sf.keep sc3
          refine ⟨_, rfl, _, rfl, d, g, c, r3, n + 1, _, rfl, Si, by omega, er3, ((Sf.keep th).free hr3').2.1, by simp, (by show 28 ≤ 1000000; decide), fun fv Hj hfv Sj kpj => ?_⟩
          obtain ⟨dt', _, hdt'⟩ := dvi.pick hfv
          exact k fv dt' Hj (hdt'.keep (Kv.kp Si kpj)) (Sj.mono (by omega)) ((kp1.trans (Kp.of ((sc1.trans sc2).trans sc3))).trans kpj)
        | false =>
          refine iteF ?_
          obtain ⟨hm, ht, hne⟩ := hb rfl
          obtain ⟨a, xs, ds, rfl, rfl, e1, hl, r⟩ := hd1.tupv ht
          have hpos := hne ds rfl
          have hlen := r.len
          refine ⟨_, rfl, _, rfl, a, _, rfl, .inr (SqT.of e1), d, g, c, n + 1, _, rfl, S1, by omega, by omega, by omega, fun w H2 w0 w1 S2 kp2 => ?_⟩
          obtain ⟨q, rfl⟩ := Int.eq_ofNat_of_zero_le w0
          have hq : q < xs.length := by omega
          have e2 := (Kv.kp S1 kp2).tup _ _ e1
          have r2 := r.keep (Kv.kp S1 kp2)
          refine ⟨fun v' H' => ∃ (z : Addr) (zs : List V) (es : List Dt), v' = .ref z ∧ H' z = some (.tup zs) ∧ DVs g H' zs es ∧ zs.length = q + 1 ∧ H' a = some (.tup xs) ∧ DVs g H' xs ds ∧ StA H' d g c (n + 2 + 2 * m) ∧ Kp d g H H', ?_, ?_⟩
          · refine ⟨_, rfl, _, rfl, _, rfl, a, xs, rfl, SqT.of e2, fun hw => absurd hw.2 ?_, fun _ p hp => ?_⟩
            · rw [HT.sIx_nat]
              omega
            rw [cutV_take xs (by omega)]
            generalize hH3 : upd H2 p _ = H3
            obtain ⟨sp, ep⟩ := freshF hp hH3
            have e3 := sp _ _ e2
            have r3 := r2.keep (Kv.of sp)
            obtain ⟨vx, hvx⟩ : ∃ vx, xs[q]? = some vx := ⟨xs[q], List.getElem?_eq_getElem hq⟩
            obtain ⟨dx, hdx, hvd⟩ := r3.at_ hvx
            refine ⟨_, rfl, _, rfl, _, rfl, a, xs, _, vx, rfl, rfl, SqT.of e3, atI_nat hvx, _, rfl, _, _, rfl, rfl, hm, d, g, c, n + 1 + 1, vx, dx, rfl, S2.keep sp, by omega, hvd, fun v' dt' H4 hv' S4 kp4 => ?_⟩
            refine ⟨(by show 1 ≤ sizeLine; decide), fun t ht' => ?_⟩
            generalize hH5 : upd H4 t _ = H5
            obtain ⟨st, et⟩ := freshF ht' hH5
            have kv5 : Kv g H3 H5 := (Kv.kp (S2.keep sp) kp4).trans (Kv.of st)
            have e5 := kv5.tup _ _ e3
            have r5 := r3.keep kv5
            have ep5 := kv5.tup _ _ ep
            have rt5 := (r2.take q).keep ((Kv.of sp).trans kv5)
            have hv5 := hv'.keep (Kv.of st)
            have S5 := S4.keep st
            have kp5 : Kp d g H H5 := ((kp1.trans kp2).trans (Kp.of sp)).trans (kp4.trans (Kp.of st))
            have tl : (xs.take q).length = q := by rw [List.length_take]; omega
            refine ⟨p, t, _, _, rfl, rfl, SqT.of ep5, SqT.of et, by rw [tl, sizeLine_eq]; show q + 1 ≤ _; omega, fun z0 => ?_, fun _ z1 => (by cases z1), fun z0 _ u hu => ?_⟩
            · refine ⟨t, _, [dt'], rfl, et, .cons hv5 .nil, ?_, e5, r5, S5.mono (by omega), kp5⟩
              rw [z0] at tl
              rw [← tl]
              rfl
            · generalize hH6 : upd H5 u _ = H6
              obtain ⟨su, eu⟩ := freshF hu hH6
              refine ⟨u, _, _, rfl, eu, (rt5.snoc hv5).keep (Kv.of su), ?_, su _ _ e5, r5.keep (Kv.of su), (S5.keep su).mono (by omega), kp5.trans (Kp.of su)⟩
              rw [List.length_append, tl]
              rfl
          · rintro _ H3 ⟨z, zs, es, rfl, ez, rz, lz, e3, r3, S3, kp3⟩
            have rl := rz.len
            refine ⟨_, rfl, _, rfl, _, _, rfl, rfl, _, rfl, a, xs, rfl, SqT.of e3, fun hw => absurd hw.1 ?_, fun _ p hp => ?_⟩
            · have e : ((q : Nat) : Int) + 1 = ((q + 1 : Nat) : Int) := by omega
              rw [e, HT.sIx_nat]
              omega
            have e : ((q : Nat) : Int) + 1 = ((q + 1 : Nat) : Int) := by omega
            rw [e, cutV_drop xs (by omega)]
            generalize hH4 : upd H3 p _ = H4
            obtain ⟨sp, ep⟩ := freshF hp hH4
            have rd := (r3.drop (q + 1)).keep (Kv.of sp)
            have rz4 := rz.keep (Kv.of sp)
            have dl : (xs.drop (q + 1)).length = xs.length - (q + 1) := List.length_drop
            have S4 := S3.keep sp
            have kp4 := kp3.trans (Kp.of sp)
            refine ⟨z, p, _, _, rfl, rfl, SqT.of (sp _ _ ez), SqT.of ep, by rw [dl, sizeLine_eq]; omega, fun z0 => ?_, fun _ _ => ?_, fun _ _ u hu => ?_⟩
            · rw [z0] at lz
              cases lz
            · exact k _ (.tup es) H4 (.tup (sp _ _ ez) (by omega) rz4) (S4.mono (by omega)) kp4
            · generalize hH5 : upd H4 u _ = H5
              obtain ⟨su, eu⟩ := freshF hu hH5
              refine k _ (.tup (es ++ ds.drop (q + 1))) H5 (.tup eu ?_ ((rz4.app rd).keep (Kv.of su))) ((S4.keep su).mono (by omega)) (kp4.trans (Kp.of su))
              rw [List.length_append, ← rl, lz, List.length_drop]
              omega
end
end K0

set_option Elab.async false
set_option linter.all false
set_option pp.maxSteps 700
set_option maxRecDepth 100000
set_option maxHeartbeats 4000000
namespace K0
open PySem PySem.Spec PyProof.Rows L2
open LamX (GivesTo CodeO Tabs TabS TabB tLam pe_lamcall lamCx lamEnv lamS_by ExtN)
open TL (tl)
abbrev sTld : Stmt := top 46
abbrev qL : Str := ("_law_told_right" : Str) ++ ".<locals>." ++ "<lambda>"
/-! ### the law's kinds, whole -/
section
variable {P : Program} {w : World} {K : PySem.W.Frag} {mg : Str → Option Value} {base : Heap}
variable {fWd fCbw fNmr fFlr fFor : Addr} {fdWd fdCbw fdNmr fdFlr fdFor : FuncData}
theorem ok_forflr (T : MgJ K mg fWd fCbw fNmr fFlr fFor) (FW : Fun K "_law_tx_words" "_law_tx_words" sWds fWd fdWd) (bW : L2.Binds K fdWd [] [])
    (FN : Fun K "_law_name_right" "_law_name_right" sNmr fNmr fdNmr) (bN : L2.Binds K fdNmr ["value"] []) (FL : Fun K "_law_fields_right" "_law_fields_right" sFlr fFlr fdFlr) (bL : L2.Binds K fdFlr ["value", "deep"] [])
    (FF : Fun K "_law_form_right" "_law_form_right" sFor fFor fdFor) (bF : L2.Binds K fdFor ["value", "deep"] []) :
    ∀ n : Nat, FnOk P w K mg base CX0 (2 * n + 1) fFor fdFor ["value", "deep"] (spFm n) ∧ FnOk P w K mg base CX0 (2 * n + 2) fFlr fdFlr ["value", "deep"] (spFl n)
  | 0 => ⟨ok_none FF scFor (fun vs H Q E h => absurd h.1 (by omega)), ok_none FL scFlr (fun vs H Q E h => absurd h.1 (by omega))⟩
  | n + 1 => by
    obtain ⟨G1, G2⟩ := ok_forflr T FW bW FN bN FL bL FF bF n
    have A : FnOk P w K mg base CX0 (2 * (n + 1) + 1) fFor fdFor ["value", "deep"] (spFm (n + 1)) := for_step FF T G2 bL G1 bF
    exact ⟨A, flr_step FL T FW bW FN bN A bF⟩
theorem scKdr : FnScope ["value"] ["value"] (defScope sKdr) := ⟨rfl, rfl, rfl, by decide +kernel, rfl, by decide +kernel, by decide +kernel⟩
theorem ok_kdr {f : Addr} {fd : FuncData} (F : Fun K "_law_kind_right" "_law_kind_right" sKdr f fd) (T : MgJ K mg fWd fCbw fNmr fFlr fFor)
    (GF : FnOk P w K mg base CX0 9 fFor fdFor ["value", "deep"] (spFm 4)) (bF : L2.Binds K fdFor ["value", "deep"] [])
    (GC : FnOk P w K mg base CX0 5 fCbw fdCbw ["kind"] (spWc 4)) (bC : L2.Binds K fdCbw ["kind"] []) : FnOk P w K mg base CX0 10 f fd ["value"] (spAsk kindB) := by
  refine F.ok scKdr (fun vs H Q E h => ?_) (fun cdv A outer s H vs Q E hr h => ?_)
  · obtain ⟨g, v, d, rfl, _⟩ := h
    rfl
  · obtain ⟨g, v, d, rfl, hd, k⟩ := h
    have hr5 : Room 5 _ := hr.mono (by decide)
    refine ⟨_, (pss_one (ps_ret (pe_and (pe_call GF hr (by rfl) T.for_ T.kfor bF .nil pass0 (pa_cons (pv 0) (pa_cons pe_int pa_nil))) (pe_one (pe_cmpR op_le (pe_call GC hr5 (by rfl) T.cbw T.kcbw bC .nil pass0 (pa_cons (pv 0) pa_nil)) pe_int (nomark _)))))), ?_⟩
    refine ⟨_, rfl, by decide, g, v, d, rfl, hd, fun H1 s1 => ⟨_, rfl, ?_⟩⟩
    cases h : formed 4 d with
    | false =>
      refine iteF ?_
      have q := k H1 s1
      unfold kindB at q
      rw [h] at q
      exact q
    | true =>
      refine iteT ?_
      refine ⟨_, rfl, by decide, g, v, d, rfl, hd.keep (Kv.of s1), h, fun H2 s2 => ⟨_, _, rfl, rfl, ?_⟩⟩
      have q := k H2 (s1.trans s2)
      unfold kindB at q
      rw [h] at q
      exact q
end
/-! ### a kept error without a dict -/
def rIsH0 (K : PySem.W.Frag) (D : Addr) : List V → Hp → VK → Prop := fun xs H Q => ∃ (a : Addr) (c : V) (cv : Value) (b : Bool), xs = [.ref a, c] ∧ (∀ u, RelV c u → u = cv) ∧ H a = some (exh a (.ref D) none) ∧
  PySem.W.kitOne K (.ref D) cv = some b ∧ Q (.bl b) H
theorem call_isH0 {X : Cx} {D : Addr} (C : ExcC X.K D) : CallR X (.builtin "isinstance") (rIsH0 X.K D) := by
  intro pins s σ H xs us Q I r h
  obtain ⟨a, c, cv, b, rfl, hcv, h1, e, q⟩ := h
  obtain ⟨u1, u2, rfl, r1, r2⟩ := vals2 r
  cases r1
  have ec := hcv _ r2
  subst ec
  obtain ⟨oe, vs, ha, hz, hd⟩ := exh_at I.hok h1
  have J : PySem.W.InstAt s.heap a oe D none := ⟨ha, hz.1, by unfold PySem.W.notCls; rw [hd] <;> rfl, by rw [hz.2]; trivial⟩
  have hcl : (PySem.W.clsIn X.K D).isSome = true := by
    obtain ⟨cd, hc, _⟩ := PySem.W.any_some C.hd
    rw [hc]
    rfl
  exact PySem.W.kia_one (PySem.W.kitx_exc hcl C.hg C.hk C.hs C.ha C.hn C.ht C.hm) I.kIn J e (fun z => nomatch z) fun tk => ⟨.bl b, H, I.kept (t' := tk) fun _ _ z => z, rfl, q⟩
theorem Kv.extN {g : Addr} {H H' : Hp} (k : ExtN H H') : Kv g H H' := ⟨fun b xs e _ => k _ _ e (fun _ z => by cases z), fun b xs e => k _ _ e (fun _ z => by cases z), fun b e => k _ _ e (fun _ z => by cases z)⟩
theorem StA.extN {H H' : Hp} {d g c : Addr} {n : Nat} (S : StA H d g c n) (k : ExtN H H') : StA H' d g c n := by
  obtain ⟨r, tt, gs, cs, S⟩ := S
  exact ⟨r, tt, gs, cs, { S with dk := k _ _ S.dk (fun _ z => by cases z), gl := k _ _ S.gl (fun _ z => by cases z), cl := k _ _ S.cl (fun _ z => by cases z) }⟩
theorem dpBls {K : PySem.W.Frag} {H : Hp} : ∀ gs : List Bool, DpAll K H (gs.map V.bl) (gs.map PyData.bool)
  | [] => .nil
  | x :: r => .cons (.bl x) (dpBls r)
structure MgT (K : PySem.W.Frag) (mg : Str → Option Value) (CE C fNm fPl fKd fWo fNmr fKdr fCgt fCbw : Addr) : Prop where
  nme : mg "is_name" = some (.ref fNm)
  knme : PySem.W.keepIn K (.ref fNm) = true
  pln : mg "is_plain" = some (.ref fPl)
  kpln : PySem.W.keepIn K (.ref fPl) = true
  kd : mg "is_kind" = some (.ref fKd)
  kkd : PySem.W.keepIn K (.ref fKd) = true
  wo : mg "words_of" = some (.ref fWo)
  kwo : PySem.W.keepIn K (.ref fWo) = true
  nmr : mg "_law_name_right" = some (.ref fNmr)
  knmr : PySem.W.keepIn K (.ref fNmr) = true
  kdr : mg "_law_kind_right" = some (.ref fKdr)
  kkdr : PySem.W.keepIn K (.ref fKdr) = true
  cgt : mg "_law_caught" = some (.ref fCgt)
  kcgt : PySem.W.keepIn K (.ref fCgt) = true
  cbw : mg "_law_cb_words" = some (.ref fCbw)
  kcbw : PySem.W.keepIn K (.ref fCbw) = true
  ce : mg "ClockError" = some (.ref CE)
  bk : mg "BadKind" = some (.ref C)
  exm : PySem.W.exmOne K (.ref C) (.ref CE) = some true
  exc : ExcC K C
  isi : mg "isinstance" = none
  str : mg "str" = none
  int : mg "int" = none
  bol : mg "bool" = none
def spTld (PT : Addr) : Sp := fun vs H Q _ => ∃ (g : Addr) (v : V) (d : Dt), vs = [v] ∧ DV g H v d ∧ Tabs [(PT, qL)] H ∧ ∀ H', ExtN H H' → Tabs [(PT, qL)] H' → Q (.bl true) H'
theorem kit_self {K : PySem.W.Frag} {S : Addr} : PySem.W.kitOne K (.ref S) (.ref S) = some true := by
  unfold PySem.W.kitOne
  rw [if_pos (beq_self_eq_true _)]
section
variable {P : Program} {w : World} {K : PySem.W.Frag} {mg : Str → Option Value} {base : Heap}
theorem scTld : FnScope ["value", "asked", "due", "many", "one"] ["value"] (defScope sTld) := ⟨rfl, rfl, rfl, by decide +kernel, rfl, by decide +kernel, by decide +kernel⟩
theorem ok_tld {f cL PT CE C fNm fPl fKd fWo fNmr fKdr fCgt fCbw : Addr} {fdNm fdPl fdKd fdWo fdNmr fdKdr fdCbw : FuncData} {oc kV doc pm ct : Value} {od an : Option Addr} {sl : Array (Option Value)}
    {ocg kVg docg pmg cdg ctg : Value} {odg ang : Option Addr} {slg : Array (Option Value)}
    (lk : K.lookup f = some ⟨oc, od, .func (PySem.W.fnOf "_law_told_right" "_law_told_right" (defArgs sTld) (defBody sTld) (defScope sTld) .none kV doc pm an (.ref cL) ct), sl⟩) (hcd : PySem.W.codeIn K (.ref cL) "_law_told_right" = true)
    (lkg : K.lookup fCgt = some ⟨ocg, odg, .func (PySem.W.fnOf "_law_caught" "_law_caught" (defArgs sCgt) (defBody sCgt) (defScope sCgt) .none kVg docg pmg ang cdg ctg), slg⟩) (hcg : PySem.W.codeIn K cdg "_law_caught" = true)
    (bCgt : L2.Binds K (PySem.W.fnOf "_law_caught" "_law_caught" (defArgs sCgt) (defBody sCgt) (defScope sCgt) .none kVg docg pmg ang cdg ctg) ["action"] [])
    (T : MgT K mg CE C fNm fPl fKd fWo fNmr fKdr fCgt fCbw) (TB : TabB base mg cL PT)
    (GNm : FnOk P w K mg base CX0 1 fNm fdNm ["value"] (spAsk nameB)) (bNm : L2.Binds K fdNm ["value"] [])
    (GPl : FnOk P w K mg base CX0 1 fPl fdPl ["value"] (spAsk plainB)) (kPl : KBinds K fdPl ["value"] ["value"] (fun us ws => us ++ ws) (fun us ws => us ++ ws))
    (GKd : FnOk P w K mg base CX0 10 fKd fdKd ["value"] (spAsk kindB)) (bKd : L2.Binds K fdKd ["value"] [])
    (GWo : FnOk P w K mg base (L2.CX P w) 12 fWo fdWo ["kind"] (spWo C)) (bWo : L2.Binds K fdWo ["kind"] []) (kWo : KBinds K fdWo ["kind"] ["kind"] (fun us ws => us ++ ws) (fun us ws => us ++ ws))
    (GNr : FnOk P w K mg base CX0 2 fNmr fdNmr ["value"] (spAsk nameB)) (bNr : L2.Binds K fdNmr ["value"] [])
    (GKr : FnOk P w K mg base CX0 10 fKdr fdKdr ["value"] (spAsk kindB)) (bKr : L2.Binds K fdKdr ["value"] [])
    (GC : FnOk P w K mg base CX0 5 fCbw fdCbw ["kind"] (spWc 4)) (bC : L2.Binds K fdCbw ["kind"] []) :
    FnOk P w K mg base CX0 15 f (PySem.W.fnOf "_law_told_right" "_law_told_right" (defArgs sTld) (defBody sTld) (defScope sTld) .none kV doc pm an (.ref cL) ct) ["value"] (spTld PT) := by
  refine fn_of lk hcd scTld (fun vs H Q E h => ?_) (fun A outer s H vs Q E hr h => ?_)
  · obtain ⟨g, v, d, rfl, _⟩ := h
    rfl
  · obtain ⟨g, v, d, rfl, hd, hT, k⟩ := h
    have hr1 : Room 1 _ := hr.mono (by decide)
    have hr2 : Room 2 _ := hr.mono (by decide)
    have hr5 : Room 5 _ := hr.mono (by decide)
    have hr10 : Room 10 _ := hr.mono (by decide)
    have hr12 : Room 12 _ := hr.mono (by decide)
    refine ⟨_, (pss_cons (ps_set (i := 1) scTld.nd rfl (Or.inl rfl) (pe_lst (pa_cons (pe_call GNm hr1 (by rfl) T.nme T.knme bNm .nil pass0 (pa_cons (pv 0) pa_nil)) (pa_cons (pe_callK0 GPl hr1 (by rfl) T.pln T.kpln kPl pass0 (pk_cons (pv 0) pk_nil)) (pa_cons (pe_call GKd hr10 (by rfl) T.kd T.kkd bKd .nil pass0 (pa_cons (pv 0) pa_nil)) pa_nil)))))
      (pss_cons (ps_set (i := 2) scTld.nd rfl (Or.inl rfl) (pe_lst (pa_cons (pe_call GNr hr2 (by rfl) T.nmr T.knmr bNr .nil pass0 (pa_cons (pv 0) pa_nil)) (pa_cons (pe_weak (pe_and (pe_callB call_isi (by rfl) T.isi (by decide +kernel) (pa_cons (pv 0) (pa_cons (pe_bltn (v := .ty "str") (by rfl) T.str boot_str rfl) pa_nil))) (pe_one (pe_cmpR op_in_seq (pv 0) (pe_lst (pa_cons pe_str (pa_cons pe_str pa_nil))) (by rfl))))) (pa_cons (pe_call GKr hr10 (by rfl) T.kdr T.kkdr bKr .nil pass0 (pa_cons (pv 0) pa_nil)) pa_nil)))))
      (pss_cons (ps_if (PW.pt (pw_or (pt_cmpR (op_neD hr.units) (pe_lc (own := [("one", 4)]) (g := gName 4) (by rfl) scTld.nd (pi_list (pv 1)) (blkOk_by (own := [("one", 4)]) (N := ["value", "asked", "due", "many", "one"]) (sc := defScope sTld) (by decide +kernel)) (fun _ _ _ _ _ => (pg_name (i := 4) scTld.nd rfl (Or.inl rfl))) (fun _ _ _ _ _ => (pts_one (pt_not (pt_val (pe_callB (show CallR _ _ (rIsi K) from call_isi) (by rfl) T.isi (by decide +kernel) (pa_cons (pv 4) (pa_cons (pe_bltn (v := .ty "bool") (by rfl) T.bol boot_bool rfl) pa_nil))))))) (fun _ _ _ _ _ => (pv 4))) (pe_lst pa_nil) (nomark _)) (pw_or1 (pt_cmpR (op_neD hr.units) (pv 1) (pv 2) (nomark _))))) (pss_one (ps_ret pe_bl)) pss_nil)
      (pss_cons (ps_if (pt_not (pt_val (pe_ix ix_list (pv 2) pe_int (fun _ _ => rfl)))) (pss_one (ps_ret (pe_callB (call_isH0 T.exc) (by rfl) T.isi (by decide +kernel) (pa_cons (pe_lamcall (k := 12) (by rfl) T.cgt T.kcgt lkg hcg bCgt scC rfl (Or.inl rfl) (caught_gives T.ce) TB rfl (List.mem_singleton.mpr rfl) (fun p hp _ => by rw [List.mem_singleton.mp hp]) hr (lamS_by (by show LamX.lamSB (defScope sTld) _ = true; decide +kernel)) rfl (fun _ _ _ _ _ => rfl)
              (fun A outer s H E f c' hr2 => pe_call GWo hr2 (by rfl) T.wo T.kwo bWo .nil (passes_call (takes_of rfl rfl rfl rfl) (fun _ _ _ _ h => h)) (pa_cons (pv 0) pa_nil))) (pa_cons (pe_glob (v := .ref C) (by rfl) T.bk rfl) pa_nil))))) pss_nil)
      (pss_cons (ps_set (i := 3) scTld.nd rfl (Or.inl rfl) (pe_callK0 GWo hr12 (by rfl) T.wo T.kwo kWo passL (pk_cons (pv 0) pk_nil)))
      (pss_one (ps_ret (pe_and (pe_callB call_isi (by rfl) T.isi (by decide +kernel) (pa_cons (pv 3) (pa_cons (pe_bltn (v := .ty "int") (by rfl) T.int boot_int rfl) pa_nil))) (pe_and (pe_not (pe_callB call_isi (by rfl) T.isi (by decide +kernel) (pa_cons (pv 3) (pa_cons (pe_bltn (v := .ty "bool") (by rfl) T.bol boot_bool rfl) pa_nil)))) (pe_one (pe_cmpR op_eq (pv 3) (pe_call GC hr5 (by rfl) T.cbw T.kcbw bC .nil pass0 (pa_cons (pv 0) pa_nil)) (nomark _)))))))))))), ?_⟩
    -- asked
    refine ⟨_, rfl, g, v, d, rfl, hd, fun H1 s1 => ?_⟩
    have hd1 := hd.keep (Kv.of s1)
    refine ⟨_, rfl, g, v, d, rfl, hd1, fun H2 s2 => ?_⟩
    have hd2 := hd1.keep (Kv.of s2)
    refine ⟨_, rfl, g, v, d, rfl, hd2, fun H3 s3 => ?_⟩
    have hd3 := hd2.keep (Kv.of s3)
    refine ⟨(by show 3 ≤ sizeLine; decide), fun p hp => ?_⟩
    generalize hH4 : upd H3 p _ = H4
    obtain ⟨sp, ep⟩ := freshF hp hH4
    have hd4 := hd3.keep (Kv.of sp)
    -- due
    refine ⟨_, rfl, g, v, d, rfl, hd4, fun H5 s5 => ?_⟩
    have hd5 := hd4.keep (Kv.of s5)
    refine ⟨fun x H' => x = .bl (plainB d) ∧ Same H5 H', ?_, ?_⟩
    · obtain ⟨t, ht, k1, k2, k3, k4⟩ := hd5.ty (K := K)
      refine ⟨_, rfl, _, _, _, _, _, rfl, .ty "str", ht, k1, _, rfl, ?_⟩
      cases hd5 with
      | @str z h =>
        refine iteT ⟨_, rfl, (by show 2 ≤ sizeLine; decide), fun p hp => ⟨p, _, rfl, .inl (SqL.of upd_same), rfl, rfl, ?_, same_new (o := .lst [V.str "number", V.str "truth"]) hp⟩⟩
        have e : inV (.str z) [.str "number", .str "truth"] = plainB (.str z) := two_str
        rw [← e]
        rfl
      | tup _ _ _ => exact iteF ⟨rfl, Same.refl _⟩
      | int i => exact iteF ⟨rfl, Same.refl _⟩
      | bl b => exact iteF ⟨rfl, Same.refl _⟩
      | non => exact iteF ⟨rfl, Same.refl _⟩
      | lst _ _ _ _ => exact iteF ⟨rfl, Same.refl _⟩
      | dic _ => exact iteF ⟨rfl, Same.refl _⟩
    rintro _ H6 ⟨rfl, s6⟩
    have hd6 := hd5.keep (Kv.of s6)
    refine ⟨_, rfl, g, v, d, rfl, hd6, fun H7 s7 => ?_⟩
    have hd7 := hd6.keep (Kv.of s7)
    refine ⟨(by show 3 ≤ sizeLine; decide), fun q hq => ?_⟩
    generalize hH8 : upd H7 q _ = H8
    obtain ⟨sq, eq⟩ := freshF hq hH8
    have ep8 := sq _ _ (s7 _ _ (s6 _ _ (s5 _ _ ep)))
    have hd8 := hd7.keep (Kv.of sq)
    have st8 : Same H H8 := ((((((s1.trans s2).trans s3).trans sp).trans s5).trans s6).trans s7).trans sq
    -- all bools
    refine ⟨_, rfl, p, rfl, ⟨_, SqL.of ep8⟩, fun L hL => lc_list (K := K) (a := p) (xs := [nameB d, plainB d, kindB d].map V.bl) (fun i H' => H' L = some (.lst []) ∧ Same H8 H') ⟨upd_same, same_new hL⟩ (fun i H' _ ⟨_, s⟩ => SqL.of (s _ _ ep8)) ?_ ?_⟩
    · rintro j y H' hj ⟨h1, s⟩
      refine ⟨rfl, ?_⟩
      rw [List.getElem?_map] at hj
      obtain ⟨b, _, rfl⟩ := Option.map_eq_some_iff.mp hj
      refine ⟨_, rfl, _, _, _, _, true, rfl, .ty "bool", .base (.bl b), kit_ty (show kitB "bool" "bool" = some true by decide +kernel), _, rfl, ?_⟩
      exact ifF rfl ⟨h1, s⟩
    rintro H9 ⟨hL9, s9⟩
    refine ⟨Nat.zero_le _, fun e he => ?_⟩
    generalize hHA : upd H9 e _ = HA
    obtain ⟨se, ee⟩ := freshF he hHA
    refine ⟨.list [], .list [], .lst (SqL.of (se _ _ hL9)) .nil, .lst (SqL.of ee) .nil, by decide +kernel, by decide +kernel, _, rfl, ?_⟩
    refine ifF rfl ?_
    have s10 := s9.trans se
    have epA := s10 _ _ ep8
    have eqA := s10 _ _ eq
    have heq : ∀ b1 b2 b3 : Bool, (!PyData.eqv (.list ([b1, b2, b3].map PyData.bool)) (.list ([b1, b2, b3].map PyData.bool))) = false := by decide +kernel
    have hsh : ∀ b1 b2 b3 : Bool, SeqAt.shaped (.list ([b1, b2, b3].map PyData.bool)) = true := by decide +kernel
    refine ⟨_, rfl, _, rfl, _, _, .lst (SqL.of epA) (dpBls [nameB d, plainB d, kindB d]), .lst (SqL.of eqA) (dpBls [nameB d, plainB d, kindB d]), hsh _ _ _, hsh _ _ _, _, rfl, ?_⟩
    refine ifF (heq _ _ _) ?_
    have hdA := hd8.keep (Kv.of s10)
    have sA := st8.trans s10
    have TA := hT.ext sA
    -- not due[2]
    refine ⟨_, rfl, q, _, 2, _, rfl, rfl, SqL.of eqA, atI_nat (j := 2) rfl, _, rfl, ?_⟩
    cases hk : kindB d with
    | false =>
      refine ifT rfl ?_
      refine ⟨TA, fun HB eN TB' => ?_⟩
      have hdB := hdA.keep (Kv.extN eN)
      refine ⟨_, rfl, g, v, d, rfl, hdB, .inr ⟨hk, fun HC sC => ?_⟩⟩
      refine ⟨true, T.exm, fun _ b hb => ?_, fun z => nomatch z⟩
      refine ⟨b, _, _, true, rfl, (fun u h => h), upd_same, kit_self, k _ ?_ ((TB'.ext sC).ext (same_new hb))⟩
      exact ((ExtN.of sA).trans eN).trans (ExtN.of (sC.trans (same_new hb)))
    | true =>
      refine ifF rfl ?_
      refine ⟨_, rfl, g, v, d, rfl, hdA, .inl ⟨hk, fun HB sB => ?_⟩⟩
      have hdB := hdA.keep (Kv.of sB)
      refine ⟨_, rfl, _, _, _, _, true, rfl, .ty "int", .base (.int _), kit_ty (show kitB "int" "int" = some true by decide +kernel), _, rfl, iteT ?_⟩
      refine ⟨_, rfl, _, _, _, _, false, rfl, .ty "bool", .base (.int _), kit_ty (show kitB "int" "bool" = some false by decide +kernel), _, rfl, _, rfl, iteT ?_⟩
      have hf : formed 4 d = true := by
        unfold kindB at hk
        rw [Bool.and_eq_true] at hk
        exact hk.1
      refine ⟨_, rfl, _, rfl, by decide, g, v, d, rfl, hdB, hf, fun HC sC => ⟨rfl, ?_⟩⟩
      rw [decide_eq_true rfl]
      exact k HC (ExtN.of ((sA.trans sB).trans sC)) (TA.ext (sB.trans sC))
end
end K0

set_option Elab.async false
set_option linter.all false
set_option pp.maxSteps 700
set_option maxRecDepth 100000
set_option maxHeartbeats 4000000
namespace K0
open PySem PySem.Spec PyProof.Rows L2
open LamX (GivesTo CodeO Tabs TabS TabB tLam pe_lamcall lamCx lamEnv lamS_by ExtN)
open TL (tl)
abbrev sLaw : Stmt := top 47
theorem tabs_but {T : List (Addr × Str)} {H H' : Hp} (t : Tabs T H) (k : ∀ b o, H b = some o → (∀ kv, o ≠ .dK kv) → (∀ xs, o ≠ .lst xs) → H' b = some o) : Tabs T H' := fun p hp => by
  obtain ⟨ps, h1, h2, h3⟩ := t p hp
  refine ⟨ps, k _ _ h1 (fun _ z => by cases z) (fun _ z => by cases z), h2, fun pos cv hc => ?_⟩
  obtain ⟨c', e1, e2⟩ := h3 pos cv hc
  exact ⟨c', e1, k _ _ e2 (fun kv z => by unfold CodeO at z; cases z) (fun xs z => by unfold CodeO at z; cases z)⟩
theorem tabs_kp {T : List (Addr × Str)} {H H' : Hp} {d g c : Addr} {n : Nat} (t : Tabs T H) (S : StA H d g c n) (k : Kp d g H H') : Tabs T H' := by
  obtain ⟨r, tt, gs, cs, S⟩ := S
  refine tabs_but t fun b o e n1 n2 => k b o e (fun z => ?_) (fun z => ?_)
  · rw [z] at e
    exact n1 _ (Option.some.inj (e.symm.trans S.dk))
  · rw [z] at e
    exact n2 _ (Option.some.inj (e.symm.trans S.gl))
def spLaw (K : PySem.W.Frag) (P : Addr) : Sp := fun vs H Q _ => ∃ (a : Addr) (ns : List Int), vs = [.ref a] ∧ SqL K H a (ns.map V.int) ∧ ns.length ≤ 63 ∧ H P = some (.tbl #[]) ∧ ∀ H', Q (.bl true) H'
structure MgW (K : PySem.W.Frag) (mg : Str → Option Value) (fBeg fTld fNew fTab fNmd fKnd fPck fEdg fChg : Addr) : Prop where
  beg : mg "_law_begun" = some (.ref fBeg)
  kbeg : PySem.W.keepIn K (.ref fBeg) = true
  tld : mg "_law_told_right" = some (.ref fTld)
  ktld : PySem.W.keepIn K (.ref fTld) = true
  new : mg "_law_new_name" = some (.ref fNew)
  knew : PySem.W.keepIn K (.ref fNew) = true
  tab : mg "_law_tx_table" = some (.ref fTab)
  ktab : PySem.W.keepIn K (.ref fTab) = true
  nmd : mg "_law_tx_named" = some (.ref fNmd)
  knmd : PySem.W.keepIn K (.ref fNmd) = true
  knd : mg "_law_cb_kind" = some (.ref fKnd)
  kknd : PySem.W.keepIn K (.ref fKnd) = true
  pck : mg "_law_pick" = some (.ref fPck)
  kpck : PySem.W.keepIn K (.ref fPck) = true
  edg : mg "_law_edge" = some (.ref fEdg)
  kedg : PySem.W.keepIn K (.ref fEdg) = true
  chg : mg "_law_changed" = some (.ref fChg)
  kchg : PySem.W.keepIn K (.ref fChg) = true
  rng : mg "range" = none
  min : mg "min" = none
  len : mg "len" = none
theorem cnt4 : cntK 4 ≤ 14000 := by decide
theorem bnd4 : bnd 4 = 4000000 := rfl
section
variable {P : Program} {w : World} {K : PySem.W.Frag} {mg : Str → Option Value} {base : Heap}
theorem scLaw : FnScope ["script", "state", "lap", "turn", "table", "kind", "some", "one"] ["script"] (defScope sLaw) := ⟨rfl, rfl, rfl, by decide +kernel, rfl, by decide +kernel, by decide +kernel⟩
theorem ok_law {f PT fBeg fTld fNew fTab fNmd fKnd fPck fEdg fChg : Addr} {fd fdBeg fdTld fdNew fdTab fdNmd fdKnd fdPck fdEdg fdChg : FuncData} (F : Fun K "law" "law" sLaw f fd) (T : MgW K mg fBeg fTld fNew fTab fNmd fKnd fPck fEdg fChg)
    (GBeg : FnOk P w K mg base CX0 1 fBeg fdBeg ["script"] (spBeg K)) (bBeg : L2.Binds K fdBeg ["script"] [])
    (GT : FnOk P w K mg base CX0 15 fTld fdTld ["value"] (spTld PT)) (bT : L2.Binds K fdTld ["value"] [])
    (GN : FnOk P w K mg base CX0 5 fNew fdNew ["state"] (spVal 20)) (bN : L2.Binds K fdNew ["state"] [])
    (GB : FnOk P w K mg base CX0 5 fTab fdTab ["state"] spTab) (bB : L2.Binds K fdTab ["state"] [])
    (GD : FnOk P w K mg base CX0 14 fNmd fdNmd ["value", "table"] (spNmd 13)) (bD : L2.Binds K fdNmd ["value", "table"] [])
    (GK : FnOk P w K mg base CX0 9 fKnd fdKnd ["state", "deep", "cap"] (spKnd 4)) (bK : L2.Binds K fdKnd ["state", "deep", "cap"] [])
    (GP : FnOk P w K mg base CX0 3 fPck fdPck ["state", "some"] spPck) (bP : L2.Binds K fdPck ["state", "some"] [])
    (GE : FnOk P w K mg base CX0 4 fEdg fdEdg ["state"] (spVal 20)) (bE : L2.Binds K fdEdg ["state"] [])
    (GC : FnOk P w K mg base CX0 12 fChg fdChg ["state", "value", "deep"] (spChg 8)) (bC : L2.Binds K fdChg ["state", "value", "deep"] []) :
    FnOk P w K mg base CX0 16 f fd ["script"] (spLaw K PT) := by
  refine F.ok scLaw (fun vs H Q E h => ?_) (fun cdv A outer s H vs Q E hr h => ?_)
  · obtain ⟨a, ns, rfl, _⟩ := h
    rfl
  · obtain ⟨a, ns, rfl, hS, hlen, hPT, k⟩ := h
    have hr1 : Room 1 _ := hr.mono (by decide)
    have hr3 : Room 3 _ := hr.mono (by decide)
    have hr4 : Room 4 _ := hr.mono (by decide)
    have hr5 : Room 5 _ := hr.mono (by decide)
    have hr9 : Room 9 _ := hr.mono (by decide)
    have hr12 : Room 12 _ := hr.mono (by decide)
    have hr14 : Room 14 _ := hr.mono (by decide)
    refine ⟨_, (pss_cons (ps_set (i := 1) scLaw.nd rfl (Or.inl rfl) (pe_call GBeg hr1 (by rfl) T.beg T.kbeg bBeg .nil pass0 (pa_cons (pv 0) pa_nil)))
      (pss_cons (ps_for PassesOwn.never rfl (pi_range1 (by rfl) T.rng (pa_cons (pe_op op_add pe_int (pe_callB (call_min2 rfl) (by rfl) T.min PyProof.Rows.boot_min (pa_cons (pe_callB call_len_seq (by rfl) T.len PySem.boot_len (pa_cons (pv 0) pa_nil)) (pa_cons pe_int pa_nil)))) pa_nil)) (pg_name (i := 2) scLaw.nd rfl (Or.inl rfl))
          (pss_cons (ps_for PassesOwn.never rfl (pi_range1 (by rfl) T.rng (pa_cons pe_int pa_nil)) (pg_name (i := 3) scLaw.nd rfl (Or.inl rfl))
              (pss_one (ps_if (pt_not (pt_val (pe_call GT hr (by rfl) T.tld T.ktld bT .nil pass0 (pa_cons (pe_call GN hr5 (by rfl) T.new T.knew bN .nil pass0 (pa_cons (pv 1) pa_nil)) pa_nil)))) (pss_one (ps_ret pe_bl)) pss_nil)))
          (pss_cons (ps_set (i := 4) scLaw.nd rfl (Or.inl rfl) (pe_call GB hr5 (by rfl) T.tab T.ktab bB .nil pass0 (pa_cons (pv 1) pa_nil)))
          (pss_one (ps_for PassesOwn.never rfl (pi_range1 (by rfl) T.rng (pa_cons pe_int pa_nil)) (pg_name (i := 3) scLaw.nd rfl (Or.inl rfl))
              (pss_cons (ps_set (i := 5) scLaw.nd rfl (Or.inl rfl) (pe_call GD hr14 (by rfl) T.nmd T.knmd bD .nil pass0 (pa_cons (pe_call GK hr9 (by rfl) T.knd T.kknd bK .nil pass0 (pa_cons (pv 1) (pa_cons pe_int (pa_cons (pe_call GP hr3 (by rfl) T.pck T.kpck bP .nil pass0 (pa_cons (pv 1) (pa_cons (pe_lst (pa_cons pe_int (pa_cons pe_int (pa_cons pe_int pa_nil)))) pa_nil))) pa_nil)))) (pa_cons (pv 4) pa_nil))))
              (pss_cons (ps_set (i := 5) scLaw.nd rfl (Or.inl rfl) (pe_call GP hr3 (by rfl) T.pck T.kpck bP .nil pass0 (pa_cons (pv 1) (pa_cons (pe_lst (pa_cons (pv 5) (pa_cons (pe_call GE hr4 (by rfl) T.edg T.kedg bE .nil pass0 (pa_cons (pv 1) pa_nil)) (pa_cons (pv 5) pa_nil)))) pa_nil))))
              (pss_cons (ps_set (i := 6) scLaw.nd rfl (Or.inl rfl) (pe_lst (pa_cons (pv 5) (pa_cons (pe_call GC hr12 (by rfl) T.chg T.kchg bC .nil pass0 (pa_cons (pv 1) (pa_cons (pv 5) (pa_cons pe_int pa_nil)))) (pa_cons (pe_call GP hr3 (by rfl) T.pck T.kpck bP .nil pass0 (pa_cons (pv 1) (pa_cons (pe_lst (pa_cons pe_non (pa_cons pe_int (pa_cons pe_bl (pa_cons pe_str (pa_cons (pe_lst pa_nil) (pa_cons pe_dnewK (pa_cons (pe_tup (pa_cons pe_str pa_nil)) (pa_cons (pe_lst (pa_cons pe_str pa_nil)) (pa_cons pe_str pa_nil)))))))))) pa_nil))) pa_nil)))))
              (pss_one (ps_if (pt_cmpR (op_neD hr.units) (pe_lc (own := [("one", 7)]) (g := gName 7) (by rfl) scLaw.nd (pi_list (pv 6)) (blkOk_by (own := [("one", 7)]) (N := ["script", "state", "lap", "turn", "table", "kind", "some", "one"]) (sc := defScope sLaw) (by decide +kernel)) (fun _ _ _ _ _ => (pg_name (i := 7) scLaw.nd rfl (Or.inl rfl))) (fun _ _ _ _ _ => (pts_one (pt_not (pt_val (pe_call GT hr (by rfl) T.tld T.ktld bT .nil pass0 (pa_cons (pv 7) pa_nil)))))) (fun _ _ _ _ _ => (pv 7))) (pe_lst pa_nil) (nomark _)) (pss_one (ps_ret pe_bl)) pss_nil))))))))))
      (pss_one (ps_ret pe_bl)))), ?_⟩
    refine ⟨_, rfl, a, ns, rfl, hS, hlen, fun d g c H1 S1 sm1 hd hg => ?_⟩
    have hT1 : Tabs [(PT, qL)] H1 := fun p hp => by
      rw [List.mem_singleton.mp hp]
      exact TabS.nil (sm1 _ _ hPT)
    have hl63 : (ns.map V.int).length ≤ 63 := by rw [List.length_map]; exact hlen
    refine ⟨_, rfl, a, ns.map V.int, rfl, .inl (sm1.seq hS), _, _, rfl, _, _, rfl, rfl, _, rfl, ?_, ?_, for_range (lo := 0) (n := _)
      (fun i σ H' => ∃ (v2 v3 v4 v5 v6 v7 : Option V), σ = [some (.ref a), some (.ref d), v2, v3, v4, v5, v6, v7] ∧ StA H' d g c (100000 * i) ∧ Tabs [(PT, qL)] H')
      ⟨none, none, none, none, none, none, rfl, S1, hT1⟩ ?_ ?_⟩
    · split <;> omega
    · split <;> omega
    · rintro i σ H2 hi ⟨v2, v3, v4, v5, v6, v7, rfl, S2, T2⟩
      have hi3 : i < 3 := by
        revert hi
        split <;> omega
      -- names
      refine ⟨_, rfl, by decide, by decide, for_range (lo := 0) (n := 6)
        (fun j σ H' => ∃ (v3 : Option V), σ = [some (.ref a), some (.ref d), some (.int (0 + (i : Int))), v3, v4, v5, v6, v7] ∧ StA H' d g c (100000 * i + 20 * j) ∧ Tabs [(PT, qL)] H')
        ⟨v3, rfl, S2, T2⟩ ?_ ?_⟩
      · rintro j σ H3 hj ⟨w3, rfl, S3, T3⟩
        refine ⟨_, rfl, d, g, c, _, rfl, S3, by omega, fun v dt H4 hv S4 kp4 => ?_⟩
        refine ⟨g, v, dt, rfl, hv, tabs_kp T3 S3 kp4, fun H5 eN T5 => ⟨_, rfl, ifF rfl ?_⟩⟩
        exact ⟨_, rfl, (S4.extN eN).mono (by omega), T5⟩
      rintro σ H3 ⟨w3, rfl, S3, T3⟩
      -- table
      refine ⟨_, rfl, d, g, c, _, rfl, S3, by omega, fun t kvs H4 S4 kp4 ht0 ht tb => ?_⟩
      have T4 := tabs_kp T3 S3 kp4
      have td := S3.free ht0
      refine ⟨_, rfl, by decide, by decide, for_range (lo := 0) (n := 4)
        (fun j σ H' => ∃ (v3 v5 v6 v7 : Option V), σ = [some (.ref a), some (.ref d), some (.int (0 + (i : Int))), v3, some (.ref t), v5, v6, v7] ∧ StA H' d g c (100000 * i + 20 * 6 + 400 + 20000 * j) ∧ Tabs [(PT, qL)] H' ∧ H' t = some (.dK kvs))
        ⟨w3, v5, v6, v7, rfl, S4, T4, ht⟩ ?_ ?_⟩
      · rintro j σ H5 hj ⟨w3, w5, w6, w7, rfl, S5, T5, ht5⟩
        -- kind
        refine ⟨_, rfl, ?_⟩
        refine ⟨_, rfl, (by show 3 ≤ sizeLine; decide), fun la hpa0 => ?_⟩
        generalize hHa0 : upd H5 la _ = Ha
        obtain ⟨sa0, ea0⟩ := freshF hpa0 hHa0
        have ta0 : Same H5 Ha := sa0
        have ga0 := (S5.free hpa0).2.1
        have ta := ta0
        have dva : DVs g Ha [V.int 400, V.int 12, V.int 60] [Dt.int 400, Dt.int 12, Dt.int 60] := (.cons (.int _) (.cons (.int _) (.cons (.int _) .nil)))
        have ea := ea0
        have hla := hpa0
        have fa := S5.free hla
        have na := hla
        refine ⟨d, g, c, la, _, _, rfl, S5.keep ta, by omega, ea, fa.2.1, by simp, (by show 3 ≤ 1000000; decide), fun v H6 hv S6 kp6 => ?_⟩
        have hv' : ∃ z : Int, v = .int z ∧ 1 ≤ z ∧ z ≤ 400 := by
          simp only [List.mem_cons, List.not_mem_nil, or_false] at hv
          rcases hv with rfl | rfl | rfl <;> exact ⟨_, rfl, by decide, by decide⟩
        obtain ⟨cap, rfl, cap1, cap4⟩ := hv'
        have ht6 := kp6 _ _ (ta _ _ ht5) td.1 td.2.1
        have T6 := tabs_kp (T5.ext ta) (S5.keep ta) kp6
        refine ⟨by decide, by decide, d, g, c, _, cap, rfl, S6, by rw [bnd4]; omega, cap1, cap4, fun kv dk H7 hkv pk fk wk dk12 S7 kp7 => ?_⟩
        have ht7 := kp7 _ _ ht6 td.1 td.2.1
        have T7 := tabs_kp T6 S6 kp7
        have c4 := cnt4
        refine ⟨_, rfl, g, kv, dk, t, kvs, rfl, hkv, pk, by omega, ht7, tb, fun nv dn H8 hnv pn s8 => ?_⟩
        have S8 := (S7.keep s8).mono (m := 100000 * i + 20 * 6 + 400 + 20000 * j + 14001) (by omega)
        have T8 := T7.ext s8
        have ht8 := s8 _ _ ht7
        -- kind = pick(..)
        refine ⟨_, rfl, _, rfl, _, rfl, d, g, c, _, rfl, S8, by omega, fun ev de H9 hev S9 kp9 => ?_⟩
        have T9 := tabs_kp T8 S8 kp9
        have ht9 := kp9 _ _ ht8 td.1 td.2.1
        have hnv9 := hnv.keep (Kv.kp S8 kp9)
        refine ⟨_, rfl, (by show 3 ≤ sizeLine; decide), fun l hl => ?_⟩
        generalize hHA : upd H9 l _ = HA
        obtain ⟨sl, el⟩ := freshF hl hHA
        refine ⟨d, g, c, l, _, _, rfl, S9.keep sl, by omega, el, (S9.free hl).2.1, by simp, (by show 3 ≤ 1000000; decide), fun v HB hv SB kpB => ?_⟩
        have dvl : DVs g HA [nv, ev, nv] [dn, de, dn] := (DVs.cons hnv9 (.cons hev (.cons hnv9 .nil))).keep (Kv.of sl)
        obtain ⟨dt, _, hdt⟩ := dvl.pick hv
        have hdt := hdt.keep (Kv.kp (S9.keep sl) kpB)
        have TB := tabs_kp (T9.ext sl) (S9.keep sl) kpB
        have htB := kpB _ _ (sl _ _ ht9) td.1 td.2.1
        -- some
        refine ⟨_, rfl, _, rfl, _, rfl, by decide, d, g, c, _, v, dt, rfl, SB, by omega, hdt, fun cv dc HC hcv SC kpC => ?_⟩
        have hdt := hdt.keep (Kv.kp SB kpC)
        have TC := tabs_kp TB SB kpC
        have htC := kpC _ _ htB td.1 td.2.1
        refine ⟨_, rfl, (by show 0 ≤ sizeLine; decide), fun pb0 hpb0 => ?_⟩
        generalize hHb0 : upd HC pb0 _ = Hb0
        obtain ⟨sb0, eb0⟩ := freshF hpb0 hHb0
        have tb0 : Same HC Hb0 := sb0
        have gb0 := (SC.free hpb0).2.1
        refine fun pb1 hpb1 => ?_
        generalize hHb1 : upd Hb0 pb1 _ = Hb1
        obtain ⟨sb1, eb1⟩ := freshF hpb1 hHb1
        have tb1 : Same HC Hb1 := tb0.trans sb1
        refine ⟨(by show 1 ≤ sizeLine; decide), fun pb2 hpb2 => ?_⟩
        generalize hHb2 : upd Hb1 pb2 _ = Hb2
        obtain ⟨sb2, eb2⟩ := freshF hpb2 hHb2
        have tb2 : Same HC Hb2 := tb1.trans sb2
        refine ⟨(by show 1 ≤ sizeLine; decide), fun pb3 hpb3 => ?_⟩
        generalize hHb3 : upd Hb2 pb3 _ = Hb3
        obtain ⟨sb3, eb3⟩ := freshF hpb3 hHb3
        have tb3 : Same HC Hb3 := tb2.trans sb3
        have gb3 := ((SC.keep tb2).free hpb3).2.1
        refine ⟨(by show 9 ≤ sizeLine; decide), fun lb hpb4 => ?_⟩
        generalize hHb4 : upd Hb3 lb _ = Hb
        obtain ⟨sb4, eb4⟩ := freshF hpb4 hHb4
        have tb4 : Same HC Hb := tb3.trans sb4
        have gb4 := ((SC.keep tb3).free hpb4).2.1
        have ub3 : Same Hb3 Hb := sb4
        have ub2 : Same Hb2 Hb := sb3.trans ub3
        have ub1 : Same Hb1 Hb := sb2.trans ub2
        have ub0 : Same Hb0 Hb := sb1.trans ub1
        have tb' := tb4
        have dvb : DVs g Hb [V.non, V.int 0, V.bl true, V.str "", V.ref pb0, V.ref pb1, V.ref pb2, V.ref pb3, V.str "row"] [Dt.non, Dt.int 0, Dt.bl true, Dt.str "", Dt.lst [], Dt.dic, Dt.tup [Dt.str "number"], Dt.lst [Dt.str "number"], Dt.str "row"] := (.cons .non (.cons (.int _) (.cons (.bl _) (.cons (.str (by decide +kernel)) (.cons (.lst (ub0 _ _ eb0) gb0 (by show 0 ≤ 1000; decide) .nil) (.cons (.dic (ub1 _ _ eb1)) (.cons (.tup (ub2 _ _ eb2) (by show 1 ≤ 1000; decide) (.cons (.str (by decide +kernel)) .nil)) (.cons (.lst (ub3 _ _ eb3) gb3 (by show 1 ≤ 1000; decide) (.cons (.str (by decide +kernel)) .nil)) (.cons (.str (by decide +kernel)) .nil)))))))))
        have eb := eb4
        have hlb := hpb4
        have fb := (SC.keep tb3).free hlb
        have nb := tb3.free hlb
        refine ⟨d, g, c, lb, _, _, rfl, SC.keep tb', by omega, eb, fb.2.1, by simp, (by show 9 ≤ 1000000; decide), fun ov HD hov SD kpD => ?_⟩
        obtain ⟨do_, _, hdo⟩ := dvb.pick hov
        have hdo := hdo.keep (Kv.kp (SC.keep tb') kpD)
        have hdt := (hdt.keep (Kv.of tb')).keep (Kv.kp (SC.keep tb') kpD)
        have hcv := (hcv.keep (Kv.of tb')).keep (Kv.kp (SC.keep tb') kpD)
        have TD := tabs_kp (TC.ext tb') (SC.keep tb') kpD
        have htD := kpD _ _ (tb' _ _ htC) td.1 td.2.1
        refine ⟨(by show 3 ≤ sizeLine; decide), fun o ho => ?_⟩
        generalize hHE : upd HD o _ = HE
        obtain ⟨so, eo⟩ := freshF ho hHE
        have dvo : DVs g HE [v, cv, ov] [dt, dc, do_] := (DVs.cons hdt (.cons hcv (.cons hdo .nil))).keep (Kv.of so)
        have TE := TD.ext so
        have SE := SD.keep so
        have htE := so _ _ htD
        -- all of them
        refine ⟨_, rfl, o, rfl, ⟨_, SqL.of eo⟩, fun L hL => lc_list (K := K) (a := o) (xs := [v, cv, ov]) (fun i H' => H' L = some (.lst []) ∧ ExtN HE H' ∧ Tabs [(PT, qL)] H') ⟨upd_same, ExtN.of (same_new hL), TE.ext (same_new hL)⟩ (fun i H' _ ⟨_, s, _⟩ => SqL.of (s _ _ eo (fun _ z => by cases z))) ?_ ?_⟩
        · rintro j2 y H' hj2 ⟨h1, eN, T'⟩
          refine ⟨rfl, ?_⟩
          obtain ⟨dy, _, hdy⟩ := dvo.at_ hj2
          refine ⟨_, rfl, g, y, dy, rfl, hdy.keep (Kv.extN eN), T', fun H'' eN2 T'' => ⟨_, rfl, ?_⟩⟩
          exact ifF rfl ⟨eN2 _ _ h1 (fun _ z => by cases z), eN.trans eN2, T''⟩
        rintro HF ⟨hLF, eN, TF⟩
        refine ⟨Nat.zero_le _, fun e he => ?_⟩
        generalize hHG : upd HF e _ = HG
        obtain ⟨se, ee⟩ := freshF he hHG
        refine ⟨.list [], .list [], .lst (SqL.of (se _ _ hLF)) .nil, .lst (SqL.of ee) .nil, by decide +kernel, by decide +kernel, _, rfl, ?_⟩
        refine ifF rfl ?_
        refine ⟨_, _, _, _, rfl, ((SE.extN eN).keep se).mono (by omega), TF.ext se, ?_⟩
        exact se _ _ (eN _ _ htE (fun _ z => by cases z))
      · rintro σ H5 ⟨w3, w5, w6, w7, rfl, S5, T5, ht5⟩
        exact ⟨_, _, _, _, _, _, rfl, S5.mono (by omega), T5⟩
    · rintro σ H' ⟨v2, v3, v4, v5, v6, v7, rfl, S0, T0⟩
      exact k H'
end
end K0

set_option Elab.async false
set_option linter.all false
set_option pp.maxSteps 700
set_option maxRecDepth 100000
set_option maxHeartbeats 4000000
namespace K0
open PySem PySem.Spec PyProof.Rows L2
open LamX (GivesTo CodeO Tabs TabS TabB tLam pe_lamcall lamCx lamEnv lamS_by ExtN)
open TL (tl)
theorem exm_of {K : PySem.W.Frag} {S B : Addr} (h1 : PySem.W.subIn K (.ref B) (.type "BaseException") = some true) (h2 : PySem.W.isClsIn K B = true) (h3 : PySem.W.typeIn K (.ref B) = some (.type "type")) (h4 : PySem.W.subIn K (.ref S) (.ref B) = some true) :
    PySem.W.exmOne K (.ref S) (.ref B) = some true := by
  have e1 : (PySem.W.subIn K (.ref B) (.type "BaseException") == some true) = true := by rw [h1] <;> rfl
  have e2 : ((PySem.W.clsIn K B).isSome && PySem.W.typeIn K (.ref B) == some (.type "type")) = true := by
    have h2' : (PySem.W.clsIn K B).isSome = true := h2
    rw [h2', h3] <;> rfl
  show (if (PySem.W.subIn K (.ref B) (.type "BaseException") == some true) = true then (if ((PySem.W.clsIn K B).isSome && PySem.W.typeIn K (.ref B) == some (.type "type")) = true then PySem.W.subIn K (.ref S) (.ref B) else none) else none) = some true
  rw [if_pos e1, if_pos e2]
  exact h4
def valStr : Value → Option Str
  | .str s _ => some s
  | _ => none
theorem vals_of : ∀ {us : List Value} {ss : List Str}, us.map valStr = ss.map some → Vals (ss.map V.str) us
  | [], [], _ => .nil
  | [], _ :: _, h => by cases h
  | _ :: _, [], h => by cases h
  | u :: us, s :: ss, h => by
    injection h with h1 h2
    refine .cons ?_ (vals_of h2)
    cases u with
    | str x t =>
      obtain rfl := Option.some.inj h1
      exact ⟨_, rfl⟩
    | _ => cases h1
theorem all_mk {l : PySem.W.OpenLaw} {w : World} {K : PySem.W.Frag} {h : Heap} {mg : Str → Option Value} {fa CE C PT cL aR : Addr} {dR : Option Addr} {its : Array Value} {nR : Nat} {slR : Array (Option Value)} (X : K.In h) (G : h.Ns mainGlobals mg) (hfa : mg "law" = some (.ref fa))
    {f1 : Addr} {od1 an1 : Option Addr} {sl1 : Array (Option Value)} {oc1 kV1 dc1 pm1 cd1 ct1 : Value}
    {f2 : Addr} {od2 an2 : Option Addr} {sl2 : Array (Option Value)} {oc2 kV2 dc2 pm2 cd2 ct2 : Value}
    {f3 : Addr} {od3 an3 : Option Addr} {sl3 : Array (Option Value)} {oc3 kV3 dc3 pm3 cd3 ct3 : Value}
    {f4 : Addr} {od4 an4 : Option Addr} {sl4 : Array (Option Value)} {oc4 kV4 dc4 pm4 cd4 ct4 : Value}
    {f5 : Addr} {od5 an5 : Option Addr} {sl5 : Array (Option Value)} {oc5 kV5 dc5 pm5 cd5 ct5 : Value}
    {f6 : Addr} {od6 an6 : Option Addr} {sl6 : Array (Option Value)} {oc6 kV6 dc6 pm6 cd6 ct6 : Value}
    {f7 : Addr} {od7 an7 : Option Addr} {sl7 : Array (Option Value)} {oc7 kV7 dc7 pm7 cd7 ct7 : Value}
    {f8 : Addr} {od8 an8 : Option Addr} {sl8 : Array (Option Value)} {oc8 kV8 dc8 pm8 cd8 ct8 : Value}
    {f9 : Addr} {od9 an9 : Option Addr} {sl9 : Array (Option Value)} {oc9 kV9 dc9 pm9 cd9 ct9 : Value}
    {f10 : Addr} {od10 an10 : Option Addr} {sl10 : Array (Option Value)} {oc10 kV10 dc10 pm10 cd10 ct10 : Value}
    {f11 : Addr} {od11 an11 : Option Addr} {sl11 : Array (Option Value)} {oc11 kV11 dc11 pm11 cd11 ct11 : Value}
    {f12 : Addr} {od12 an12 : Option Addr} {sl12 : Array (Option Value)} {oc12 kV12 dc12 pm12 cd12 ct12 : Value}
    {f13 : Addr} {od13 an13 : Option Addr} {sl13 : Array (Option Value)} {oc13 kV13 dc13 pm13 cd13 ct13 : Value}
    {f14 : Addr} {od14 an14 : Option Addr} {sl14 : Array (Option Value)} {oc14 kV14 dc14 pm14 cd14 ct14 : Value}
    {f15 : Addr} {od15 an15 : Option Addr} {sl15 : Array (Option Value)} {oc15 kV15 dc15 pm15 cd15 ct15 : Value}
    {f16 : Addr} {od16 an16 : Option Addr} {sl16 : Array (Option Value)} {oc16 kV16 dc16 pm16 cd16 ct16 : Value}
    {f17 : Addr} {od17 an17 : Option Addr} {sl17 : Array (Option Value)} {oc17 kV17 dc17 pm17 cd17 ct17 : Value}
    {f18 : Addr} {od18 an18 : Option Addr} {sl18 : Array (Option Value)} {oc18 kV18 dc18 pm18 cd18 ct18 : Value}
    {f19 : Addr} {od19 an19 : Option Addr} {sl19 : Array (Option Value)} {oc19 kV19 dc19 pm19 cd19 ct19 : Value}
    {f20 : Addr} {od20 an20 : Option Addr} {sl20 : Array (Option Value)} {oc20 kV20 dc20 pm20 cd20 ct20 : Value}
    {f21 : Addr} {od21 an21 : Option Addr} {sl21 : Array (Option Value)} {oc21 kV21 dc21 pm21 cd21 ct21 : Value}
    {f22 : Addr} {od22 an22 : Option Addr} {sl22 : Array (Option Value)} {oc22 kV22 dc22 pm22 cd22 ct22 : Value}
    {f23 : Addr} {od23 an23 : Option Addr} {sl23 : Array (Option Value)} {oc23 kV23 dc23 pm23 cd23 ct23 : Value}
    {f24 : Addr} {od24 an24 : Option Addr} {sl24 : Array (Option Value)} {oc24 kV24 dc24 pm24 cd24 ct24 : Value}
    {f25 : Addr} {od25 an25 : Option Addr} {sl25 : Array (Option Value)} {oc25 kV25 dc25 pm25 cd25 ct25 : Value}
    {f26 : Addr} {od26 an26 : Option Addr} {sl26 : Array (Option Value)} {oc26 kV26 dc26 pm26 cd26 ct26 : Value}
    {f27 : Addr} {od27 an27 : Option Addr} {sl27 : Array (Option Value)} {oc27 kV27 dc27 pm27 cd27 ct27 : Value}
    {f28 : Addr} {od28 an28 : Option Addr} {sl28 : Array (Option Value)} {oc28 kV28 dc28 pm28 cd28 ct28 : Value}
    {f29 : Addr} {od29 an29 : Option Addr} {sl29 : Array (Option Value)} {oc29 kV29 dc29 pm29 cd29 ct29 : Value}
    {f30 : Addr} {od30 an30 : Option Addr} {sl30 : Array (Option Value)} {oc30 kV30 dc30 pm30 cd30 ct30 : Value}
    {f31 : Addr} {od31 an31 : Option Addr} {sl31 : Array (Option Value)} {oc31 kV31 dc31 pm31 cd31 ct31 : Value}
    {f32 : Addr} {od32 an32 : Option Addr} {sl32 : Array (Option Value)} {oc32 kV32 dc32 pm32 cd32 ct32 : Value}
    {f33 : Addr} {od33 an33 : Option Addr} {sl33 : Array (Option Value)} {oc33 kV33 dc33 pm33 ct33 : Value}
    {f34 : Addr} {od34 an34 : Option Addr} {sl34 : Array (Option Value)} {oc34 kV34 dc34 pm34 cd34 ct34 : Value}
    {xL : Str} {tL : PySem.Tok}
    {xD : Str} {tD : PySem.Tok}
    {xS : Int} {tS : PySem.Tok}
    {xI : Int} {tI : PySem.Tok}
    {xF : Int} {tF : PySem.Tok}
    {xP : Int} {tP : PySem.Tok}
    {xW : Int} {tW : PySem.Tok}
    (a1 : PySem.W.nsIn K mainGlobals "is_whole" = some (some (.ref f1)))
    (l1 : K.lookup f1 = some ⟨oc1, od1, .func (PySem.W.fnOf "is_whole" "is_whole" (defArgs sWhl) (defBody sWhl) (defScope sWhl) .none kV1 dc1 pm1 an1 cd1 ct1), sl1⟩)
    (c1 : PySem.W.codeIn K cd1 "is_whole" = true)
    (k1 : PySem.W.keepIn K (.ref f1) = true)
    (a2 : PySem.W.nsIn K mainGlobals "is_within" = some (some (.ref f2)))
    (l2 : K.lookup f2 = some ⟨oc2, od2, .func (PySem.W.fnOf "is_within" "is_within" (defArgs sWin) (defBody sWin) (defScope sWin) .none kV2 dc2 pm2 an2 cd2 ct2), sl2⟩)
    (c2 : PySem.W.codeIn K cd2 "is_within" = true)
    (k2 : PySem.W.keepIn K (.ref f2) = true)
    (a3 : PySem.W.nsIn K mainGlobals "is_tuple_of" = some (some (.ref f3)))
    (l3 : K.lookup f3 = some ⟨oc3, od3, .func (PySem.W.fnOf "is_tuple_of" "is_tuple_of" (defArgs sTof) (defBody sTof) (defScope sTof) .none kV3 dc3 pm3 an3 cd3 ct3), sl3⟩)
    (c3 : PySem.W.codeIn K cd3 "is_tuple_of" = true)
    (k3 : PySem.W.keepIn K (.ref f3) = true)
    (a4 : PySem.W.nsIn K mainGlobals "is_tuple_within" = some (some (.ref f4)))
    (l4 : K.lookup f4 = some ⟨oc4, od4, .func (PySem.W.fnOf "is_tuple_within" "is_tuple_within" (defArgs sTin) (defBody sTin) (defScope sTin) .none kV4 dc4 pm4 an4 cd4 ct4), sl4⟩)
    (c4 : PySem.W.codeIn K cd4 "is_tuple_within" = true)
    (k4 : PySem.W.keepIn K (.ref f4) = true)
    (a5 : PySem.W.nsIn K mainGlobals "has_doubles" = some (some (.ref f5)))
    (l5 : K.lookup f5 = some ⟨oc5, od5, .func (PySem.W.fnOf "has_doubles" "has_doubles" (defArgs sDbl) (defBody sDbl) (defScope sDbl) .none kV5 dc5 pm5 an5 cd5 ct5), sl5⟩)
    (c5 : PySem.W.codeIn K cd5 "has_doubles" = true)
    (k5 : PySem.W.keepIn K (.ref f5) = true)
    (a6 : PySem.W.nsIn K mainGlobals "is_name" = some (some (.ref f6)))
    (l6 : K.lookup f6 = some ⟨oc6, od6, .func (PySem.W.fnOf "is_name" "is_name" (defArgs sNm) (defBody sNm) (defScope sNm) .none kV6 dc6 pm6 an6 cd6 ct6), sl6⟩)
    (c6 : PySem.W.codeIn K cd6 "is_name" = true)
    (k6 : PySem.W.keepIn K (.ref f6) = true)
    (a7 : PySem.W.nsIn K mainGlobals "is_plain" = some (some (.ref f7)))
    (l7 : K.lookup f7 = some ⟨oc7, od7, .func (PySem.W.fnOf "is_plain" "is_plain" (defArgs sPl) (defBody sPl) (defScope sPl) .none kV7 dc7 pm7 an7 cd7 ct7), sl7⟩)
    (c7 : PySem.W.codeIn K cd7 "is_plain" = true)
    (k7 : PySem.W.keepIn K (.ref f7) = true)
    (a8 : PySem.W.nsIn K mainGlobals "is_kind" = some (some (.ref f8)))
    (l8 : K.lookup f8 = some ⟨oc8, od8, .func (PySem.W.fnOf "is_kind" "is_kind" (defArgs sKd) (defBody sKd) (defScope sKd) .none kV8 dc8 pm8 an8 cd8 ct8), sl8⟩)
    (c8 : PySem.W.codeIn K cd8 "is_kind" = true)
    (k8 : PySem.W.keepIn K (.ref f8) = true)
    (a9 : PySem.W.nsIn K mainGlobals "_is_formed" = some (some (.ref f9)))
    (l9 : K.lookup f9 = some ⟨oc9, od9, .func (PySem.W.fnOf "_is_formed" "_is_formed" (defArgs sFm) (defBody sFm) (defScope sFm) .none kV9 dc9 pm9 an9 cd9 ct9), sl9⟩)
    (c9 : PySem.W.codeIn K cd9 "_is_formed" = true)
    (k9 : PySem.W.keepIn K (.ref f9) = true)
    (a10 : PySem.W.nsIn K mainGlobals "_are_fields" = some (some (.ref f10)))
    (l10 : K.lookup f10 = some ⟨oc10, od10, .func (PySem.W.fnOf "_are_fields" "_are_fields" (defArgs sFl) (defBody sFl) (defScope sFl) .none kV10 dc10 pm10 an10 cd10 ct10), sl10⟩)
    (c10 : PySem.W.codeIn K cd10 "_are_fields" = true)
    (k10 : PySem.W.keepIn K (.ref f10) = true)
    (a11 : PySem.W.nsIn K mainGlobals "word_count" = some (some (.ref f11)))
    (l11 : K.lookup f11 = some ⟨oc11, od11, .func (PySem.W.fnOf "word_count" "word_count" (defArgs sWc) (defBody sWc) (defScope sWc) .none kV11 dc11 pm11 an11 cd11 ct11), sl11⟩)
    (c11 : PySem.W.codeIn K cd11 "word_count" = true)
    (k11 : PySem.W.keepIn K (.ref f11) = true)
    (a12 : PySem.W.nsIn K mainGlobals "words_of" = some (some (.ref f12)))
    (l12 : K.lookup f12 = some ⟨oc12, od12, .func (PySem.W.fnOf "words_of" "words_of" (defArgs sWo) (defBody sWo) (defScope sWo) .none kV12 dc12 pm12 an12 cd12 ct12), sl12⟩)
    (c12 : PySem.W.codeIn K cd12 "words_of" = true)
    (k12 : PySem.W.keepIn K (.ref f12) = true)
    (a13 : PySem.W.nsIn K mainGlobals "_need_kind" = some (some (.ref f13)))
    (l13 : K.lookup f13 = some ⟨oc13, od13, .func (PySem.W.fnOf "_need_kind" "_need_kind" (defArgs sNk) (defBody sNk) (defScope sNk) .none kV13 dc13 pm13 an13 cd13 ct13), sl13⟩)
    (c13 : PySem.W.codeIn K cd13 "_need_kind" = true)
    (k13 : PySem.W.keepIn K (.ref f13) = true)
    (a14 : PySem.W.nsIn K mainGlobals "_law_begun" = some (some (.ref f14)))
    (l14 : K.lookup f14 = some ⟨oc14, od14, .func (PySem.W.fnOf "_law_begun" "_law_begun" (defArgs sBeg) (defBody sBeg) (defScope sBeg) .none kV14 dc14 pm14 an14 cd14 ct14), sl14⟩)
    (c14 : PySem.W.codeIn K cd14 "_law_begun" = true)
    (k14 : PySem.W.keepIn K (.ref f14) = true)
    (a15 : PySem.W.nsIn K mainGlobals "_law_mixed" = some (some (.ref f15)))
    (l15 : K.lookup f15 = some ⟨oc15, od15, .func (PySem.W.fnOf "_law_mixed" "_law_mixed" (defArgs sMix) (defBody sMix) (defScope sMix) .none kV15 dc15 pm15 an15 cd15 ct15), sl15⟩)
    (c15 : PySem.W.codeIn K cd15 "_law_mixed" = true)
    (k15 : PySem.W.keepIn K (.ref f15) = true)
    (a16 : PySem.W.nsIn K mainGlobals "_law_draw" = some (some (.ref f16)))
    (l16 : K.lookup f16 = some ⟨oc16, od16, .func (PySem.W.fnOf "_law_draw" "_law_draw" (defArgs sDrw) (defBody sDrw) (defScope sDrw) .none kV16 dc16 pm16 an16 cd16 ct16), sl16⟩)
    (c16 : PySem.W.codeIn K cd16 "_law_draw" = true)
    (k16 : PySem.W.keepIn K (.ref f16) = true)
    (a17 : PySem.W.nsIn K mainGlobals "_law_pick" = some (some (.ref f17)))
    (l17 : K.lookup f17 = some ⟨oc17, od17, .func (PySem.W.fnOf "_law_pick" "_law_pick" (defArgs sPck) (defBody sPck) (defScope sPck) .none kV17 dc17 pm17 an17 cd17 ct17), sl17⟩)
    (c17 : PySem.W.codeIn K cd17 "_law_pick" = true)
    (k17 : PySem.W.keepIn K (.ref f17) = true)
    (a18 : PySem.W.nsIn K mainGlobals "_law_shuffled" = some (some (.ref f18)))
    (l18 : K.lookup f18 = some ⟨oc18, od18, .func (PySem.W.fnOf "_law_shuffled" "_law_shuffled" (defArgs sShf) (defBody sShf) (defScope sShf) .none kV18 dc18 pm18 an18 cd18 ct18), sl18⟩)
    (c18 : PySem.W.codeIn K cd18 "_law_shuffled" = true)
    (k18 : PySem.W.keepIn K (.ref f18) = true)
    (a19 : PySem.W.nsIn K mainGlobals "_law_caught" = some (some (.ref f19)))
    (l19 : K.lookup f19 = some ⟨oc19, od19, .func (PySem.W.fnOf "_law_caught" "_law_caught" (defArgs sCgt) (defBody sCgt) (defScope sCgt) .none kV19 dc19 pm19 an19 cd19 ct19), sl19⟩)
    (c19 : PySem.W.codeIn K cd19 "_law_caught" = true)
    (k19 : PySem.W.keepIn K (.ref f19) = true)
    (a20 : PySem.W.nsIn K mainGlobals "_law_tx_words" = some (some (.ref f20)))
    (l20 : K.lookup f20 = some ⟨oc20, od20, .func (PySem.W.fnOf "_law_tx_words" "_law_tx_words" (defArgs sWds) (defBody sWds) (defScope sWds) .none kV20 dc20 pm20 an20 cd20 ct20), sl20⟩)
    (c20 : PySem.W.codeIn K cd20 "_law_tx_words" = true)
    (k20 : PySem.W.keepIn K (.ref f20) = true)
    (a21 : PySem.W.nsIn K mainGlobals "_law_tx_name" = some (some (.ref f21)))
    (l21 : K.lookup f21 = some ⟨oc21, od21, .func (PySem.W.fnOf "_law_tx_name" "_law_tx_name" (defArgs sNam) (defBody sNam) (defScope sNam) .none kV21 dc21 pm21 an21 cd21 ct21), sl21⟩)
    (c21 : PySem.W.codeIn K cd21 "_law_tx_name" = true)
    (k21 : PySem.W.keepIn K (.ref f21) = true)
    (a22 : PySem.W.nsIn K mainGlobals "_law_tx_table" = some (some (.ref f22)))
    (l22 : K.lookup f22 = some ⟨oc22, od22, .func (PySem.W.fnOf "_law_tx_table" "_law_tx_table" (defArgs sTab) (defBody sTab) (defScope sTab) .none kV22 dc22 pm22 an22 cd22 ct22), sl22⟩)
    (c22 : PySem.W.codeIn K cd22 "_law_tx_table" = true)
    (k22 : PySem.W.keepIn K (.ref f22) = true)
    (a23 : PySem.W.nsIn K mainGlobals "_law_tx_named" = some (some (.ref f23)))
    (l23 : K.lookup f23 = some ⟨oc23, od23, .func (PySem.W.fnOf "_law_tx_named" "_law_tx_named" (defArgs sNmd) (defBody sNmd) (defScope sNmd) .none kV23 dc23 pm23 an23 cd23 ct23), sl23⟩)
    (c23 : PySem.W.codeIn K cd23 "_law_tx_named" = true)
    (k23 : PySem.W.keepIn K (.ref f23) = true)
    (a24 : PySem.W.nsIn K mainGlobals "_law_cb_words" = some (some (.ref f24)))
    (l24 : K.lookup f24 = some ⟨oc24, od24, .func (PySem.W.fnOf "_law_cb_words" "_law_cb_words" (defArgs sCbw) (defBody sCbw) (defScope sCbw) .none kV24 dc24 pm24 an24 cd24 ct24), sl24⟩)
    (c24 : PySem.W.codeIn K cd24 "_law_cb_words" = true)
    (k24 : PySem.W.keepIn K (.ref f24) = true)
    (a25 : PySem.W.nsIn K mainGlobals "_law_cb_kind" = some (some (.ref f25)))
    (l25 : K.lookup f25 = some ⟨oc25, od25, .func (PySem.W.fnOf "_law_cb_kind" "_law_cb_kind" (defArgs sKnd) (defBody sKnd) (defScope sKnd) .none kV25 dc25 pm25 an25 cd25 ct25), sl25⟩)
    (c25 : PySem.W.codeIn K cd25 "_law_cb_kind" = true)
    (k25 : PySem.W.keepIn K (.ref f25) = true)
    (a26 : PySem.W.nsIn K mainGlobals "_law_name_right" = some (some (.ref f26)))
    (l26 : K.lookup f26 = some ⟨oc26, od26, .func (PySem.W.fnOf "_law_name_right" "_law_name_right" (defArgs sNmr) (defBody sNmr) (defScope sNmr) .none kV26 dc26 pm26 an26 cd26 ct26), sl26⟩)
    (c26 : PySem.W.codeIn K cd26 "_law_name_right" = true)
    (k26 : PySem.W.keepIn K (.ref f26) = true)
    (a27 : PySem.W.nsIn K mainGlobals "_law_fields_right" = some (some (.ref f27)))
    (l27 : K.lookup f27 = some ⟨oc27, od27, .func (PySem.W.fnOf "_law_fields_right" "_law_fields_right" (defArgs sFlr) (defBody sFlr) (defScope sFlr) .none kV27 dc27 pm27 an27 cd27 ct27), sl27⟩)
    (c27 : PySem.W.codeIn K cd27 "_law_fields_right" = true)
    (k27 : PySem.W.keepIn K (.ref f27) = true)
    (a28 : PySem.W.nsIn K mainGlobals "_law_form_right" = some (some (.ref f28)))
    (l28 : K.lookup f28 = some ⟨oc28, od28, .func (PySem.W.fnOf "_law_form_right" "_law_form_right" (defArgs sFor) (defBody sFor) (defScope sFor) .none kV28 dc28 pm28 an28 cd28 ct28), sl28⟩)
    (c28 : PySem.W.codeIn K cd28 "_law_form_right" = true)
    (k28 : PySem.W.keepIn K (.ref f28) = true)
    (a29 : PySem.W.nsIn K mainGlobals "_law_kind_right" = some (some (.ref f29)))
    (l29 : K.lookup f29 = some ⟨oc29, od29, .func (PySem.W.fnOf "_law_kind_right" "_law_kind_right" (defArgs sKdr) (defBody sKdr) (defScope sKdr) .none kV29 dc29 pm29 an29 cd29 ct29), sl29⟩)
    (c29 : PySem.W.codeIn K cd29 "_law_kind_right" = true)
    (k29 : PySem.W.keepIn K (.ref f29) = true)
    (a30 : PySem.W.nsIn K mainGlobals "_law_new_name" = some (some (.ref f30)))
    (l30 : K.lookup f30 = some ⟨oc30, od30, .func (PySem.W.fnOf "_law_new_name" "_law_new_name" (defArgs sNew) (defBody sNew) (defScope sNew) .none kV30 dc30 pm30 an30 cd30 ct30), sl30⟩)
    (c30 : PySem.W.codeIn K cd30 "_law_new_name" = true)
    (k30 : PySem.W.keepIn K (.ref f30) = true)
    (a31 : PySem.W.nsIn K mainGlobals "_law_edge" = some (some (.ref f31)))
    (l31 : K.lookup f31 = some ⟨oc31, od31, .func (PySem.W.fnOf "_law_edge" "_law_edge" (defArgs sEdg) (defBody sEdg) (defScope sEdg) .none kV31 dc31 pm31 an31 cd31 ct31), sl31⟩)
    (c31 : PySem.W.codeIn K cd31 "_law_edge" = true)
    (k31 : PySem.W.keepIn K (.ref f31) = true)
    (a32 : PySem.W.nsIn K mainGlobals "_law_changed" = some (some (.ref f32)))
    (l32 : K.lookup f32 = some ⟨oc32, od32, .func (PySem.W.fnOf "_law_changed" "_law_changed" (defArgs sChg) (defBody sChg) (defScope sChg) .none kV32 dc32 pm32 an32 cd32 ct32), sl32⟩)
    (c32 : PySem.W.codeIn K cd32 "_law_changed" = true)
    (k32 : PySem.W.keepIn K (.ref f32) = true)
    (a33 : PySem.W.nsIn K mainGlobals "_law_told_right" = some (some (.ref f33)))
    (l33 : K.lookup f33 = some ⟨oc33, od33, .func (PySem.W.fnOf "_law_told_right" "_law_told_right" (defArgs sTld) (defBody sTld) (defScope sTld) .none kV33 dc33 pm33 an33 (.ref cL) ct33), sl33⟩)
    (c33 : PySem.W.codeIn K (.ref cL) "_law_told_right" = true)
    (k33 : PySem.W.keepIn K (.ref f33) = true)
    (a34 : PySem.W.nsIn K mainGlobals "law" = some (some (.ref f34)))
    (l34 : K.lookup f34 = some ⟨oc34, od34, .func (PySem.W.fnOf "law" "law" (defArgs sLaw) (defBody sLaw) (defScope sLaw) .none kV34 dc34 pm34 an34 cd34 ct34), sl34⟩)
    (c34 : PySem.W.codeIn K cd34 "law" = true)
    (k34 : PySem.W.keepIn K (.ref f34) = true)
    (z_len : PySem.W.nsIn K mainGlobals "len" = some none)
    (z_isinstance : PySem.W.nsIn K mainGlobals "isinstance" = some none)
    (z_str : PySem.W.nsIn K mainGlobals "str" = some none)
    (z_abs : PySem.W.nsIn K mainGlobals "abs" = some none)
    (z_int : PySem.W.nsIn K mainGlobals "int" = some none)
    (z_range : PySem.W.nsIn K mainGlobals "range" = some none)
    (z_min : PySem.W.nsIn K mainGlobals "min" = some none)
    (z_list : PySem.W.nsIn K mainGlobals "list" = some none)
    (z_bool : PySem.W.nsIn K mainGlobals "bool" = some none)
    (z_tuple : PySem.W.nsIn K mainGlobals "tuple" = some none)
    (z_all : PySem.W.nsIn K mainGlobals "all" = some none)
    (z_set : PySem.W.nsIn K mainGlobals "set" = some none)
    (z_sum : PySem.W.nsIn K mainGlobals "sum" = some none)
    (vL : PySem.W.nsIn K mainGlobals "LETTERS" = some (some (.str xL tL)))
    (eL : xL = L26)
    (vD : PySem.W.nsIn K mainGlobals "DIGITS" = some (some (.str xD tD)))
    (eD : xD = D10)
    (vS : PySem.W.nsIn K mainGlobals "MOST_SIGNS" = some (some (.int xS tS)))
    (eS : xS = 8)
    (vI : PySem.W.nsIn K mainGlobals "MOST_ITEMS" = some (some (.int xI tI)))
    (eI : xI = 64)
    (vF : PySem.W.nsIn K mainGlobals "MOST_FIELDS" = some (some (.int xF tF)))
    (eF : xF = 6)
    (vP : PySem.W.nsIn K mainGlobals "MOST_DEEP" = some (some (.int xP tP)))
    (eP : xP = 4)
    (vW : PySem.W.nsIn K mainGlobals "MOST_WORDS" = some (some (.int xW tW)))
    (eW : xW = 400)
    (vR : PySem.W.nsIn K mainGlobals "RESERVED" = some (some (.ref aR)))
    (lR : K.lookup aR = some ⟨.type "tuple", dR, .seq its nR, slR⟩)
    (eR : (its.toList.map valStr == wds.map some) = true)
    (aC : PySem.W.nsIn K mainGlobals "BadKind" = some (some (.ref C)))
    (aCE : PySem.W.nsIn K mainGlobals "ClockError" = some (some (.ref CE)))
    (kC : PySem.W.keepIn K (.ref C) = true)
    (xC : PySem.W.excIn K C excVE "ValueError.__new__" = true)
    (sB : PySem.W.subIn K (.ref C) (.type "BaseException") = some true)
    (tC : PySem.W.typeIn K (.ref C) = some (.type "type"))
    (sE : PySem.W.subIn K (.ref CE) (.type "BaseException") = some true)
    (iE : PySem.W.isClsIn K CE = true)
    (tE : PySem.W.typeIn K (.ref CE) = some (.type "type"))
    (sCE : PySem.W.subIn K (.ref C) (.ref CE) = some true)
    (gC : PySem.W.findIn K (.ref C) "__getattribute__" = some (some (.builtin "BaseException.__getattribute__")))
    (ggC : PySem.W.findIn K (.ref C) "__getattr__" = some none)
    (hdC : PySem.W.hasDictIn K C = true)
    (clC : PySem.W.findIn K (.ref C) "__class__" = some (some (.builtin "object.__class__")))
    (spO : PySem.W.specialIn K (.builtin "object.__class__") "__get__" = some (some (.builtin "getset_descriptor.__get__")))
    (tkO : PySem.W.takesIn K (.builtin "object.__class__") = some true)
    (mrC : PySem.W.mroIn K C (.type "object") = some true)
    (hdr : PySem.W.codeHdIn K cL PT = true)
    (np : K.lookup PT = none)
    (hT : h.get? PT = some { cls := .none, data := .fields #[] })
    : LamX.LawAtS l w K CX0 16 63 "script" mg fa h := by
  have e := hfa.symm.trans (PySem.W.mg_of X G a34)
  cases e
  subst eL eD eS eI eF eP eW
  have F1 := fun_mk (st := sWhl) l1 c1 k1
  have b1 := F1.binds (ps := ["value"]) fun _ _ _ _ _ _ us hl => match us, hl with | [_], _ => rfl
  have F2 := fun_mk (st := sWin) l2 c2 k2
  have b2 := F2.binds (ps := ["value", "low", "high"]) fun _ _ _ _ _ _ us hl => match us, hl with | [_, _, _], _ => rfl
  have F3 := fun_mk (st := sTof) l3 c3 k3
  have b3 := F3.binds (ps := ["value", "many"]) fun _ _ _ _ _ _ us hl => match us, hl with | [_, _], _ => rfl
  have F4 := fun_mk (st := sTin) l4 c4 k4
  have b4 := F4.binds (ps := ["value", "low", "high"]) fun _ _ _ _ _ _ us hl => match us, hl with | [_, _, _], _ => rfl
  have F5 := fun_mk (st := sDbl) l5 c5 k5
  have b5 := F5.binds (ps := ["rows"]) fun _ _ _ _ _ _ us hl => match us, hl with | [_], _ => rfl
  have F6 := fun_mk (st := sNm) l6 c6 k6
  have b6 := F6.binds (ps := ["value"]) fun _ _ _ _ _ _ us hl => match us, hl with | [_], _ => rfl
  have F7 := fun_mk (st := sPl) l7 c7 k7
  have b7 := F7.binds (ps := ["value"]) fun _ _ _ _ _ _ us hl => match us, hl with | [_], _ => rfl
  have F8 := fun_mk (st := sKd) l8 c8 k8
  have b8 := F8.binds (ps := ["value"]) fun _ _ _ _ _ _ us hl => match us, hl with | [_], _ => rfl
  have F9 := fun_mk (st := sFm) l9 c9 k9
  have b9 := F9.binds (ps := ["value", "deep"]) fun _ _ _ _ _ _ us hl => match us, hl with | [_, _], _ => rfl
  have F10 := fun_mk (st := sFl) l10 c10 k10
  have b10 := F10.binds (ps := ["value", "deep"]) fun _ _ _ _ _ _ us hl => match us, hl with | [_, _], _ => rfl
  have F11 := fun_mk (st := sWc) l11 c11 k11
  have b11 := F11.binds (ps := ["kind"]) fun _ _ _ _ _ _ us hl => match us, hl with | [_], _ => rfl
  have F12 := fun_mk (st := sWo) l12 c12 k12
  have b12 := F12.binds (ps := ["kind"]) fun _ _ _ _ _ _ us hl => match us, hl with | [_], _ => rfl
  have F13 := fun_mk (st := sNk) l13 c13 k13
  have b13 := F13.binds (ps := ["kind"]) fun _ _ _ _ _ _ us hl => match us, hl with | [_], _ => rfl
  have F14 := fun_mk (st := sBeg) l14 c14 k14
  have b14 := F14.binds (ps := ["script"]) fun _ _ _ _ _ _ us hl => match us, hl with | [_], _ => rfl
  have F15 := fun_mk (st := sMix) l15 c15 k15
  have b15 := F15.binds (ps := ["state"]) fun _ _ _ _ _ _ us hl => match us, hl with | [_], _ => rfl
  have F16 := fun_mk (st := sDrw) l16 c16 k16
  have b16 := F16.binds (ps := ["state", "room"]) fun _ _ _ _ _ _ us hl => match us, hl with | [_, _], _ => rfl
  have F17 := fun_mk (st := sPck) l17 c17 k17
  have b17 := F17.binds (ps := ["state", "some"]) fun _ _ _ _ _ _ us hl => match us, hl with | [_, _], _ => rfl
  have F18 := fun_mk (st := sShf) l18 c18 k18
  have b18 := F18.binds (ps := ["state", "some"]) fun _ _ _ _ _ _ us hl => match us, hl with | [_, _], _ => rfl
  have F19 := fun_mk (st := sCgt) l19 c19 k19
  have b19 := F19.binds (ps := ["action"]) fun _ _ _ _ _ _ us hl => match us, hl with | [_], _ => rfl
  have F20 := fun_mk (st := sWds) l20 c20 k20
  have b20 := F20.binds (ps := []) fun _ _ _ _ _ _ us hl => match us, hl with | [], _ => rfl
  have F21 := fun_mk (st := sNam) l21 c21 k21
  have b21 := F21.binds (ps := ["state", "taken"]) fun _ _ _ _ _ _ us hl => match us, hl with | [_, _], _ => rfl
  have F22 := fun_mk (st := sTab) l22 c22 k22
  have b22 := F22.binds (ps := ["state"]) fun _ _ _ _ _ _ us hl => match us, hl with | [_], _ => rfl
  have F23 := fun_mk (st := sNmd) l23 c23 k23
  have b23 := F23.binds (ps := ["value", "table"]) fun _ _ _ _ _ _ us hl => match us, hl with | [_, _], _ => rfl
  have F24 := fun_mk (st := sCbw) l24 c24 k24
  have b24 := F24.binds (ps := ["kind"]) fun _ _ _ _ _ _ us hl => match us, hl with | [_], _ => rfl
  have F25 := fun_mk (st := sKnd) l25 c25 k25
  have b25 := F25.binds (ps := ["state", "deep", "cap"]) fun _ _ _ _ _ _ us hl => match us, hl with | [_, _, _], _ => rfl
  have F26 := fun_mk (st := sNmr) l26 c26 k26
  have b26 := F26.binds (ps := ["value"]) fun _ _ _ _ _ _ us hl => match us, hl with | [_], _ => rfl
  have F27 := fun_mk (st := sFlr) l27 c27 k27
  have b27 := F27.binds (ps := ["value", "deep"]) fun _ _ _ _ _ _ us hl => match us, hl with | [_, _], _ => rfl
  have F28 := fun_mk (st := sFor) l28 c28 k28
  have b28 := F28.binds (ps := ["value", "deep"]) fun _ _ _ _ _ _ us hl => match us, hl with | [_, _], _ => rfl
  have F29 := fun_mk (st := sKdr) l29 c29 k29
  have b29 := F29.binds (ps := ["value"]) fun _ _ _ _ _ _ us hl => match us, hl with | [_], _ => rfl
  have F30 := fun_mk (st := sNew) l30 c30 k30
  have b30 := F30.binds (ps := ["state"]) fun _ _ _ _ _ _ us hl => match us, hl with | [_], _ => rfl
  have F31 := fun_mk (st := sEdg) l31 c31 k31
  have b31 := F31.binds (ps := ["state"]) fun _ _ _ _ _ _ us hl => match us, hl with | [_], _ => rfl
  have F32 := fun_mk (st := sChg) l32 c32 k32
  have b32 := F32.binds (ps := ["state", "value", "deep"]) fun _ _ _ _ _ _ us hl => match us, hl with | [_, _, _], _ => rfl
  have F33 := fun_mk (st := sTld) l33 c33 k33
  have b33 := F33.binds (ps := ["value"]) fun _ _ _ _ _ _ us hl => match us, hl with | [_], _ => rfl
  have F34 := fun_mk (st := sLaw) l34 c34 k34
  have b34 := F34.binds (ps := ["script"]) fun _ _ _ _ _ _ us hl => match us, hl with | [_], _ => rfl
  have eR' := vals_of (eq_of_beq eR)
  have eZ : its.size ≤ sizeLine := by
    have := congrArg List.length (eq_of_beq eR)
    rw [List.length_map, List.length_map, Array.length_toList] at this
    rw [this, sizeLine_eq]
    decide
  have TP : MgP K mg f1 := { whl := PySem.W.mg_of X G a1, kwhl := k1, lett := ⟨_, PySem.W.mg_of X G vL⟩, digt := ⟨_, PySem.W.mg_of X G vD⟩, resv := ⟨aR, PySem.W.mg_of X G vR, fun H => .inr ⟨_, its, nR, lR, rfl, rfl, eZ, eR'⟩⟩, msig := ⟨_, PySem.W.mg_of X G vS⟩, isi := PySem.W.mg_none_of X G z_isinstance, len := PySem.W.mg_none_of X G z_len, str := PySem.W.mg_none_of X G z_str, int := PySem.W.mg_none_of X G z_int, bol := PySem.W.mg_none_of X G z_bool, tpl := PySem.W.mg_none_of X G z_tuple, all := PySem.W.mg_none_of X G z_all, set := PySem.W.mg_none_of X G z_set }
  have TK : MgK K mg f1 f2 f3 f4 f5 f6 f7 f9 f10 f11 := { TP with win := PySem.W.mg_of X G a2, kwin := k2, tof := PySem.W.mg_of X G a3, ktof := k3, tin := PySem.W.mg_of X G a4, ktin := k4, dbl := PySem.W.mg_of X G a5, kdbl := k5, nme := PySem.W.mg_of X G a6, knme := k6, pln := PySem.W.mg_of X G a7, kpln := k7, fm := PySem.W.mg_of X G a9, kfm := k9, fl := PySem.W.mg_of X G a10, kfl := k10, wc := PySem.W.mg_of X G a11, kwc := k11, mit := ⟨_, PySem.W.mg_of X G vI⟩, mfi := ⟨_, PySem.W.mg_of X G vF⟩, sum := PySem.W.mg_none_of X G z_sum }
  have TR : MgR K mg f8 f13 C := ⟨PySem.W.mg_of X G a8, k8, PySem.W.mg_of X G a13, k13, PySem.W.mg_of X G aC, kC, xC, sB, tC, ⟨_, PySem.W.mg_of X G vP⟩, ⟨_, PySem.W.mg_of X G vW⟩⟩
  have TD : Fk K f1 f2 f3 f4 f5 f6 f7 f9 f10 f11 _ _ _ _ _ _ _ _ _ _ := ⟨F1, b1, F2, b2, F3, b3, F4, b4, F5, b5, F6, b6, F7, b7, F9, b9, F10, b10, F11, b11⟩
  have TS : MgS K mg f15 f16 := ⟨PySem.W.mg_none_of X G z_int, PySem.W.mg_none_of X G z_len, PySem.W.mg_of X G a15, k15, PySem.W.mg_of X G a16, k16⟩
  have TN : MgN K mg f15 f16 f17 f20 := { TS with pk := PySem.W.mg_of X G a17, kpk := k17, wd := PySem.W.mg_of X G a20, kwd := k20, rng := PySem.W.mg_none_of X G z_range, str := PySem.W.mg_none_of X G z_str }
  have TJ : MgJ K mg f20 f24 f26 f27 f28 := ⟨PySem.W.mg_of X G a20, k20, PySem.W.mg_of X G a24, k24, PySem.W.mg_of X G a26, k26, PySem.W.mg_of X G a27, k27, PySem.W.mg_of X G a28, k28, PySem.W.mg_none_of X G z_isinstance, PySem.W.mg_none_of X G z_len, PySem.W.mg_none_of X G z_str, PySem.W.mg_none_of X G z_int, PySem.W.mg_none_of X G z_bool, PySem.W.mg_none_of X G z_tuple, PySem.W.mg_none_of X G z_sum⟩
  have TL' : MgL K mg f18 f22 f23 f25 f21 f24 := ⟨PySem.W.mg_of X G a18, k18, PySem.W.mg_of X G a22, k22, PySem.W.mg_of X G a23, k23, PySem.W.mg_of X G a25, k25, PySem.W.mg_of X G a21, k21, PySem.W.mg_of X G a24, k24, PySem.W.mg_none_of X G z_list, PySem.W.mg_none_of X G z_tuple, PySem.W.mg_none_of X G z_isinstance, PySem.W.mg_none_of X G z_str, PySem.W.mg_none_of X G z_min, PySem.W.mg_none_of X G z_range, PySem.W.mg_none_of X G z_len⟩
  have TC : MgC K mg f32 := ⟨PySem.W.mg_of X G a32, k32⟩
  have TT : MgT K mg CE C f6 f7 f8 f12 f26 f29 f19 f24 := ⟨PySem.W.mg_of X G a6, k6, PySem.W.mg_of X G a7, k7, PySem.W.mg_of X G a8, k8, PySem.W.mg_of X G a12, k12, PySem.W.mg_of X G a26, k26, PySem.W.mg_of X G a29, k29, PySem.W.mg_of X G a19, k19, PySem.W.mg_of X G a24, k24, PySem.W.mg_of X G aCE, PySem.W.mg_of X G aC, exm_of sE iE tE sCE, ⟨gC, ggC, sB, hdC, clC, spO, tkO, mrC⟩, PySem.W.mg_none_of X G z_isinstance, PySem.W.mg_none_of X G z_str, PySem.W.mg_none_of X G z_int, PySem.W.mg_none_of X G z_bool⟩
  have TW : MgW K mg f14 f33 f30 f22 f23 f25 f17 f31 f32 := ⟨PySem.W.mg_of X G a14, k14, PySem.W.mg_of X G a33, k33, PySem.W.mg_of X G a30, k30, PySem.W.mg_of X G a22, k22, PySem.W.mg_of X G a23, k23, PySem.W.mg_of X G a25, k25, PySem.W.mg_of X G a17, k17, PySem.W.mg_of X G a31, k31, PySem.W.mg_of X G a32, k32, PySem.W.mg_none_of X G z_range, PySem.W.mg_none_of X G z_min, PySem.W.mg_none_of X G z_len⟩
  have ma := PySem.W.mg_none_of X G z_abs
  refine ⟨PySem.W.fnOf "law" "law" (defArgs sLaw) (defBody sLaw) (defScope sLaw) .none kV34 dc34 pm34 an34 cd34 ct34, [(cL, PT)], spLaw K PT, fun p hp => ?_, fun p hp => ?_, fun p hp => ?_, fun s u => .of_eq rfl, fun H a ns hl _ hp hS => ?_, fun base KB GB hTB => ?_⟩
  · rw [List.mem_singleton.mp hp]
    exact hT
  · rw [List.mem_singleton.mp hp]
    exact np
  · rw [List.mem_singleton.mp hp]
    exact PySem.W.codeHd_of_K X hdr
  · exact ⟨a, ns, rfl, hS, hl, hp _ (List.mem_singleton.mpr rfl), fun _ => rfl⟩
  · have kPl : KBinds K (PySem.W.fnOf "is_plain" "is_plain" (defArgs sPl) (defBody sPl) (defScope sPl) .none kV7 dc7 pm7 an7 cd7 ct7) ["value"] ["value"] (fun us ws => us ++ ws) (fun us ws => us ++ ws) :=
      ⟨fun s us ws _ hl => match us, ws, hl with | [], [_], _ => .of_eq rfl | [_], [], _ => .of_eq rfl, fun r1 r2 => paired_app r1 r2⟩
    have kWo : KBinds K (PySem.W.fnOf "words_of" "words_of" (defArgs sWo) (defBody sWo) (defScope sWo) .none kV12 dc12 pm12 an12 cd12 ct12) ["kind"] ["kind"] (fun us ws => us ++ ws) (fun us ws => us ++ ws) :=
      ⟨fun s us ws _ hl => match us, ws, hl with | [], [_], _ => .of_eq rfl | [_], [], _ => .of_eq rfl, fun r1 r2 => paired_app r1 r2⟩
    have GD := ok_drw (P := l.prog) (w := w) (base := base) F16 TS F15 b15
    have GP := ok_pck (P := l.prog) (w := w) (base := base) F17 TS F15 b15 F16 b16
    have GW := ok_wds (P := l.prog) (w := w) (base := base) (mg := mg) F20
    have GN := ok_nam (P := l.prog) (w := w) (base := base) F21 TN F15 b15 F16 b16 F17 b17 F20 b20
    have GS := ok_shf (P := l.prog) (w := w) (base := base) F18 TS TL' F15 b15 F16 b16
    have GB := ok_tab (fW := f1) (fP := f1) (P := l.prog) (w := w) (base := base) F22 TS TL' GD b16 GN b21
    have GDN := ok_nmd (P := l.prog) (w := w) (base := base) F23 TL' b23 13
    have GC := fun n => ok_cbw (P := l.prog) (w := w) (base := base) TJ F24 b24 n
    have GK := ok_knd (P := l.prog) (w := w) (base := base) F25 TN TL' b25 GD b16 GP b17 GS b18 GC b24 4
    have GNew := ok_new (P := l.prog) (w := w) (base := base) F30 TN TL' GD b16 GP b17 GN b21 GW b20
    have GE := ok_edg (P := l.prog) (w := w) (base := base) F31 TN TL' GD b16 GP b17
    have GCh := ok_chg (P := l.prog) (w := w) (base := base) F32 TN TL' TC b32 GD b16 GP b17 8
    have GFF := (ok_forflr (P := l.prog) (w := w) (base := base) TJ F20 b20 F26 b26 F27 b27 F28 b28 4).1
    have GKr := ok_kdr (P := l.prog) (w := w) (base := base) F29 TJ GFF b28 (GC 4) b24
    have GNr := ok_nmr (P := l.prog) (w := w) (base := base) F26 TJ F20 b20
    have GKd := ok_kd (P := l.prog) (w := w) (base := base) TD TK TR F8
    have GWo := ok_wo (P := l.prog) (w := w) (base := base) TD TK TR F8 b8 F13 b13 F12
    have GT := ok_tld (P := l.prog) (w := w) (base := base) l33 c33 l19 c19 (Binds.all fun us hl => match us, hl with | [_], _ => rfl) TT (hTB _ (List.mem_singleton.mpr rfl)) (ok_nm F6 TP) b6 (ok_pl F7 TP) kPl GKd b8 GWo b12 kWo GNr b26 GKr b29 (GC 4) b24
    exact ok_law F34 TW (ok_beg F14 ma) b14 GT b33 GNew b30 GB b22 GDN b23 GK b25 GP b17 GE b31 GCh b32
end K0

open PySem PySem.W PyProof.Rows
set_option Elab.async false
set_option pp.maxSteps 700
set_option maxRecDepth 100000 in
set_option maxHeartbeats 0 in
theorem PySem.Challenge.cw_labelclocks_k00_names_and_kinds_judged_holds : PySem.Challenge.rw_labelclocks_k00_names_and_kinds_judged.Holds := by
  w_on; o_law; k_head; (case hw => w_witness2)
  k_fill
  refine LamX.walk_ofTs (l := PySem.Challenge.rw_labelclocks_k00_names_and_kinds_judged) (n := 63) (k := 16) (x := "script") (CX := fun _ => L2.CX0) rfl (by decide) rfl ⟨rfl, by decide, by decide⟩ (fun w h Y => PySem.W.km_in_of Y) ?F (fun _ _ _ _ _ z => z)
  case F =>
    intro w mg fa h Y KX G hmg
    have hT8 := PySem.W.km_tabs_of Y
    refine' K0.all_mk KX G hmg ?a1 ?l1 ?c1 ?k1 ?a2 ?l2 ?c2 ?k2 ?a3 ?l3 ?c3 ?k3 ?a4 ?l4 ?c4 ?k4 ?a5 ?l5 ?c5 ?k5 ?a6 ?l6 ?c6 ?k6 ?a7 ?l7 ?c7 ?k7 ?a8 ?l8 ?c8 ?k8 ?a9 ?l9 ?c9 ?k9 ?a10 ?l10 ?c10 ?k10 ?a11 ?l11 ?c11 ?k11 ?a12 ?l12 ?c12 ?k12 ?a13 ?l13 ?c13 ?k13 ?a14 ?l14 ?c14 ?k14 ?a15 ?l15 ?c15 ?k15 ?a16 ?l16 ?c16 ?k16 ?a17 ?l17 ?c17 ?k17 ?a18 ?l18 ?c18 ?k18 ?a19 ?l19 ?c19 ?k19 ?a20 ?l20 ?c20 ?k20 ?a21 ?l21 ?c21 ?k21 ?a22 ?l22 ?c22 ?k22 ?a23 ?l23 ?c23 ?k23 ?a24 ?l24 ?c24 ?k24 ?a25 ?l25 ?c25 ?k25 ?a26 ?l26 ?c26 ?k26 ?a27 ?l27 ?c27 ?k27 ?a28 ?l28 ?c28 ?k28 ?a29 ?l29 ?c29 ?k29 ?a30 ?l30 ?c30 ?k30 ?a31 ?l31 ?c31 ?k31 ?a32 ?l32 ?c32 ?k32 ?a33 ?l33 ?c33 ?k33 ?a34 ?l34 ?c34 ?k34 ?z_len ?z_isinstance ?z_str ?z_abs ?z_int ?z_range ?z_min ?z_list ?z_bool ?z_tuple ?z_all ?z_set ?z_sum ?vL ?eL ?vD ?eD ?vS ?eS ?vI ?eI ?vF ?eF ?vP ?eP ?vW ?eW ?vR ?lR ?eR ?aC ?aCE ?kC ?xC ?sB ?tC ?sE ?iE ?tE ?sCE ?gC ?ggC ?hdC ?clC ?spO ?tkO ?mrC ?hdr ?np ?hT
    (case a1 => k_is)
    (case l1 => k_is)
    (case c1 => k_is)
    (case k1 => k_is)
    (case a2 => k_is)
    (case l2 => k_is)
    (case c2 => k_is)
    (case k2 => k_is)
    (case a3 => k_is)
    (case l3 => k_is)
    (case c3 => k_is)
    (case k3 => k_is)
    (case a4 => k_is)
    (case l4 => k_is)
    (case c4 => k_is)
    (case k4 => k_is)
    (case a5 => k_is)
    (case l5 => k_is)
    (case c5 => k_is)
    (case k5 => k_is)
    (case a6 => k_is)
    (case l6 => k_is)
    (case c6 => k_is)
    (case k6 => k_is)
    (case a7 => k_is)
    (case l7 => k_is)
    (case c7 => k_is)
    (case k7 => k_is)
    (case a8 => k_is)
    (case l8 => k_is)
    (case c8 => k_is)
    (case k8 => k_is)
    (case a9 => k_is)
    (case l9 => k_is)
    (case c9 => k_is)
    (case k9 => k_is)
    (case a10 => k_is)
    (case l10 => k_is)
    (case c10 => k_is)
    (case k10 => k_is)
    (case a11 => k_is)
    (case l11 => k_is)
    (case c11 => k_is)
    (case k11 => k_is)
    (case a12 => k_is)
    (case l12 => k_is)
    (case c12 => k_is)
    (case k12 => k_is)
    (case a13 => k_is)
    (case l13 => k_is)
    (case c13 => k_is)
    (case k13 => k_is)
    (case a14 => k_is)
    (case l14 => k_is)
    (case c14 => k_is)
    (case k14 => k_is)
    (case a15 => k_is)
    (case l15 => k_is)
    (case c15 => k_is)
    (case k15 => k_is)
    (case a16 => k_is)
    (case l16 => k_is)
    (case c16 => k_is)
    (case k16 => k_is)
    (case a17 => k_is)
    (case l17 => k_is)
    (case c17 => k_is)
    (case k17 => k_is)
    (case a18 => k_is)
    (case l18 => k_is)
    (case c18 => k_is)
    (case k18 => k_is)
    (case a19 => k_is)
    (case l19 => k_is)
    (case c19 => k_is)
    (case k19 => k_is)
    (case a20 => k_is)
    (case l20 => k_is)
    (case c20 => k_is)
    (case k20 => k_is)
    (case a21 => k_is)
    (case l21 => k_is)
    (case c21 => k_is)
    (case k21 => k_is)
    (case a22 => k_is)
    (case l22 => k_is)
    (case c22 => k_is)
    (case k22 => k_is)
    (case a23 => k_is)
    (case l23 => k_is)
    (case c23 => k_is)
    (case k23 => k_is)
    (case a24 => k_is)
    (case l24 => k_is)
    (case c24 => k_is)
    (case k24 => k_is)
    (case a25 => k_is)
    (case l25 => k_is)
    (case c25 => k_is)
    (case k25 => k_is)
    (case a26 => k_is)
    (case l26 => k_is)
    (case c26 => k_is)
    (case k26 => k_is)
    (case a27 => k_is)
    (case l27 => k_is)
    (case c27 => k_is)
    (case k27 => k_is)
    (case a28 => k_is)
    (case l28 => k_is)
    (case c28 => k_is)
    (case k28 => k_is)
    (case a29 => k_is)
    (case l29 => k_is)
    (case c29 => k_is)
    (case k29 => k_is)
    (case a30 => k_is)
    (case l30 => k_is)
    (case c30 => k_is)
    (case k30 => k_is)
    (case a31 => k_is)
    (case l31 => k_is)
    (case c31 => k_is)
    (case k31 => k_is)
    (case a32 => k_is)
    (case l32 => k_is)
    (case c32 => k_is)
    (case k32 => k_is)
    (case a33 => k_is)
    (case l33 => k_is)
    (case c33 => k_is)
    (case k33 => k_is)
    (case a34 => k_is)
    (case l34 => k_is)
    (case c34 => k_is)
    (case k34 => k_is)
    (case z_len => k_is)
    (case z_isinstance => k_is)
    (case z_str => k_is)
    (case z_abs => k_is)
    (case z_int => k_is)
    (case z_range => k_is)
    (case z_min => k_is)
    (case z_list => k_is)
    (case z_bool => k_is)
    (case z_tuple => k_is)
    (case z_all => k_is)
    (case z_set => k_is)
    (case z_sum => k_is)
    (case vL => k_is)
    (case eL => decide +kernel)
    (case vD => k_is)
    (case eD => decide +kernel)
    (case vS => k_is)
    (case eS => decide +kernel)
    (case vI => k_is)
    (case eI => decide +kernel)
    (case vF => k_is)
    (case eF => decide +kernel)
    (case vP => k_is)
    (case eP => decide +kernel)
    (case vW => k_is)
    (case eW => decide +kernel)
    (case vR => k_is)
    (case lR => k_is)
    (case eR => decide +kernel)
    (case aC => k_is)
    (case aCE => k_is)
    (case kC => k_is)
    (case xC => k_exc)
    (case sB => k_is)
    (case tC => k_is)
    (case sE => k_is)
    (case iE => k_is)
    (case tE => k_is)
    (case sCE => k_is)
    (case gC => k_is)
    (case ggC => k_is)
    (case hdC => k_is)
    (case clC => k_is)
    (case spO => k_is)
    (case tkO => k_is)
    (case mrC => k_is)
    (case hT => exact hT8 _ (List.mem_cons_self ..))
    (case hdr => kernel_rfl)
    (case np => kernel_rfl)

