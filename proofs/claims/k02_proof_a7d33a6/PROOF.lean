import PyProof.Rows.All
import Wide.All
import OpenK.AllK
import Wide.FinOn
import HandS.ForMost
import PySem.Challenge.RW_labelclocks_k02_tokens_of_texts
import HandS.ExcInit
import HandS.ExcField
import HandS.ClsMeth
import HandS.IsInst
import HandS.WordsExc
import HandS.Style
import HandS.Lambda
import KE.KExcIs
import HandS.ExcIs
import HandS.EndTab
import KE.KNestM
set_option Elab.async false
set_option linter.all false
set_option maxRecDepth 100000
set_option maxHeartbeats 2000000
/-! tokens_of and what it calls, by their promises -/
namespace K2
open PySem PySem.Spec PyProof.Rows L2
open TL (tl)
def top (i : Nat) : Stmt := PySem.Challenge.pw_labelclocks_k02_tokens_of_texts.main.body.getD i (.Pass ⟨0, 0, 0, 0⟩)
abbrev sInit : Stmt := inClass (top 2) 0
abbrev sTO : Stmt := top 7
abbrev sLT : Stmt := top 8
abbrev sTE : Stmt := top 9

/-! ### the mathematics -/
def WS : Str := "abcdefghijklmnopqrstuvwxyzABCDEFGHIJKLMNOPQRSTUVWXYZ0123456789_"
def isW (c : Nat) : Bool := decide (c ∈ WS.cps.toList)
/-- where the token at i ends -/
def tokEnd (l : List Nat) (i : Nat) : Nat := if isW (l.getD i 0) = true then i + ((l.drop i).takeWhile isW).length else i + 1
theorem drop_getD {l : List Nat} {i : Nat} (h : i < l.length) : l.drop i = l.getD i 0 :: l.drop (i + 1) := by
  rw [List.drop_eq_getElem_cons h, List.getD_eq_getElem?_getD, List.getElem?_eq_getElem h]
  rfl
theorem run_step {l : List Nat} {i : Nat} (h : i < l.length) (hw : isW (l.getD i 0) = true) :
    i + ((l.drop i).takeWhile isW).length = (i + 1) + ((l.drop (i + 1)).takeWhile isW).length := by
  rw [drop_getD h, List.takeWhile_cons, if_pos hw, List.length_cons]
  omega
theorem run_stop {l : List Nat} {i : Nat} (h : i < l.length) (hw : isW (l.getD i 0) = false) :
    i + ((l.drop i).takeWhile isW).length = i := by
  rw [drop_getD h, List.takeWhile_cons, if_neg (by rw [hw]; exact Bool.false_ne_true)]
  rfl
theorem run_end {l : List Nat} {i : Nat} (h : l.length ≤ i) : i + ((l.drop i).takeWhile isW).length = i := by
  rw [List.drop_eq_nil_of_le h]
  rfl
theorem run_le {l : List Nat} {i : Nat} (h : i ≤ l.length) : i + ((l.drop i).takeWhile isW).length ≤ l.length := by
  have h1 : ((l.drop i).takeWhile isW).length ≤ (l.drop i).length := (List.takeWhile_sublist _).length_le
  rw [List.length_drop] at h1
  omega
theorem tokEnd_gt {l : List Nat} {i : Nat} (h : i < l.length) : i < tokEnd l i := by
  unfold tokEnd
  split
  · rename_i hw
    rw [run_step h hw]
    omega
  · omega
theorem tokEnd_le {l : List Nat} {i : Nat} (h : i < l.length) : tokEnd l i ≤ l.length := by
  unfold tokEnd
  split
  · exact run_le (Nat.le_of_lt h)
  · omega

structure Tok where
  n : Int
  c : Int
  i : Option Int
  s : Str
def Tok.vs (t : Tok) : List V := [.int t.n, .int t.c, (match t.i with | some i => .int i | none => .non), .str t.s]
def Tok.d (t : Tok) : PyData := .tuple [.int t.n, .int t.c, (match t.i with | some i => .int i | none => .none), .str t.s]
def cut (l : List Nat) (i j : Nat) : Str := ⟨((l.drop i).take (j - i)).toArray⟩
def nlS : Str := "\n"
/-- the tokens of a line from a place on: acc those so far, behind where the last one ended -/
def go (n : Int) (l : List Nat) (at' : Nat) (acc : List Tok) (behind : Nat) : List Tok :=
  if h : at' < l.length then
    if l.getD at' 0 = 32 then go n l (at' + 1) acc behind
    else go n l (tokEnd l at') (acc ++ [⟨n, (at' : Int) + 1, (if acc = [] then some (at' : Int) else none), cut l at' (tokEnd l at')⟩]) (tokEnd l at')
  else if acc = [] then [] else acc ++ [⟨n, (behind : Int) + 1, none, nlS⟩]
termination_by l.length - at'
decreasing_by
  · omega
  · have := tokEnd_gt h
    omega
end K2

set_option Elab.async false
set_option linter.all false
set_option maxRecDepth 100000
set_option maxHeartbeats 2000000
namespace K2
open PySem PySem.Spec PyProof.Rows L2
open TL (tl)
/-- what the walk asks of the module -/
structure Mg (mg : Str → Option Value) : Prop where
  len : mg "len" = none
  ws : ∃ t, mg "WORD_SIGNS" = some (.str WS t)
def spTE : Sp := fun vs H Q _ => ∃ (z : Str) (i : Nat), vs = [.str z, .int i] ∧ z.length ≤ 2000 ∧ i < z.length ∧ Q (.int (tokEnd (tl z) i : Nat)) H
theorem sign_at {z : Str} {i : Nat} (h : i < z.length) : z.cps[((i : Nat) : Int).toNat]? = some ((tl z).getD i 0) := by
  rw [Int.toNat_natCast]
  have h1 : i < z.cps.size := h
  rw [Array.getElem?_eq_getElem h1, List.getD_eq_getElem?_getD, List.getElem?_eq_getElem (by rw [Array.length_toList]; exact h1)]
  rfl
theorem ifT {c : Bool} {A B : Prop} (hc : c = true) (h : A) : if c = true then A else B := by
  rw [if_pos hc]
  exact h
theorem ifF {c : Bool} {A B : Prop} (hc : c = false) (h : B) : if c = true then A else B := by
  rw [hc, if_neg Bool.false_ne_true]
  exact h
theorem while_m {c : TT} {tb : TS} {D : Ends} {σ : L2.St} {H : Hp} (Pv : Nat → L2.St → Hp → Prop) (m : Nat) (h0 : Pv m σ H)
    (hs : ∀ n σ H, Pv n σ H → c σ H fun b H1 => if b = true then ∃ N : L2.St → Hp → Prop, (∀ σ' H', N σ' H' → ∃ m', m' < n ∧ Pv m' σ' H') ∧ tb { D with nx := N, ct := N, bk := D.nx } σ H1 else D.nx σ H1) : tWhile c tb D σ H :=
  ⟨Pv, ⟨m, h0⟩, hs⟩
section
variable {P : Program} {w : World} {K : PySem.W.Frag} {mg : Str → Option Value} {base : Heap}
theorem scTE : FnScope ["line", "at"] ["line", "at"] (defScope sTE) := ⟨rfl, rfl, rfl, by decide +kernel, rfl, by decide +kernel, by decide +kernel⟩
theorem ok_TE {f : Addr} {fd : FuncData} (F : Fun K "_token_end" "_token_end" sTE f fd) (T : Mg mg) : FnOk P w K mg base CX0 1 f fd ["line", "at"] spTE := by
  refine F.ok scTE (fun vs H Q E h => ?_) (fun cdv A outer s H vs Q E hr h => ?_)
  · obtain ⟨z, i, rfl, _⟩ := h
    rfl
  · obtain ⟨z, i, rfl, hz, hi, k⟩ := h
    obtain ⟨tw, mw⟩ := T.ws
    have hlen : z.length = (tl z).length := TL.len_tl z
    have zs : z.length ≤ sizeLine := by rw [sizeLine_eq]; omega
    refine ⟨_, pss_cons (ps_if (pt_cmpR op_notIn_sign (pe_item_str (pv 0) (pv 1) (fun _ _ => rfl)) (pe_glob (v := .str WS) rfl mw ⟨_, rfl⟩) (by rfl)) (pss_one (ps_ret (pe_op op_add (pv 1) pe_int))) pss_nil)
      (pss_cons (ps_while PassesOwn.never (PW.pt (pw_and (pt_cmpR op_lt (pv 1) (pe_callB call_len_str (by rfl) T.len PySem.boot_len (pa_cons (pv 0) pa_nil)) (nomark _))
          (pw_and1 (pt_cmpR op_in_sign (pe_item_str (pv 0) (pv 1) (fun _ _ => rfl)) (pe_glob (v := .str WS) rfl mw ⟨_, rfl⟩) (by rfl)))))
        (pss_one (ps_aug (i := 1) scTE.nd rfl (.inl rfl) pe_int ip_add)))
      (pss_one (ps_ret (pv 1)))), ?_⟩
    refine ⟨_, rfl, _, rfl, z, i, _, rfl, rfl, by omega, by omega, by omega, sign_at (by omega), _, WS, rfl, rfl, _, rfl, ?_⟩
    cases hw : isW ((tl z).getD i 0) with
    | false =>
      have hw' : decide ((tl z).getD i 0 ∈ WS.cps.toList) = false := hw
      refine ifT (by rw [hw']; rfl) ?_
      refine ⟨_, rfl, _, _, rfl, rfl, ?_⟩
      have e : tokEnd (tl z) i = i + 1 := by unfold tokEnd; rw [hw]; rfl
      rw [e] at k
      exact k
    | true =>
      have hw' : decide ((tl z).getD i 0 ∈ WS.cps.toList) = true := hw
      refine ifF (by rw [hw']; rfl) ?_
      have e : tokEnd (tl z) i = i + (((tl z).drop i).takeWhile isW).length := by unfold tokEnd; rw [hw]; rfl
      rw [e] at k
      refine while_m (fun m σ H' => H' = H ∧ ∃ j : Nat, σ = [some (.str z), some (.int j)] ∧ j ≤ (tl z).length ∧ m = (tl z).length - j ∧ j + (((tl z).drop j).takeWhile isW).length = i + (((tl z).drop i).takeWhile isW).length)
        ((tl z).length - i) ⟨rfl, i, rfl, by omega, rfl, rfl⟩ ?_
      rintro m σ H' ⟨rfl, j, rfl, hj, rfl, ej⟩
      refine ⟨_, rfl, _, rfl, z, rfl, zs, _, _, rfl, rfl, _, rfl, ?_⟩
      by_cases c1 : j < z.length
      · refine ifT (decide_eq_true (by omega)) ?_
        refine ⟨_, rfl, _, rfl, z, j, _, rfl, rfl, by omega, by omega, by omega, sign_at (by omega), _, WS, rfl, rfl, _, rfl, ?_⟩
        cases hj2 : isW ((tl z).getD j 0) with
        | true =>
          refine ifT hj2 ?_
          refine ⟨_, fun _ _ h => h, _, rfl, _, _, rfl, rfl, (tl z).length - (j + 1), by omega, rfl, j + 1, rfl, by omega, rfl, ?_⟩
          rw [← ej, run_step (by omega) hj2]
        | false =>
          refine ifF hj2 ?_
          refine ⟨_, rfl, ?_⟩
          rw [← ej, run_stop (by omega) hj2] at k
          exact k
      · refine ifF (decide_eq_false (by omega)) ?_
        refine ifF rfl ?_
        refine ⟨_, rfl, ?_⟩
        rw [← ej, run_end (by omega)] at k
        exact k
end
end K2

set_option Elab.async false
set_option linter.all false
set_option maxRecDepth 100000
set_option maxHeartbeats 2000000
namespace K2
open PySem PySem.Spec PyProof.Rows L2
open TL (tl)
/-! ### heaps -/
theorem same_new {H : Hp} {p : Addr} {o : HO} (h : H p = none) : Same H (upd H p o) := fun b u e => by
  rw [upd_ne (ne_of_none e h)]
  exact e
/-- tuples stay -/
def KT (H H' : Hp) : Prop := ∀ b xs, H b = some (.tup xs) → H' b = some (.tup xs)
theorem KT.refl (H : Hp) : KT H H := fun _ _ h => h
theorem KT.trans {H H1 H2 : Hp} (a : KT H H1) (b : KT H1 H2) : KT H H2 := fun c xs h => b c xs (a c xs h)
theorem KT.of {H H' : Hp} (s : Same H H') : KT H H' := fun b xs h => s b _ h
theorem KT.new {H : Hp} {p : Addr} {o : HO} (h : H p = none) : KT H (upd H p o) := KT.of (same_new h)
theorem KT.put {H : Hp} {p : Addr} {xs : List V} {o : HO} (h : H p = some (.lst xs)) : KT H (upd H p o) := fun b ys e => by
  have n : b ≠ p := ne_of e h (by intro z; cases z)
  rw [upd_ne n]
  exact e
theorem paired_app {α β : Type} {F : α → β → Prop} : ∀ {a : List α} {b : List β} {a' : List α} {b' : List β}, Paired F a b → Paired F a' b' → Paired F (a ++ a') (b ++ b')
  | _, _, _, _, .nil, q => q
  | _, _, _, _, .cons r t, q => .cons r (paired_app t q)
theorem paired_len {α β : Type} {F : α → β → Prop} {a : List α} {b : List β} (p : Paired F a b) : a.length = b.length := Paired.length p
/-- a token as a tuple -/
def TokAt (H : Hp) (v : V) (t : Tok) : Prop := ∃ a, v = .ref a ∧ H a = some (.tup t.vs)
theorem TokAt.keep {H H' : Hp} (k : KT H H') {v : V} {t : Tok} (h : TokAt H v t) : TokAt H' v t := by
  obtain ⟨a, e, h⟩ := h
  exact ⟨a, e, k _ _ h⟩
theorem toks_keep {H H' : Hp} (k : KT H H') {xs : List V} {ts : List Tok} (h : Paired (TokAt H) xs ts) : Paired (TokAt H') xs ts := Paired.mapP h fun _ _ q => q.keep k
theorem sp_eq (c : Nat) : (V.str ⟨#[c]⟩ = V.str (" " : Str)) ↔ c = 32 := by
  have e : (" " : Str) = ⟨#[32]⟩ := by decide +kernel
  constructor
  · intro h
    injection h with h
    rw [e] at h
    injection h with h
    have := congrArg (·.toList) h
    simpa using this
  · intro h
    rw [h, e]
theorem cutS_cut {z : Str} {i j : Nat} (hi : i ≤ j) (hj : j ≤ z.length) : cutS z (some ((i : Nat) : Int)) (some ((j : Nat) : Int)) = cut (tl z) i j := by
  unfold cutS cut
  have h1 : HT.sIx z.length 0 (some ((i : Nat) : Int)) = i := by
    rw [HT.sIx_nat]
    omega
  have h2 : HT.sIx z.length z.length (some ((j : Nat) : Int)) = j := by
    rw [HT.sIx_nat]
    omega
  rw [h1, h2]
theorem go_blank {n : Int} {l : List Nat} {i : Nat} {acc : List Tok} {b : Nat} (h : i < l.length) (hb : l.getD i 0 = 32) : go n l i acc b = go n l (i + 1) acc b := by
  rw [go, dif_pos h, if_pos hb]
theorem go_tok {n : Int} {l : List Nat} {i : Nat} {acc : List Tok} {b : Nat} (h : i < l.length) (hb : l.getD i 0 ≠ 32) :
    go n l i acc b = go n l (tokEnd l i) (acc ++ [⟨n, (i : Int) + 1, (if acc = [] then some (i : Int) else none), cut l i (tokEnd l i)⟩]) (tokEnd l i) := by
  rw [go, dif_pos h, if_neg hb]
theorem go_end {n : Int} {l : List Nat} {i : Nat} {acc : List Tok} {b : Nat} (h : ¬ i < l.length) : go n l i acc b = if acc = [] then [] else acc ++ [⟨n, (b : Int) + 1, none, nlS⟩] := by
  rw [go, dif_neg h]
structure LTs (R : List Tok) (H : Hp) (n : Int) (z : Str) (p : Addr) (j b : Nat) (acc : List Tok) (xs : List V) (H' : Hp) : Prop where
  same : Same H H'
  new : H p = none
  lst : H' p = some (.lst xs)
  pr : Paired (TokAt H') xs acc
  hj : j ≤ (tl z).length
  hc : acc.length ≤ j
  eg : go n (tl z) j acc b = R
theorem LTs.len {R : List Tok} {H : Hp} {n : Int} {z : Str} {p : Addr} {j b : Nat} {acc : List Tok} {xs : List V} {H' : Hp} (S : LTs R H n z p j b acc xs H') : xs.length = acc.length := paired_len S.pr
theorem LTs.emp {R : List Tok} {H : Hp} {n : Int} {z : Str} {p : Addr} {j b : Nat} {acc : List Tok} {xs : List V} {H' : Hp} (S : LTs R H n z p j b acc xs H') : xs.isEmpty = acc.isEmpty := by
  have h := S.pr
  cases h with
  | nil => rfl
  | cons _ _ => rfl
theorem LTs.blank {R : List Tok} {H : Hp} {n : Int} {z : Str} {p : Addr} {j b : Nat} {acc : List Tok} {xs : List V} {H' : Hp} (S : LTs R H n z p j b acc xs H') (h : j < (tl z).length) (hb : (tl z).getD j 0 = 32) : LTs R H n z p (j + 1) b acc xs H' :=
  ⟨S.same, S.new, S.lst, S.pr, h, Nat.le_succ_of_le S.hc, by rw [← S.eg, go_blank h hb]⟩
def ixV : Option Int → V
  | some i => .int i
  | none => .non
theorem LTs.tok {R : List Tok} {H : Hp} {n : Int} {z : Str} {p : Addr} {j b : Nat} {acc : List Tok} {xs : List V} {H' : Hp} (S : LTs R H n z p j b acc xs H') (h : j < (tl z).length) (hb : (tl z).getD j 0 ≠ 32) {q : Addr} (hq : H' q = none)
    {vs : List V} (hv : vs = [V.int n, V.int ((j : Int) + 1), ixV (if acc = [] then some (j : Int) else none), V.str (cutS z (some (j : Int)) (some ((tokEnd (tl z) j : Nat) : Int)))]) :
    ∃ acc', LTs R H n z p (tokEnd (tl z) j) (tokEnd (tl z) j) acc' (xs ++ [.ref q]) (upd (upd H' q (.tup vs)) p (.lst (xs ++ [V.ref q]))) := by
  have hlen : z.length = (tl z).length := TL.len_tl z
  have hg := tokEnd_gt h
  have hle := tokEnd_le h
  have hpq : p ≠ q := ne_of_none S.lst hq
  have kt : KT H' (upd (upd H' q (.tup vs)) p (.lst (xs ++ [V.ref q]))) := (KT.new hq).trans (KT.put (xs := xs) (by rw [upd_ne hpq]; exact S.lst))
  refine ⟨_, ⟨fun c o e => ?_, S.new, upd_same, paired_app (toks_keep kt S.pr) (.cons (b := ⟨n, (j : Int) + 1, (if acc = [] then some (j : Int) else none), cut (tl z) j (tokEnd (tl z) j)⟩) ⟨q, rfl, ?_⟩ .nil), hle, ?_, ?_⟩⟩
  · rw [upd_ne (ne_of_none e S.new), upd_ne (ne_of_none (S.same _ _ e) hq)]
    exact S.same _ _ e
  · rw [upd_ne hpq.symm, upd_same, hv, cutS_cut (by omega) (by omega)]
    unfold Tok.vs
    congr 4
  · rw [List.length_append]
    have := S.hc
    show acc.length + 1 ≤ _
    omega
  · rw [← S.eg, go_tok h hb]
def lineToks (n : Int) (l : List Nat) : List Tok := go n l 0 [] 0
def spLT : Sp := fun vs H Q _ => ∃ (n : Int) (z : Str), vs = [.int n, .str z] ∧ z.length ≤ 2000 ∧
  ∀ (p : Addr) (xs : List V) (H' : Hp), Same H H' → H p = none → H' p = some (.lst xs) → Paired (TokAt H') xs (lineToks n (tl z)) → xs.length ≤ 2001 → Q (.ref p) H'
section
variable {X : Cx} {o e : Expr} {to te : TE} {apos cpos : Pos}
theorem qApp (ho : PE X o to) (he : PE X e te) (hbase : attributeBase o "append" X.env (eval o X.env) = eval o X.env := by rfl)
    (hfew : ((backTo cpos (starEach (e :: []) X.env)).all (fun x => !x.1) && (backToKw cpos (keywordEach [] X.env)).all (fun x => x.1.isSome)
      && decide ((e :: ([] : List Expr)).length + ([] : List Keyword).length + (if ([] : List Keyword).isEmpty then 0 else 1) < 30)) = true := by rfl)
    (hline : (apos.endLine == cpos.line) = true := by rfl) (hs : starEach (e :: []) X.env = (false, eval e X.env) :: starEach [] X.env := by rfl) (hplain : (backTo cpos (starEach [] X.env)).any (·.1) = false := by rfl) :
    PE X (.Call (.Attribute o "append" apos) [e] [] cpos) (tBM X.K "list" rAppend to (tCons te tNil)) :=
  pe_bm PySem.F.plainAttrs_list PySem.F.slot_list_append PySem.F.type_list_append mt_append ho (pa_cons he pa_nil hs) hbase hfew hline hs hplain
end
section
variable {P : Program} {w : World} {K : PySem.W.Frag} {mg : Str → Option Value} {base : Heap}
theorem scLT : FnScope ["number", "line", "tokens", "at", "behind", "indent"] ["number", "line"] (defScope sLT) := ⟨rfl, rfl, rfl, by decide +kernel, rfl, by decide +kernel, by decide +kernel⟩
structure MgL (K : PySem.W.Frag) (mg : Str → Option Value) (fTE : Addr) : Prop extends Mg mg where
  te : mg "_token_end" = some (.ref fTE)
  kte : PySem.W.keepIn K (.ref fTE) = true
  el : ∃ t, mg "END_OF_LINE" = some (.str nlS t)
theorem ok_LT {f fTE : Addr} {fd fdTE : FuncData} (F : Fun K "_line_tokens" "_line_tokens" sLT f fd) (T : MgL K mg fTE) (FTE : Fun K "_token_end" "_token_end" sTE fTE fdTE) (bTE : L2.Binds K fdTE ["line", "at"] []) : FnOk P w K mg base CX0 2 f fd ["number", "line"] spLT := by
  have GTE : FnOk P w K mg base CX0 1 fTE fdTE ["line", "at"] spTE := ok_TE FTE T.toMg
  refine F.ok scLT (fun vs H Q E h => ?_) (fun cdv A outer s H vs Q E hr h => ?_)
  · obtain ⟨n, z, rfl, _⟩ := h
    rfl
  · obtain ⟨n, z, rfl, hz, k⟩ := h
    obtain ⟨tw, mw⟩ := T.el
    have hlen : z.length = (tl z).length := TL.len_tl z
    have zs : z.length ≤ sizeLine := by rw [sizeLine_eq]; omega
    refine ⟨_, pss_cons (ps_set (i := 2) scLT.nd rfl (Or.inl rfl) (pe_lst pa_nil)) (pss_cons (ps_set (i := 3) scLT.nd rfl (Or.inl rfl) pe_int) (pss_cons (ps_set (i := 4) scLT.nd rfl (Or.inl rfl) pe_int)
      (pss_cons (ps_while PassesOwn.never (pt_cmpR op_lt (pv 3) (pe_callB call_len_str (by rfl) T.len PySem.boot_len (pa_cons (pv 1) pa_nil)) (nomark _))
        (pss_cons (ps_if (pt_cmpR op_eq (pe_item_str (pv 1) (pv 3) (fun _ _ => rfl)) pe_str (nomark _)) (pss_cons (ps_aug (i := 3) scLT.nd rfl (.inl rfl) pe_int ip_add) (pss_one ps_continue)) pss_nil)
        (pss_cons (ps_set (i := 4) scLT.nd rfl (Or.inl rfl) (pe_call GTE hr (by rfl) T.te T.kte bTE .nil pass0 (pa_cons (pv 1) (pa_cons (pv 3) pa_nil))))
        (pss_cons (ps_set (i := 5) scLT.nd rfl (Or.inl rfl) (pe_ifExp (pt_truth (pv 2) (by intro _; rfl)) pe_non (pv 3)))
        (pss_cons (ps_expr (qApp (pv 2) (pe_tup (pa_cons (pv 0) (pa_cons (pe_op op_add (pv 3) pe_int) (pa_cons (pv 5) (pa_cons (pe_slice sl_str (pv 1) (po_some (pv 3)) (po_some (pv 4))) pa_nil)))))))
        (pss_one (ps_set (i := 3) scLT.nd rfl (Or.inl rfl) (pv 4))))))))
      (pss_cons (ps_if (pt_truth (pv 2) (by intro _; rfl)) (pss_one (ps_expr (qApp (pv 2) (pe_tup (pa_cons (pv 0) (pa_cons (pe_op op_add (pv 4) pe_int) (pa_cons pe_non (pa_cons (pe_glob (v := .str nlS) (by rfl) mw ⟨_, rfl⟩) pa_nil)))))))) pss_nil)
      (pss_one (ps_ret (pv 2))))))), ?_⟩
    refine ⟨Nat.zero_le _, fun p hp => ?_⟩
    refine while_m (fun m σ H' => ∃ (j b : Nat) (acc : List Tok) (xs : List V) (iv : Option V), σ = [some (.int n), some (.str z), some (.ref p), some (.int j), some (.int b), iv] ∧ m = (tl z).length - j ∧ LTs (lineToks n (tl z)) H n z p j b acc xs H')
      (tl z).length ⟨0, 0, [], [], none, rfl, rfl, ⟨same_new hp, hp, upd_same, .nil, Nat.zero_le _, Nat.le_refl _, rfl⟩⟩ ?_
    rintro m σ H' ⟨j, b, acc, xs, iv, rfl, rfl, S⟩
    have hx0 := S.emp
    have hj := S.hj
    refine ⟨_, rfl, _, rfl, z, rfl, zs, _, _, rfl, rfl, _, rfl, ?_⟩
    by_cases c1 : j < z.length
    · refine ifT (decide_eq_true (by omega)) ?_
      refine ⟨_, fun _ _ h => h, ?_⟩
      refine ⟨_, rfl, _, rfl, z, j, _, rfl, rfl, by omega, by omega, by omega, sign_at (by omega), rfl, _, rfl, ?_⟩
      by_cases c2 : (tl z).getD j 0 = 32
      · refine ifT (decide_eq_true ((sp_eq _).mpr c2)) ?_
        refine ⟨_, rfl, _, _, rfl, rfl, ?_⟩
        exact ⟨(tl z).length - (j + 1), by omega, j + 1, b, acc, xs, iv, rfl, rfl, S.blank (by omega) c2⟩
      · refine ifF (decide_eq_false (fun h => c2 ((sp_eq _).mp h))) ?_
        have hg := tokEnd_gt (l := tl z) (i := j) (by omega)
        have hle := tokEnd_le (l := tl z) (i := j) (by omega)
        have hc := S.hc
        have hxl := S.len
        refine ⟨_, rfl, _, rfl, z, j, rfl, hz, by omega, ?_⟩
        refine ⟨_, rfl, !xs.isEmpty, .inl ⟨xs, SqL.of S.lst, rfl⟩, ?_⟩
        cases acc with
        | nil =>
          refine ifF (by rw [hx0]; rfl) ?_
          refine ⟨_, rfl, ?_⟩
          refine ⟨_, rfl, .inl ⟨rfl, _, SqL.of S.lst⟩, ?_⟩
          refine ⟨_, rfl, _, rfl, _, _, rfl, rfl, _, rfl, _, rfl, _, rfl, _, rfl, _, rfl, _, rfl, z, rfl, zs, (by show 4 ≤ sizeLine; decide), fun q hq => ?_⟩
          obtain ⟨acc', S'⟩ := S.tok (by omega) c2 hq rfl
          refine ⟨p, xs, .ref q, rfl, rfl, (by rw [upd_ne (ne_of_none S.lst hq)]; exact S.lst), (by rw [sizeLine_eq, hxl]; show 0 < _; omega), ?_⟩
          refine ⟨_, rfl, ?_⟩
          exact ⟨_, by omega, _, _, _, _, _, rfl, rfl, S'⟩
        | cons a r =>
          refine ifT (by rw [hx0]; rfl) ?_
          refine ⟨_, rfl, .inl ⟨rfl, _, SqL.of S.lst⟩, ?_⟩
          refine ⟨_, rfl, _, rfl, _, _, rfl, rfl, _, rfl, _, rfl, _, rfl, _, rfl, _, rfl, _, rfl, z, rfl, zs, (by show 4 ≤ sizeLine; decide), fun q hq => ?_⟩
          obtain ⟨acc', S'⟩ := S.tok (by omega) c2 hq rfl
          refine ⟨p, xs, .ref q, rfl, rfl, (by rw [upd_ne (ne_of_none S.lst hq)]; exact S.lst), (by rw [sizeLine_eq, hxl]; omega), ?_⟩
          refine ⟨_, rfl, ?_⟩
          exact ⟨_, by omega, _, _, _, _, _, rfl, rfl, S'⟩
    · refine ifF (decide_eq_false (by omega)) ?_
      have hc := S.hc
      have hxl := S.len
      have ge := go_end (n := n) (b := b) (acc := acc) (show ¬ j < (tl z).length by omega)
      have eg := S.eg
      refine ⟨_, rfl, !xs.isEmpty, .inl ⟨xs, SqL.of S.lst, rfl⟩, ?_⟩
      cases acc with
      | nil =>
        refine ifF (by rw [hx0]; rfl) ?_
        refine ⟨_, rfl, k p xs H' S.same hp S.lst ?_ (by rw [hxl]; exact Nat.zero_le _)⟩
        rw [ge, if_pos rfl] at eg
        rw [← eg]
        exact S.pr
      | cons a r =>
        refine ifT (by rw [hx0]; rfl) ?_
        refine ⟨_, rfl, .inl ⟨rfl, _, SqL.of S.lst⟩, ?_⟩
        refine ⟨_, rfl, _, rfl, _, _, rfl, rfl, (by show 4 ≤ sizeLine; decide), fun q hq => ?_⟩
        have hpq : p ≠ q := ne_of_none S.lst hq
        refine ⟨p, xs, .ref q, rfl, rfl, (by rw [upd_ne hpq]; exact S.lst), (by rw [sizeLine_eq, hxl]; omega), ?_⟩
        have kt : ∀ o, KT H' (upd (upd H' q o) p (.lst (xs ++ [V.ref q]))) := fun o => (KT.new hq).trans (KT.put (xs := xs) (by rw [upd_ne hpq]; exact S.lst))
        refine ⟨_, rfl, k p _ _ (fun c o e => ?_) hp upd_same ?_ (by rw [List.length_append, hxl]; show _ + 1 ≤ _; omega)⟩
        · rw [upd_ne (ne_of_none e hp), upd_ne (ne_of_none (S.same _ _ e) hq)]
          exact S.same _ _ e
        · rw [ge, if_neg (by simp)] at eg
          rw [← eg]
          refine paired_app (toks_keep (kt _) S.pr) (.cons ⟨q, rfl, ?_⟩ .nil)
          rw [upd_ne hpq.symm, upd_same]
          rfl
end
end K2

set_option Elab.async false
set_option linter.all false
set_option maxRecDepth 100000
set_option maxHeartbeats 2000000
namespace K2
open PySem PySem.Spec PyProof.Rows L2
open TL (tl)
/-! ### C.__init__(self, ..), C an own class that has ValueError's -/
structure CeC (K : PySem.W.Frag) (C : Addr) : Prop where
  rd : PySem.W.readsIn K C (.type "type") = true
  ga : PySem.W.specialIn K (.ref C) "__getattribute__" = some (some (.builtin "type.__getattribute__"))
  at_ : PySem.W.findCls K (.ref C) (.type "type") "__init__" = some (.val (.builtin "ValueError.__init__"))
section
variable {X : Cx} {o e : Expr} {es : List Expr} {to te : TE} {ta : TA} {f : Str} {p p' p1 p2 pos : Pos}
theorem pe_cinit {CE : Addr} {cn : Str} {pl : Sem Bool} (hg : Gl X cn) (hm : X.mg cn = some (.ref CE)) (T0 : CeC X.K CE) (ha : PA X (e :: es) ta) (hdb : (cn == ("__debug__" : Str)) = false := by decide)
    (hc : eval (.Call (.Attribute (.Name cn p1) "__init__" p2) (e :: es) [] pos) X.env = (do
      let ov ← eval (.Name cn p1) X.env
      standAt p2.atName
      let (f, first) ← holding [ov] (getMethod ov "__init__" pl)
      callWith pos f first (backTo pos (starEach (e :: es) X.env)) (backToKw pos (keywordEach [] X.env))) := by rfl)
    (he : starEach (e :: es) X.env = (false, eval e X.env) :: starEach es X.env := by rfl) (hpl : (backTo pos (starEach es X.env)).any (·.1) = false := by rfl) :
    PE X (.Call (.Attribute (.Name cn p1) "__init__" p2) (e :: es) [] pos) (tVeI X.K ta) := by
  refine ⟨fun pins s σ H Q I h => ?_⟩
  refine PySem.W.methodCall_KW (ld_glob I hg hm ?_ hdb) hc
  refine PySem.W.method_cls I.kIn T0.ga (PySem.W.cls_value I.kIn T0.rd T0.at_ (by decide +kernel) ?_)
  show wpAny _ _ (callWith pos (Value.builtin "ValueError.__init__") [] (backTo pos (starEach (e :: es) X.env)) []) _ _ _
  refine PyProof.Rows.callWith_method1 (thn (ha.run pos pins _ σ H _ (I.tok _) h) fun us s1 ⟨vs, H1, I1, r1, a, C, ws, ev, hl, T, ea, q⟩ => ?_) he hpl
  subst ev
  cases r1 with
  | @cons _ u0 _ ur ra rw' =>
    obtain rfl : u0 = Value.ref a := ra
    have hlen : ur.length ≤ sizeLine := by
      rw [← Paired.length rw', sizeLine_eq]
      omega
    exact oinit_ok T I1 ea hlen fun s' J => ⟨.non, H1, J, rfl, q⟩
end
/-- BadText.__init__(self, line, column) -/
def spInit (K : PySem.W.Frag) (C : Addr) : Sp := fun vs H Q _ => ∃ (a : Addr) (l c : V), vs = [.ref a, l, c] ∧ H a = some (exo a C none) ∧
  ∀ (d : Addr) (H' : Hp), H d = none → d ≠ a → H' a = some (exo a C (some d)) → H' d = some (exd d [("column", c), ("line", l)]) → (∀ b, b ≠ a → b ≠ d → H' b = H b) → Q .non H'
/-- what the text says of the two classes -/
structure MgC (K : PySem.W.Frag) (mg : Str → Option Value) (CE C : Addr) : Prop where
  mCE : mg "ClockError" = some (.ref CE)
  ce : CeC K CE
  ox : OexC K C
  nl : PySem.W.findIn K (.ref C) "line" = some none
  nc : PySem.W.findIn K (.ref C) "column" = some none
section
variable {P : Program} {w : World} {K : PySem.W.Frag} {mg : Str → Option Value} {base : Heap}
theorem scI : FnScope ["self", "line", "column"] ["self", "line", "column"] (defScope sInit) := ⟨rfl, rfl, rfl, by decide +kernel, rfl, by decide +kernel, by decide +kernel⟩
theorem ok_init {f CE C : Addr} {fd : FuncData} (F : Fun K "__init__" "BadText.__init__" sInit f fd) (T : MgC K mg CE C) : FnOk P w K mg base CX0 1 f fd ["self", "line", "column"] (spInit K C) := by
  refine F.ok scI (fun vs H Q E h => ?_) (fun cdv A outer s H vs Q E hr h => ?_)
  · obtain ⟨a, l, c, rfl, _⟩ := h
    rfl
  · obtain ⟨a, l, c, rfl, ha, k⟩ := h
    refine ⟨_, pss_cons (ps_expr (pe_cinit (by rfl) T.mCE T.ce (pa_cons (pv 0) (pa_cons pe_str pa_nil)))) (pss_cons (ps_ost (pv 0) (pv 1)) (pss_one (ps_ost (pv 0) (pv 2)))), ?_⟩
    refine ⟨_, rfl, a, C, [_], rfl, (by decide), T.ox, ha, ?_⟩
    refine ⟨_, rfl, _, rfl, a, C, rfl, T.ox, T.nl, .inl ⟨ha, fun dx ndx dne => ?_⟩⟩
    have h1 : (upd (upd H dx (exd dx [("line", l)])) a (exo a C (some dx))) dx = some (exd dx [("line", l)]) := by rw [upd_ne dne, upd_same]
    refine ⟨_, rfl, _, rfl, a, C, rfl, T.ox, T.nc, .inr ⟨dx, [("line", l)], upd_same, h1, (by show 1 ≤ 900; decide), ?_⟩⟩
    refine k dx _ ndx dne (by rw [upd_ne dne.symm, upd_same]) upd_same fun b ha' hd' => ?_
    rw [upd_ne hd', upd_ne ha', upd_ne hd']
end
end K2

set_option Elab.async false
set_option linter.all false
set_option maxRecDepth 100000
set_option maxHeartbeats 2000000
namespace K2
open PySem PySem.Spec PyProof.Rows L2
open TL (tl spl par pre)
/-! ### enumerate -/
theorem for_enum {K : PySem.W.Frag} {a : Addr} {xs : List V} {g : TG} {tb : TS} {D : Ends} {σ : L2.St} {H : Hp} (Pv : Nat → L2.St → Hp → Prop) (h0 : Pv 0 σ H) (hl : ∀ i σ H, i ≤ xs.length → Pv i σ H → SqL K H a xs)
    (hs : ∀ i x T σ H, xs[i]? = some x → Pv i σ H → H T = none → g (.ref T) σ (upd H T (.tup [.int (i : Nat), x])) fun σ2 H2 => tb { D with nx := Pv (i + 1), ct := Pv (i + 1), bk := D.nx } σ2 H2) (hd : ∀ σ H, Pv xs.length σ H → D.nx σ H) :
    ∃ W : Nat → Nat → L2.St → Hp → Prop, (∃ m, W 0 m σ H) ∧ ∀ i m σ H, W i m σ H →
      ((Ite K a).stop i H ∧ D.nx σ H) ∨ ((Ite K a).go i H ∧ ∃ N : L2.St → Hp → Prop, (∀ σ' H', N σ' H' → ∃ m', m' < m ∧ W (i + 1) m' σ' H') ∧ ∀ x H', (Ite K a).yld i H x H' → g x σ H' fun σ2 H2 => tb { D with nx := N, ct := N, bk := D.nx } σ2 H2) := by
  refine ⟨fun i m σ H => m = xs.length - i ∧ i ≤ xs.length ∧ Pv i σ H, ⟨xs.length, by simp, Nat.zero_le _, h0⟩, ?_⟩
  rintro i m σ H ⟨rfl, hi, p⟩
  have q := hl i σ H hi p
  by_cases hlt : i < xs.length
  · refine .inr ⟨⟨xs, xs[i], q, by simp [hlt]⟩, Pv (i + 1), fun σ' H' p' => ⟨xs.length - (i + 1), by omega, rfl, hlt, p'⟩, fun v H' y => ?_⟩
    obtain ⟨T, x, rfl, hT, rfl, hx⟩ := y
    exact hs i x T σ H (hx xs q) p hT
  · have e : i = xs.length := by omega
    subst e
    exact .inl ⟨⟨xs, q, Nat.le_refl _⟩, hd σ H p⟩
/-! ### split and partition -/
theorem spl_len (S : List Nat) : ∀ (l : List Nat) (k : Nat) (acc : List Nat), (spl S k acc l).length ≤ l.length + 1
  | [], k, acc => by cases k <;> exact Nat.le_refl _
  | c :: r, 0, acc => by
    unfold spl
    split
    · have := spl_len S r (S.length - 1) []
      simp only [List.length_cons]
      omega
    · have := spl_len S r 0 (acc ++ [c])
      simp only [List.length_cons]
      omega
  | c :: r, k + 1, acc => by
    unfold spl
    have := spl_len S r k acc
    simp only [List.length_cons]
    omega
theorem spl_part_len (S : List Nat) : ∀ (l : List Nat) (k : Nat) (acc : List Nat), ∀ p ∈ spl S k acc l, p.length ≤ acc.length + l.length
  | [], k, acc => by
    intro p hp
    have e : spl S k acc [] = [acc] := by cases k <;> rfl
    rw [e] at hp
    have := List.mem_singleton.mp hp
    subst this
    simp
  | c :: r, 0, acc => by
    intro p hp
    unfold spl at hp
    split at hp
    · rcases List.mem_cons.mp hp with h | h
      · subst h; omega
      · have := spl_part_len S r (S.length - 1) [] p h
        simp only [List.length_cons, List.length_nil] at *
        omega
    · have := spl_part_len S r 0 (acc ++ [c]) p hp
      simp only [List.length_cons, List.length_append, List.length_nil] at *
      omega
  | c :: r, k + 1, acc => by
    intro p hp
    unfold spl at hp
    have := spl_part_len S r k acc p hp
    simp only [List.length_cons] at *
    omega
def etS : Str := ""
def hash : Str := "#"
theorem tl_nl : tl nlS = [10] := by decide +kernel
theorem tl_hash : tl hash = [35] := by decide +kernel
theorem nl_kind (x : Str) : ¬ Builtin.Str.strKind x < Builtin.Str.strKind nlS := TL.kind_ok (by decide +kernel)
theorem hash_kind (x : Str) : ¬ Builtin.Str.strKind x < Builtin.Str.strKind hash := TL.kind_ok (by decide +kernel)
theorem rows_len (z : Str) : (Txt.split z nlS).length ≤ z.length + 1 := by
  have h := TL.split_spl z nlS (by rw [tl_nl]; simp) (nl_kind z)
  have h1 := spl_len (tl nlS) (tl z) 0 []
  rw [← h, List.length_map] at h1
  rw [TL.len_tl z]
  exact h1
theorem row_len {z r : Str} (hr : r ∈ Txt.split z nlS) : r.length ≤ z.length := by
  have h := TL.split_spl z nlS (by rw [tl_nl]; simp) (nl_kind z)
  have h1 := spl_part_len (tl nlS) (tl z) 0 [] (tl r) (by rw [← h]; exact List.mem_map.mpr ⟨r, hr, rfl⟩)
  rw [TL.len_tl z, TL.len_tl r]
  simpa using h1
/-- a row up to its remark -/
def bodyOf (x : Str) : Str := (Txt.partition x hash).1
theorem par_len (S : List Nat) : ∀ (l acc a b : List Nat), par S acc l = some (a, b) → a.length ≤ acc.length + l.length
  | [], acc, a, b => by
    intro h
    cases h
  | c :: r, acc, a, b => by
    intro h
    unfold par at h
    split at h
    · have h1 := Option.some.inj h
      have h2 : acc = a := congrArg Prod.fst h1
      subst h2
      omega
    · have := par_len S r (acc ++ [c]) a b h
      simp only [List.length_cons, List.length_append, List.length_nil] at *
      omega
theorem body_len (x : Str) : (bodyOf x).length ≤ x.length := by
  unfold bodyOf
  rw [TL.partition_par x hash (by rw [tl_hash]; simp)]
  cases e : par (tl hash) [] (tl x) with
  | none => exact Nat.le_refl _
  | some p =>
    obtain ⟨a, b⟩ := p
    have h := par_len _ _ _ _ _ e
    show a.toArray.size ≤ _
    rw [TL.len_tl x]
    simpa using h
theorem spl_head {S : List Nat} : ∀ (l acc : List Nat), (spl S 0 acc l)[0]? = some (match par S acc l with | some (a, _) => a | none => acc ++ l)
  | [], acc => by
    show some acc = some (acc ++ [])
    rw [List.append_nil]
  | c :: r, acc => by
    unfold spl par
    split
    · rfl
    · rw [spl_head r (acc ++ [c])]
      cases par S (acc ++ [c]) r with
      | some p => rfl
      | none =>
        show some (acc ++ [c] ++ r) = some (acc ++ c :: r)
        rw [List.append_assoc]
        rfl
/-- what split gives first is what partition gives first -/
theorem split_head (x : Str) : (Txt.split x hash)[0]? = some (bodyOf x) := by
  have h := TL.split_spl x hash (by rw [tl_hash]; simp) (hash_kind x)
  have h1 := spl_head (S := tl hash) (tl x) []
  rw [← h, List.getElem?_map] at h1
  cases e : (Txt.split x hash)[0]? with
  | none =>
    rw [e] at h1
    cases h1
  | some y =>
    rw [e] at h1
    have h2 := Option.some.inj h1
    congr 1
    refine TL.ext_tl ?_
    rw [h2]
    unfold bodyOf
    rw [TL.partition_par x hash (by rw [tl_hash]; simp)]
    cases par (tl hash) [] (tl x) with
    | some p => rfl
    | none => exact List.nil_append _
/-! ### the tokens of a text -/
def rowsToks : Nat → List Str → List Tok
  | _, [] => []
  | i, r :: rs => lineToks ((i : Int) + 1) (tl (bodyOf r)) ++ rowsToks (i + 1) rs
def allToks (z : Str) : List Tok := rowsToks 0 (Txt.split z nlS) ++ [⟨((Txt.split z nlS).length : Int) + 1, 1, none, etS⟩]
end K2

set_option Elab.async false
set_option linter.all false
set_option maxRecDepth 100000
set_option maxHeartbeats 2000000
namespace K2
open PySem PySem.Spec PyProof.Rows L2
open TL (tl)
def spTO (K : PySem.W.Frag) (C : Addr) : Sp := fun vs H Q E =>
  (∃ z : Str, vs = [.str z] ∧ z.length ≤ 2000 ∧ ∀ (p : Addr) (xs : List V) (H' : Hp), Same H H' → H p = none → H' p = some (.lst xs) → Paired (TokAt H') xs (allToks z) → xs.length ≤ 5000000 → Q (.ref p) H') ∨
  (∃ (v : V) (t : Value), vs = [v] ∧ TyX K H v t ∧ PySem.W.kitOne K t (.type "str") = some false ∧ ∀ (d : Addr) (H' : Hp), Same H H' → H d = none → H' d = some (.xd [("column", .int 1), ("line", .int 1)]) → E (.ref C) (some d) H')
structure MgT (K : PySem.W.Frag) (mg : Str → Option Value) (CE C fI fTE fLT : Addr) : Prop extends MgC K mg CE C, MgL K mg fTE where
  mC : mg "BadText" = some (.ref C)
  iC : PySem.W.findIn K (.ref C) "__init__" = some (some (.ref fI))
  tI : PySem.W.typeIn K (.ref fI) = some (.type "function")
  lt : mg "_line_tokens" = some (.ref fLT)
  klt : PySem.W.keepIn K (.ref fLT) = true
  isi : mg "isinstance" = none
  str : mg "str" = none
  enu : mg "enumerate" = none
  et : ∃ t, mg "END_OF_TEXT" = some (.str etS t)
section
variable {X : Cx} {o e : Expr} {to te : TE} {apos cpos : Pos}
theorem qExt (ho : PE X o to) (he : PE X e te) (hbase : attributeBase o "extend" X.env (eval o X.env) = eval o X.env := by rfl)
    (hfew : ((backTo cpos (starEach (e :: []) X.env)).all (fun x => !x.1) && (backToKw cpos (keywordEach [] X.env)).all (fun x => x.1.isSome)
      && decide ((e :: ([] : List Expr)).length + ([] : List Keyword).length + (if ([] : List Keyword).isEmpty then 0 else 1) < 30)) = true := by rfl)
    (hline : (apos.endLine == cpos.line) = true := by rfl) (hs : starEach (e :: []) X.env = (false, eval e X.env) :: starEach [] X.env := by rfl) (hplain : (backTo cpos (starEach [] X.env)).any (·.1) = false := by rfl) :
    PE X (.Call (.Attribute o "extend" apos) [e] [] cpos) (tBM X.K "list" rExtend to (tCons te tNil)) :=
  pe_bm PySem.F.plainAttrs_list PySem.F.slot_list_extend PySem.F.type_list_extend mt_extend ho (pa_cons he pa_nil hs) hbase hfew hline hs hplain
end
theorem rowsToks_step {i : Nat} {rows : List Str} {r : Str} (h : rows[i]? = some r) : rowsToks i (rows.drop i) = lineToks ((i : Int) + 1) (tl (bodyOf r)) ++ rowsToks (i + 1) (rows.drop (i + 1)) := by
  obtain ⟨h1, h2⟩ := List.getElem?_eq_some_iff.mp h
  rw [List.drop_eq_getElem_cons h1, h2]
  rfl
structure TOs (H : Hp) (rows : List Str) (L p : Addr) (i : Nat) (acc : List Tok) (xs : List V) (H' : Hp) : Prop where
  same : Same H H'
  nL : H L = none
  np : H p = none
  rws : H' L = some (.lst (rows.map V.str))
  lst : H' p = some (.lst xs)
  pr : Paired (TokAt H') xs acc
  eg : acc ++ rowsToks i (rows.drop i) = rowsToks 0 rows
  cnt : xs.length ≤ i * 2001
theorem TOs.ne {H : Hp} {rows : List Str} {L p : Addr} {i : Nat} {acc : List Tok} {xs : List V} {H' : Hp} (S : TOs H rows L p i acc xs H') (h : L ≠ p) {q : Addr} {r : Str} (hr : rows[i]? = some r) {ys : List V} {H1 : Hp}
    (s1 : Same H' H1) (h1 : H1 q = some (.lst ys)) (hq : H' q = none) (pr : Paired (TokAt H1) ys (lineToks ((i : Int) + 1) (tl (bodyOf r)))) (hy : ys.length ≤ 2001) :
    TOs H rows L p (i + 1) (acc ++ lineToks ((i : Int) + 1) (tl (bodyOf r))) (xs ++ ys) (upd H1 p (.lst (xs ++ ys))) := by
  have hp1 := s1 _ _ S.lst
  have kt : KT H1 (upd H1 p (.lst (xs ++ ys))) := KT.put hp1
  refine ⟨fun c o e => ?_, S.nL, S.np, ?_, upd_same, paired_app (toks_keep ((KT.of s1).trans kt) S.pr) (toks_keep kt pr), ?_, ?_⟩
  · rw [upd_ne (ne_of_none e S.np)]
    exact s1 _ _ (S.same _ _ e)
  · rw [upd_ne h]
    exact s1 _ _ S.rws
  · rw [List.append_assoc, ← rowsToks_step hr]
    exact S.eg
  · rw [List.length_append]
    have := S.cnt
    omega
section
variable {P : Program} {w : World} {K : PySem.W.Frag} {mg : Str → Option Value} {base : Heap}
theorem scTO : FnScope ["text", "lines", "tokens", "at", "line"] ["text"] (defScope sTO) := ⟨rfl, rfl, rfl, by decide +kernel, rfl, by decide +kernel, by decide +kernel⟩
theorem ok_TO {f CE C fI fTE fLT : Addr} {fd fdI fdTE fdLT : FuncData} (F : Fun K "tokens_of" "tokens_of" sTO f fd) (T : MgT K mg CE C fI fTE fLT)
    (FI : Fun K "__init__" "BadText.__init__" sInit fI fdI) (bI : L2.Binds K fdI ["self", "line", "column"] []) (FTE : Fun K "_token_end" "_token_end" sTE fTE fdTE) (bTE : L2.Binds K fdTE ["line", "at"] [])
    (FLT : Fun K "_line_tokens" "_line_tokens" sLT fLT fdLT) (bLT : L2.Binds K fdLT ["number", "line"] []) : FnOk P w K mg base (L2.CX P w) 3 f fd ["text"] (spTO K C) := by
  have GI : FnOk P w K mg base CX0 1 fI fdI ["self", "line", "column"] (spInit K C) := ok_init FI T.toMgC
  have GLT : FnOk P w K mg base CX0 2 fLT fdLT ["number", "line"] spLT := ok_LT FLT T.toMgL FTE bTE
  refine F.okX scTO (fun vs H Q E h => ?_) (fun cdv A outer s H vs Q E hr h => ?_)
  · rcases h with ⟨z, rfl, _⟩ | ⟨v, t, rfl, _⟩ <;> rfl
  · obtain ⟨te, me⟩ := T.et
    refine ⟨_, pss_cons (ps_if (pt_not (pt_val (pe_callB call_isi (by rfl) T.isi (by decide +kernel) (pa_cons (pv 0) (pa_cons (pe_bltn (v := .ty "str") (by rfl) T.str boot_str rfl) pa_nil)))))
        (pss_one (ps_raise rfl (takes_of rfl rfl rfl rfl) (pmk_oex T.ox T.iC T.tI GI hr bI .nil pass0 (by rfl) T.mC (pa_cons pe_int (pa_cons pe_int pa_nil))))) pss_nil)
      (PSs.nox (pss_cons (ps_set (i := 1) scTO.nd rfl (Or.inl rfl) (pe_split (pv 0) pe_str))
      (pss_cons (ps_set (i := 2) scTO.nd rfl (Or.inl rfl) (pe_lst pa_nil))
      (pss_cons (ps_for PassesOwn.never rfl (pi_enum (by rfl) T.enu (pa_cons (pv 1) pa_nil)) (pg_tup rfl (pgs_cons (pg_name (i := 3) scTO.nd rfl (Or.inl rfl)) (pgs_cons (pg_name (i := 4) scTO.nd rfl (Or.inl rfl)) pgs_nil)))
        (pss_one (ps_expr (qExt (pv 2) (pe_call GLT hr (by rfl) T.lt T.klt bLT .nil pass0 (pa_cons (pe_op op_add (pv 3) pe_int) (pa_cons (pe_ix ix_tup (pe_partition (pv 4) pe_str) pe_int (fun _ _ => rfl)) pa_nil)))))))
      (pss_cons (ps_expr (qApp (pv 2) (pe_tup (pa_cons (pe_op op_add (pe_callB call_len_seq (by rfl) T.len PySem.boot_len (pa_cons (pv 1) pa_nil)) pe_int) (pa_cons pe_int (pa_cons pe_non (pa_cons (pe_glob (v := .str etS) (by rfl) me ⟨_, rfl⟩) pa_nil)))))))
      (pss_one (ps_ret (pv 2)))))))), ?_⟩
    rcases h with ⟨z, rfl, hz, k⟩ | ⟨v, t, rfl, ht, hk, k⟩
    · have zs : z.length + 2 ≤ sizeLine := by rw [sizeLine_eq]; omega
      refine ⟨_, rfl, _, _, _, _, true, rfl, .ty "str", .base (.str z), kit_ty (by decide +kernel), _, rfl, ?_⟩
      refine ifF rfl ?_
      refine ⟨_, rfl, ⟨_, rfl⟩, z, nlS, rfl, rfl, (by decide +kernel), zs, fun L hL => ?_⟩
      refine ⟨Nat.zero_le _, fun p hp => ?_⟩
      have hLp : L ≠ p := ne_of_none upd_same hp
      have hpH : H p = none := (same_new hL).free hp
      refine ⟨_, rfl, L, (Txt.split z nlS).map V.str, rfl, SqL.of (by rw [upd_ne hLp, upd_same]), for_enum (K := K) (a := L) (xs := (Txt.split z nlS).map V.str)
        (fun i σ H' => ∃ (acc : List Tok) (xs : List V) (av lv : Option V), σ = [some (.str z), some (.ref L), some (.ref p), av, lv] ∧ TOs H (Txt.split z nlS) L p i acc xs H')
        ⟨[], [], none, none, rfl, (same_new hL).trans (same_new hp), hL, hpH, by rw [upd_ne hLp, upd_same], upd_same, .nil, rfl, Nat.zero_le _⟩
        (fun i σ H' _ ⟨_, _, _, _, _, S⟩ => SqL.of S.rws) ?_ ?_⟩
      · rintro i x Ta σ H' hi ⟨acc, xs, av, lv, rfl, S⟩ hT
        rw [List.getElem?_map] at hi
        obtain ⟨r, hr, rfl⟩ := Option.map_eq_some_iff.mp hi
        have hrl : r.length ≤ z.length := row_len (List.mem_of_getElem? hr)
        have hbl := body_len r
        have hil : i < (Txt.split z nlS).length := (List.getElem?_eq_some_iff.mp hr).1
        have hn := rows_len z
        refine ⟨Ta, _, rfl, .inl (.inl upd_same), (by rfl), _, _, rfl, _, _, rfl, rfl, ?_⟩
        refine ⟨_, rfl, .inl ⟨rfl, _, SqL.of (by rw [upd_ne (ne_of_none S.lst hT)]; exact S.lst)⟩, ?_⟩
        refine ⟨_, rfl, _, _, rfl, rfl, ?_⟩
        refine ⟨_, rfl, ⟨_, rfl⟩, r, hash, rfl, rfl, (by decide +kernel), (by rw [sizeLine_eq]; omega), fun q hq => ?_⟩
        refine ⟨q, _, 0, _, rfl, rfl, .inl (.inl upd_same), atI_nat (j := 0) rfl, ?_⟩
        have sc := (same_new (o := .tup [V.int (i : Nat), V.str r]) hT).trans (same_new (o := .tup [.str (Txt.partition r hash).1, .str (Txt.partition r hash).2.1, .str (Txt.partition r hash).2.2]) hq)
        refine ⟨(i : Int) + 1, bodyOf r, rfl, by omega, fun b ys H1 s1 hb1 hb2 pr hy => ?_⟩
        have hc := S.cnt
        refine ⟨p, b, xs, ys, rfl, rfl, s1 _ _ (sc _ _ S.lst), hb2, ?_, ?_⟩
        · rw [sizeLine_eq]
          have : i * 2001 ≤ 2001 * 2001 := Nat.mul_le_mul_right _ (by omega)
          omega
        · exact ⟨_, _, _, _, rfl, S.ne hLp hr (sc.trans s1) hb2 (sc.free hb1) pr hy⟩
      · rw [List.length_map]
        rintro σ H' ⟨acc, xs, av, lv, rfl, S⟩
        have hc := S.cnt
        have hn := rows_len z
        have hcl : (Txt.split z nlS).length * 2001 ≤ 2001 * 2001 := Nat.mul_le_mul_right _ (by omega)
        have eg := S.eg
        rw [List.drop_length] at eg
        have eg : acc ++ [] = rowsToks 0 (Txt.split z nlS) := eg
        rw [List.append_nil] at eg
        refine ⟨_, rfl, .inl ⟨rfl, _, SqL.of S.lst⟩, ?_⟩
        refine ⟨_, rfl, L, _, rfl, .inl (SqL.of S.rws), _, _, rfl, rfl, (by show 4 ≤ sizeLine; decide), fun q hq => ?_⟩
        have hpq : p ≠ q := ne_of_none S.lst hq
        refine ⟨p, xs, .ref q, rfl, rfl, (by rw [upd_ne hpq]; exact S.lst), (by rw [sizeLine_eq]; omega), ?_⟩
        have kt : ∀ o, KT H' (upd (upd H' q o) p (.lst (xs ++ [V.ref q]))) := fun o => (KT.new hq).trans (KT.put (xs := xs) (by rw [upd_ne hpq]; exact S.lst))
        refine ⟨_, rfl, k p _ _ (fun c o e => ?_) hpH upd_same ?_ (by rw [List.length_append]; show _ + 1 ≤ _; omega)⟩
        · rw [upd_ne (ne_of_none e hpH), upd_ne (ne_of_none (S.same _ _ e) hq)]
          exact S.same _ _ e
        · unfold allToks
          rw [← eg]
          refine paired_app (toks_keep (kt _) S.pr) (.cons ⟨q, rfl, ?_⟩ .nil)
          rw [upd_ne hpq.symm, upd_same, List.length_map]
          rfl
    · refine ⟨_, rfl, _, _, t, _, false, rfl, .ty "str", ht, hk, _, rfl, ?_⟩
      refine ifT rfl ?_
      refine ⟨(by show 2 ≤ 1000; decide), fun a ha => ?_⟩
      refine ⟨a, .int 1, .int 1, rfl, upd_same, fun d H' hd hda h1 h2 hk2 => ⟨rfl, d, _, h1, h2, ?_, ?_⟩⟩
      · rw [upd_ne hda] at hd
        exact hd
      · rw [upd_ne hda] at hd
        refine k d _ (fun b o e => ?_) hd upd_same
        have hba : b ≠ a := ne_of_none e ha
        have hbd : b ≠ d := ne_of_none e hd
        rw [upd_ne hbd, del_ne hba, hk2 b hba hbd, upd_ne hba]
        exact e
end
end K2

set_option Elab.async false
set_option linter.all false
set_option pp.maxSteps 700
set_option maxRecDepth 100000
set_option maxHeartbeats 2000000
namespace K2
open PySem PySem.Spec PyProof.Rows L2
open TL (tl)
theorem while_q {c : TT} {tb : TS} {D : Ends} {σ : L2.St} {H : Hp} (Pv : Nat → L2.St → Hp → Prop) (m : Nat) (Post : L2.St → Hp → Prop) (h0 : Pv m σ H)
    (hs : ∀ X : L2.St → Hp → Prop, (∀ σ H, Post σ H → X σ H) → ∀ n σ H, Pv n σ H → c σ H fun b H1 => if b = true then ∃ N : L2.St → Hp → Prop, (∀ σ' H', N σ' H' → ∃ m', m' < n ∧ Pv m' σ' H') ∧ tb { D with nx := N, ct := N, bk := D.nx } σ H1 else X σ H1)
    (hp : ∀ σ H, Post σ H → D.nx σ H) : tWhile c tb D σ H :=
  ⟨Pv, ⟨m, h0⟩, hs D.nx hp⟩
abbrev sGT : Stmt := top 18
def spGT : Sp := fun vs H Q E =>
  ∃ z : Str, vs = [.str z] ∧ z.length ≤ 2000 ∧ ∀ (p : Addr) (xs : List V) (H' : Hp), Same H H' → H p = none → H' p = some (.lst xs) → Paired (TokAt H') xs (allToks z) → xs.length ≤ 5000000 → Q (.ref p) H'
structure MgG (mg : Str → Option Value) : Prop where
  len : mg "len" = none
  enu : mg "enumerate" = none
theorem isW_sp : isW 32 = false := by decide +kernel
theorem tokEnd_sp {l : List Nat} {j : Nat} (h : l.getD j 0 = 32) : tokEnd l j = j + 1 := by
  unfold tokEnd
  rw [h, isW_sp]
  rfl
/-- the law's own turn: found holds acc0 and the tokens of this row so far -/
structure GTs (R : List Tok) (H : Hp) (n : Int) (z : Str) (p L : Addr) (rs : List V) (acc0 : List Tok) (c0 : Nat) (j b : Nat) (acc : List Tok) (xs : List V) (H' : Hp) : Prop where
  same : Same H H'
  np : H p = none
  lst : H' p = some (.lst xs)
  rws : H' L = some (.lst rs)
  pL : L ≠ p
  pr : Paired (TokAt H') xs (acc0 ++ acc)
  hj : j ≤ (tl z).length
  b0 : b = 0 ↔ acc = []
  cnt : xs.length ≤ c0 + j
  eg : go n (tl z) j acc b = R
section
variable {R : List Tok} {H : Hp} {n : Int} {z : Str} {p L : Addr} {rs : List V} {acc0 : List Tok} {c0 : Nat} {j b : Nat} {acc : List Tok} {xs : List V} {H' : Hp}
theorem GTs.blank (S : GTs R H n z p L rs acc0 c0 j b acc xs H') (h : j < (tl z).length) (hb : (tl z).getD j 0 = 32) : GTs R H n z p L rs acc0 c0 (j + 1) b acc xs H' :=
  ⟨S.same, S.np, S.lst, S.rws, S.pL, S.pr, h, S.b0, Nat.le_succ_of_le S.cnt, by rw [← S.eg, go_blank h hb]⟩
theorem GTs.put (S : GTs R H n z p L rs acc0 c0 j b acc xs H') {q : Addr} (hq : H' q = none) {vs : List V} {t : Tok} (hv : vs = t.vs) :
    Same H (upd (upd H' q (.tup vs)) p (.lst (xs ++ [V.ref q]))) ∧ (upd (upd H' q (.tup vs)) p (.lst (xs ++ [V.ref q]))) L = some (.lst rs) ∧
    Paired (TokAt (upd (upd H' q (.tup vs)) p (.lst (xs ++ [V.ref q])))) (xs ++ [.ref q]) (acc0 ++ (acc ++ [t])) := by
  have hpq : p ≠ q := ne_of_none S.lst hq
  have kt : KT H' (upd (upd H' q (.tup vs)) p (.lst (xs ++ [V.ref q]))) := (KT.new hq).trans (KT.put (xs := xs) (by rw [upd_ne hpq]; exact S.lst))
  refine ⟨fun c o e => ?_, ?_, ?_⟩
  · rw [upd_ne (ne_of_none e S.np), upd_ne (ne_of_none (S.same _ _ e) hq)]
    exact S.same _ _ e
  · rw [upd_ne S.pL, upd_ne (ne_of_none S.rws hq)]
    exact S.rws
  · rw [← List.append_assoc]
    refine paired_app (toks_keep kt S.pr) (.cons ⟨q, rfl, ?_⟩ .nil)
    rw [upd_ne hpq.symm, upd_same, hv]
theorem GTs.tok (S : GTs R H n z p L rs acc0 c0 j b acc xs H') (h : j < (tl z).length) (hb : (tl z).getD j 0 ≠ 32) {q : Addr} (hq : H' q = none)
    {vs : List V} (hv : vs = [V.int n, V.int ((j : Int) + 1), ixV (if b = 0 then some (j : Int) else none), V.str (cutS z (some (j : Int)) (some ((tokEnd (tl z) j : Nat) : Int)))]) :
    ∃ acc', GTs R H n z p L rs acc0 c0 (tokEnd (tl z) j) (tokEnd (tl z) j) acc' (xs ++ [.ref q]) (upd (upd H' q (.tup vs)) p (.lst (xs ++ [V.ref q]))) := by
  have hlen : z.length = (tl z).length := TL.len_tl z
  have hg := tokEnd_gt h
  have hle := tokEnd_le h
  have e : vs = Tok.vs ⟨n, (j : Int) + 1, (if acc = [] then some (j : Int) else none), cut (tl z) j (tokEnd (tl z) j)⟩ := by
    rw [hv, cutS_cut (by omega) (by omega)]
    unfold Tok.vs
    have e2 : (if b = 0 then some (j : Int) else none) = (if acc = [] then some (j : Int) else none) := by
      by_cases hb0 : b = 0
      · rw [if_pos hb0, if_pos (S.b0.mp hb0)]
      · rw [if_neg hb0, if_neg (fun h => hb0 (S.b0.mpr h))]
    rw [e2]
    rfl
  obtain ⟨h1, h2, h3⟩ := S.put hq e
  refine ⟨_, ⟨h1, S.np, upd_same, h2, S.pL, h3, hle, ⟨fun z => by omega, fun z => by simp at z⟩, ?_, ?_⟩⟩
  · rw [List.length_append]
    have := S.cnt
    show xs.length + 1 ≤ _
    omega
  · rw [← S.eg, go_tok h hb]
theorem TOs.next {rows : List Str} {i : Nat} (S0 : TOs H rows L p i acc0 xs H') {r : Str} (hr : rows[i]? = some r) {H1 : Hp} {ys : List V} (s : Same H H1) (h1 : H1 L = some (.lst (rows.map V.str))) (h2 : H1 p = some (.lst ys))
    (pr : Paired (TokAt H1) ys (acc0 ++ lineToks ((i : Int) + 1) (tl (bodyOf r)))) (hc : ys.length ≤ xs.length + 2001) : TOs H rows L p (i + 1) (acc0 ++ lineToks ((i : Int) + 1) (tl (bodyOf r))) ys H1 := by
  refine ⟨s, S0.nL, S0.np, h1, h2, pr, ?_, ?_⟩
  · rw [List.append_assoc, ← rowsToks_step hr]
    exact S0.eg
  · have := S0.cnt
    omega
end
theorem sp_ne (c : Nat) : decide (V.str ⟨#[c]⟩ = V.str (" " : Str)) = decide (c = 32) := decide_eq_decide.mpr (sp_eq c)
theorem split_at0 (r : Str) : atI ((Txt.split r hash).map V.str) 0 = some (.str (bodyOf r)) := by
  refine atI_nat (j := 0) ?_
  rw [List.getElem?_map, split_head]
  rfl
section
variable {P : Program} {w : World} {K : PySem.W.Frag} {mg : Str → Option Value} {base : Heap}
theorem scGT : FnScope ["text", "letters", "found", "rows", "at", "row", "spot", "end", "begin"] ["text"] (defScope sGT) := ⟨rfl, rfl, rfl, by decide +kernel, rfl, by decide +kernel, by decide +kernel⟩
theorem ok_GT {f : Addr} {fd : FuncData} (F : Fun K "_law_tx_tokens" "_law_tx_tokens" sGT f fd) (T : MgG mg) : FnOk P w K mg base CX0 1 f fd ["text"] spGT := by
  refine F.ok scGT (fun vs H Q E h => ?_) (fun cdv A outer s H vs Q E hr h => ?_)
  · obtain ⟨z, rfl, _⟩ := h
    rfl
  · obtain ⟨z, rfl, hz, k⟩ := h
    refine ⟨_, pss_cons (ps_set (i := 1) scGT.nd rfl (Or.inl rfl) pe_str)
      (pss_cons (ps_par (i := 2) (j := 3) (by rfl) scGT.nd rfl rfl (by decide) rfl rfl (pa_cons (pe_lst pa_nil) (pa_cons (pe_split (pv 0) pe_str) pa_nil)) (by rfl))
      (pss_cons (ps_for PassesOwn.never rfl (pi_enum (by rfl) T.enu (pa_cons (pv 3) pa_nil)) (pg_tup (by rfl) (pgs_cons (pg_name (i := 4) scGT.nd rfl (Or.inl rfl)) (pgs_cons (pg_name (i := 5) scGT.nd rfl (Or.inl rfl)) pgs_nil)))
        (pss_cons (ps_par3 (i := 5) (j := 6) (l := 7) (by rfl) scGT.nd rfl rfl rfl (by decide) (by decide) (by decide) rfl rfl rfl (pa_cons (pe_ix ix_list (pe_split (pv 5) pe_str) pe_int (fun _ _ => rfl)) (pa_cons pe_int (pa_cons pe_int pa_nil))) (by rfl))
        (pss_cons (ps_while PassesOwn.never (pt_cmpR op_lt (pv 6) (pe_callB call_len_str (by rfl) T.len PySem.boot_len (pa_cons (pv 5) pa_nil)) (nomark _))
          (pss_cons (ps_par (i := 8) (j := 6) (by rfl) scGT.nd rfl rfl (by decide) rfl rfl (pa_cons (pv 6) (pa_cons (pe_op op_add (pv 6) pe_int) pa_nil)) (by rfl))
          (pss_cons (ps_while PassesOwn.never (PW.pt (pw_and (pt_cmpR op_in_sign (pe_item_str (pv 5) (pv 8) (fun _ _ => rfl)) (pv 1) (by rfl))
              (pw_and (pt_cmpR op_lt (pv 6) (pe_callB call_len_str (by rfl) T.len PySem.boot_len (pa_cons (pv 5) pa_nil)) (nomark _)) (pw_and1 (pt_cmpR op_in_sign (pe_item_str (pv 5) (pv 6) (fun _ _ => rfl)) (pv 1) (by rfl))))))
            (pss_one (ps_set (i := 6) scGT.nd rfl (Or.inl rfl) (pe_op op_add (pv 6) pe_int))))
          (pss_one (ps_if (pt_cmpR op_ne (pe_item_str (pv 5) (pv 8) (fun _ _ => rfl)) pe_str (nomark _))
            (pss_cons (ps_expr (qApp (pv 2) (pe_tup (pa_cons (pe_op op_add (pv 4) pe_int) (pa_cons (pe_op op_add (pv 8) pe_int) (pa_cons (pe_ifExp (pt_cmpR op_eq (pv 7) pe_int (nomark _)) (pv 8) pe_non) (pa_cons (pe_slice sl_str (pv 5) (po_some (pv 8)) (po_some (pv 6))) pa_nil)))))))
            (pss_one (ps_set (i := 7) scGT.nd rfl (Or.inl rfl) (pv 6)))) pss_nil)))))
        (pss_one (ps_if (pt_cmpR op_gt (pv 7) pe_int (nomark _)) (pss_one (ps_expr (qApp (pv 2) (pe_tup (pa_cons (pe_op op_add (pv 4) pe_int) (pa_cons (pe_op op_add (pv 7) pe_int) (pa_cons pe_non (pa_cons pe_str pa_nil)))))))) pss_nil)))))
      (pss_one (ps_ret (pe_op op_cat (pv 2) (pe_lst (pa_cons (pe_tup (pa_cons (pe_op op_add (pe_callB call_len_seq (by rfl) T.len PySem.boot_len (pa_cons (pv 3) pa_nil)) pe_int) (pa_cons pe_int (pa_cons pe_non (pa_cons pe_str pa_nil))))) pa_nil))))))), ?_⟩
    have zs : z.length + 2 ≤ sizeLine := by rw [sizeLine_eq]; omega
    have hn := rows_len z
    refine ⟨Nat.zero_le _, fun p hp => ?_⟩
    refine ⟨_, rfl, ⟨_, rfl⟩, z, nlS, rfl, rfl, (by decide +kernel), zs, fun L hL => ⟨_, _, rfl, ?_⟩⟩
    have hpL : p ≠ L := ne_of_none upd_same hL
    have hLH : H L = none := (same_new hp).free hL
    refine ⟨_, rfl, L, (Txt.split z nlS).map V.str, rfl, SqL.of upd_same, for_enum (K := K) (a := L) (xs := (Txt.split z nlS).map V.str)
      (fun i σ H' => ∃ (acc : List Tok) (xs : List V) (av rv sv ev bv : Option V), σ = [some (.str z), some (.str WS), some (.ref p), some (.ref L), av, rv, sv, ev, bv] ∧ TOs H (Txt.split z nlS) L p i acc xs H')
      ⟨[], [], none, none, none, none, none, rfl, (same_new hp).trans (same_new hL), hLH, hp, upd_same, by rw [upd_ne hpL, upd_same], .nil, rfl, Nat.zero_le _⟩
      (fun i σ H' _ ⟨_, _, _, _, _, _, _, _, S⟩ => SqL.of S.rws) ?_ ?_⟩
    · rintro i x Ta σ H' hi ⟨acc0, xs0, av, rv, sv, ev, bv, rfl, S0⟩ hT
      rw [List.getElem?_map] at hi
      obtain ⟨r, hr, rfl⟩ := Option.map_eq_some_iff.mp hi
      have hrl : r.length ≤ z.length := row_len (List.mem_of_getElem? hr)
      have hbl := body_len r
      have hil : i < (Txt.split z nlS).length := (List.getElem?_eq_some_iff.mp hr).1
      refine ⟨Ta, _, rfl, .inl (.inl upd_same), (by rfl), _, _, rfl, _, _, rfl, rfl, ?_⟩
      refine ⟨_, rfl, ⟨_, rfl⟩, r, hash, rfl, rfl, (by decide +kernel), (by rw [sizeLine_eq]; omega), fun q hq => ?_⟩
      refine ⟨q, _, 0, _, rfl, rfl, SqL.of upd_same, split_at0 r, ⟨_, _, _, rfl, ?_⟩⟩
      have sc := (same_new (o := .tup [V.int (i : Nat), V.str r]) hT).trans (same_new (o := .lst ((Txt.split r hash).map V.str)) hq)
      generalize hx : bodyOf r = x at *
      have hlen : x.length = (tl x).length := TL.len_tl x
      have xz : x.length ≤ sizeLine := by rw [sizeLine_eq]; omega
      refine while_m (fun m σ H'' => ∃ (j b : Nat) (acc : List Tok) (xs : List V) (bv : Option V), σ = [some (.str z), some (.str WS), some (.ref p), some (.ref L), some (.int (i : Nat)), some (.str x), some (.int (j : Nat)), some (.int (b : Nat)), bv] ∧ m = (tl x).length - j ∧
          GTs (lineToks ((i : Int) + 1) (tl x)) H ((i : Int) + 1) x p L ((Txt.split z nlS).map V.str) acc0 xs0.length j b acc xs H'') (tl x).length
        ⟨0, 0, [], xs0, bv, rfl, rfl, ⟨S0.same.trans sc, hp, sc _ _ S0.lst, sc _ _ S0.rws, hpL.symm, by rw [List.append_nil]; exact toks_keep (KT.of sc) S0.pr, Nat.zero_le _, ⟨fun _ => rfl, fun _ => rfl⟩, Nat.le_refl _, rfl⟩⟩ ?_
      rintro m σ H1 ⟨j, b, acc, xs, bv, rfl, rfl, S⟩
      have hj := S.hj
      refine ⟨_, rfl, _, rfl, x, rfl, xz, _, _, rfl, rfl, _, rfl, ?_⟩
      by_cases c1 : j < x.length
      · refine ifT (decide_eq_true (by omega)) ?_
        refine ⟨_, fun _ _ h => h, ?_⟩
        refine ⟨_, rfl, _, rfl, _, _, rfl, rfl, _, _, rfl, ?_⟩
        have hg := tokEnd_gt (l := tl x) (i := j) (by omega)
        have hle := tokEnd_le (l := tl x) (i := j) (by omega)
        refine while_q (fun m σ H'' => H'' = H1 ∧ ∃ k : Nat, σ = [some (.str z), some (.str WS), some (.ref p), some (.ref L), some (.int (i : Nat)), some (.str x), some (.int (k : Nat)), some (.int (b : Nat)), some (.int (j : Nat))] ∧ j + 1 ≤ k ∧ k ≤ (tl x).length ∧ m = (tl x).length - k ∧
            (isW ((tl x).getD j 0) = true → k + (((tl x).drop k).takeWhile isW).length = tokEnd (tl x) j) ∧ (isW ((tl x).getD j 0) = false → k = j + 1)) ((tl x).length - (j + 1))
          (fun σ H'' => H'' = H1 ∧ σ = [some (.str z), some (.str WS), some (.ref p), some (.ref L), some (.int (i : Nat)), some (.str x), some (.int ((tokEnd (tl x) j : Nat) : Int)), some (.int (b : Nat)), some (.int (j : Nat))])
          ⟨rfl, j + 1, rfl, Nat.le_refl _, by omega, rfl, fun hw => ?_, fun _ => rfl⟩ ?_ ?_
        · unfold tokEnd
          rw [if_pos hw, run_step (by omega) hw]
        · rintro X hX m σ H'' ⟨rfl, k2, rfl, hk1, hk2, rfl, hkT, hkF⟩
          refine ⟨_, rfl, _, rfl, x, j, _, rfl, rfl, by omega, by omega, by omega, sign_at (by omega), _, rfl, _, WS, rfl, rfl, _, rfl, ?_⟩
          cases w1 : isW ((tl x).getD j 0) with
          | false =>
            refine ifF w1 (ifF rfl (hX _ _ ⟨rfl, ?_⟩))
            have e : tokEnd (tl x) j = j + 1 := by unfold tokEnd; rw [w1]; rfl
            rw [e, hkF w1]
          | true =>
            refine ifT w1 ?_
            refine ⟨_, rfl, _, rfl, x, rfl, xz, _, _, rfl, rfl, _, rfl, ?_⟩
            by_cases w2 : k2 < x.length
            · refine ifT (decide_eq_true (by omega)) ?_
              refine ⟨_, rfl, _, rfl, x, k2, _, rfl, rfl, by omega, by omega, by omega, sign_at (by omega), _, rfl, _, WS, rfl, rfl, _, rfl, ?_⟩
              cases w3 : isW ((tl x).getD k2 0) with
              | true =>
                refine ifT w3 ?_
                refine ⟨_, fun _ _ h => h, _, rfl, _, _, rfl, rfl, (tl x).length - (k2 + 1), by omega, rfl, k2 + 1, rfl, by omega, by omega, rfl, fun _ => ?_, fun z => by cases z⟩
                rw [← hkT w1, run_step (by omega) w3]
              | false =>
                refine ifF w3 (hX _ _ ⟨rfl, ?_⟩)
                rw [← hkT w1, run_stop (by omega) w3]
            · refine ifF (decide_eq_false (by omega)) (ifF rfl (hX _ _ ⟨rfl, ?_⟩))
              rw [← hkT w1, run_end (by omega)]
        · rintro σ H'' ⟨rfl, rfl⟩
          refine ⟨_, rfl, _, rfl, x, j, _, rfl, rfl, by omega, by omega, by omega, sign_at (by omega), rfl, _, rfl, ?_⟩
          by_cases c2 : (tl x).getD j 0 = 32
          · refine ifF (by rw [decide_eq_true ((sp_eq _).mpr c2)]; rfl) ?_
            exact ⟨(tl x).length - tokEnd (tl x) j, by omega, tokEnd (tl x) j, b, acc, xs, _, rfl, rfl, (tokEnd_sp c2).symm ▸ S.blank (by omega) c2⟩
          · refine ifT (by rw [decide_eq_false (fun h => c2 ((sp_eq _).mp h))]; rfl) ?_
            have hx1 := S.cnt
            have hx2 := S0.cnt
            refine ⟨_, rfl, .inl ⟨rfl, _, SqL.of S.lst⟩, ?_⟩
            refine ⟨_, rfl, _, _, rfl, rfl, _, rfl, _, _, rfl, rfl, _, rfl, rfl, _, rfl, ?_⟩
            by_cases hb0 : b = 0
            · refine ifT (decide_eq_true (by rw [hb0]; rfl)) ⟨_, rfl, ?_⟩
              refine ⟨_, rfl, _, rfl, _, rfl, _, rfl, _, rfl, x, rfl, xz, (by show 4 ≤ sizeLine; decide), fun q2 hq2 => ?_⟩
              obtain ⟨acc', S'⟩ := S.tok (by omega) c2 hq2 (vs := [V.int ((i : Int) + 1), V.int ((j : Int) + 1), .int (j : Nat), V.str (cutS x (some (j : Int)) (some ((tokEnd (tl x) j : Nat) : Int)))]) (by rw [if_pos hb0]; rfl)
              refine ⟨p, xs, .ref q2, rfl, rfl, (by rw [upd_ne (ne_of_none S.lst hq2)]; exact S.lst), (by rw [sizeLine_eq]; omega), ?_⟩
              refine ⟨_, rfl, ?_⟩
              exact ⟨_, by omega, _, _, _, _, _, rfl, rfl, S'⟩
            · refine ifF (decide_eq_false (fun h => hb0 (by injection h with h; omega))) ?_
              refine ⟨_, rfl, _, rfl, _, rfl, _, rfl, _, rfl, x, rfl, xz, (by show 4 ≤ sizeLine; decide), fun q2 hq2 => ?_⟩
              obtain ⟨acc', S'⟩ := S.tok (by omega) c2 hq2 (vs := [V.int ((i : Int) + 1), V.int ((j : Int) + 1), .non, V.str (cutS x (some (j : Int)) (some ((tokEnd (tl x) j : Nat) : Int)))]) (by rw [if_neg hb0]; rfl)
              refine ⟨p, xs, .ref q2, rfl, rfl, (by rw [upd_ne (ne_of_none S.lst hq2)]; exact S.lst), (by rw [sizeLine_eq]; omega), ?_⟩
              refine ⟨_, rfl, ?_⟩
              exact ⟨_, by omega, _, _, _, _, _, rfl, rfl, S'⟩
      · refine ifF (decide_eq_false (by omega)) ?_
        have hx1 := S.cnt
        have hx2 := S0.cnt
        have ge := go_end (n := ((i : Int) + 1)) (b := b) (acc := acc) (show ¬ j < (tl x).length by omega)
        have eg := S.eg
        rw [ge] at eg
        refine ⟨_, rfl, _, _, rfl, rfl, _, rfl, ?_⟩
        by_cases hb0 : b = 0
        · refine ifF (decide_eq_false (by omega)) ?_
          rw [if_pos (S.b0.mp hb0)] at eg
          refine ⟨_, xs, _, _, _, _, _, rfl, S0.next hr S.same S.rws S.lst ?_ (by omega)⟩
          rw [hx, ← eg]
          have := S.pr
          rw [S.b0.mp hb0] at this
          exact this
        · refine ifT (decide_eq_true (by omega)) ?_
          rw [if_neg (fun h => hb0 (S.b0.mpr h))] at eg
          refine ⟨_, rfl, .inl ⟨rfl, _, SqL.of S.lst⟩, ?_⟩
          refine ⟨_, rfl, _, _, rfl, rfl, _, rfl, _, _, rfl, rfl, (by show 4 ≤ sizeLine; decide), fun q2 hq2 => ?_⟩
          obtain ⟨h1, h2, h3⟩ := S.put hq2 (t := ⟨(i : Int) + 1, (b : Int) + 1, none, nlS⟩) (vs := [V.int ((i : Int) + 1), V.int ((b : Int) + 1), .non, .str nlS]) rfl
          refine ⟨p, xs, .ref q2, rfl, rfl, (by rw [upd_ne (ne_of_none S.lst hq2)]; exact S.lst), (by rw [sizeLine_eq]; omega), ?_⟩
          refine ⟨_, _, _, _, _, _, _, rfl, S0.next hr h1 h2 upd_same ?_ (by rw [List.length_append]; show _ + 1 ≤ _; omega)⟩
          rw [hx, ← eg]
          exact h3
    · rw [List.length_map]
      rintro σ H' ⟨acc, xs, av, rv, sv, ev, bv, rfl, S⟩
      have hc := S.cnt
      have hcl : (Txt.split z nlS).length * 2001 ≤ 2001 * 2001 := Nat.mul_le_mul_right _ (by omega)
      have eg := S.eg
      rw [List.drop_length] at eg
      have eg : acc ++ [] = rowsToks 0 (Txt.split z nlS) := eg
      rw [List.append_nil] at eg
      refine ⟨_, rfl, _, rfl, L, _, rfl, .inl (SqL.of S.rws), _, _, rfl, rfl, (by show 4 ≤ sizeLine; decide), fun q hq => ?_⟩
      refine ⟨(by show 1 ≤ sizeLine; decide), fun l hl => ?_⟩
      have sc := (same_new hq).trans (same_new (o := .lst [V.ref q]) hl)
      refine ⟨p, l, xs, [.ref q], rfl, rfl, sc _ _ S.lst, upd_same, (by rw [sizeLine_eq]; show xs.length + 1 ≤ _; omega), fun m hm => ?_⟩
      have sm := sc.trans (same_new (o := .lst (xs ++ [V.ref q])) hm)
      refine k m _ _ (S.same.trans sm) ((S.same.trans sc).free hm) upd_same ?_ (by rw [List.length_append]; show _ + 1 ≤ _; omega)
      unfold allToks
      rw [← eg]
      refine paired_app (toks_keep (KT.of sm) S.pr) (.cons ⟨q, rfl, ?_⟩ .nil)
      have e1 := (same_new (o := .lst [V.ref q]) hl).trans (same_new (o := .lst (xs ++ [V.ref q])) hm) _ _ upd_same
      refine e1.trans ?_
      rw [List.length_map]
      rfl
end
end K2

set_option Elab.async false
set_option linter.all false
set_option pp.maxSteps 700
set_option maxRecDepth 100000
set_option maxHeartbeats 2000000
namespace K2
open PySem PySem.Spec PyProof.Rows L2
open TL (tl)
abbrev sBeg : Stmt := top 11
abbrev sMix : Stmt := top 12
abbrev sDrw : Stmt := top 13
abbrev sPck : Stmt := top 14
/-! ### the state of the draws -/
theorem k12 : ¬ (Sum.inr ("great" : Str) : Key) = Sum.inr ("cells" : Str) := by decide +kernel
theorem k13 : ¬ (Sum.inr ("great" : Str) : Key) = Sum.inr ("rest" : Str) := by decide +kernel
theorem k14 : ¬ (Sum.inr ("great" : Str) : Key) = Sum.inr ("turn" : Str) := by decide +kernel
theorem k23 : ¬ (Sum.inr ("cells" : Str) : Key) = Sum.inr ("rest" : Str) := by decide +kernel
theorem k24 : ¬ (Sum.inr ("cells" : Str) : Key) = Sum.inr ("turn" : Str) := by decide +kernel
theorem k34 : ¬ (Sum.inr ("rest" : Str) : Key) = Sum.inr ("turn" : Str) := by decide +kernel
def StKV (g c : Addr) (r t : Int) : List (Key × V) := [(Sum.inr ("great" : Str), V.ref g), (Sum.inr ("cells" : Str), V.ref c), (Sum.inr ("rest" : Str), V.int r), (Sum.inr ("turn" : Str), V.int t)]
section
variable {g c d : Addr} {r t : Int} {H : Hp}
theorem v_great : valV (StKV g c r t) (Sum.inr ("great" : Str)) = some (.ref g) := valV_pos rfl
theorem v_cells : valV (StKV g c r t) (Sum.inr ("cells" : Str)) = some (.ref c) := (valV_neg k12).trans (valV_pos rfl)
theorem v_rest : valV (StKV g c r t) (Sum.inr ("rest" : Str)) = some (.int r) := (valV_neg k13).trans ((valV_neg k23).trans (valV_pos rfl))
theorem v_turn : valV (StKV g c r t) (Sum.inr ("turn" : Str)) = some (.int t) := (valV_neg k14).trans ((valV_neg k24).trans ((valV_neg k34).trans (valV_pos rfl)))
theorem p_rest (x : Int) : putK (StKV g c r t) (Sum.inr ("rest" : Str)) (.int x) = StKV g c x t := by
  unfold putK
  rw [valV_any, v_rest, if_pos (show (some (V.int r)).isSome = true from rfl)]
  unfold StKV
  simp only [List.map_cons, List.map_nil, if_neg k13, if_neg k23, if_pos, if_neg (Ne.symm k34 : ¬ (Sum.inr ("turn" : Str) : Key) = Sum.inr ("rest" : Str))]
theorem p_turn (x : Int) : putK (StKV g c r t) (Sum.inr ("turn" : Str)) (.int x) = StKV g c r x := by
  unfold putK
  rw [valV_any, v_turn, if_pos (show (some (V.int t)).isSome = true from rfl)]
  unfold StKV
  simp only [List.map_cons, List.map_nil, if_neg k14, if_neg k24, if_neg k34, if_pos]
theorem g_great (h : H d = some (.dK (StKV g c r t))) : DGet H d (.str ("great" : Str)) (some (.ref g)) := by
  have e := DGet.k (k := Sum.inr ("great" : Str)) h
  rw [v_great] at e
  exact e
theorem g_cells (h : H d = some (.dK (StKV g c r t))) : DGet H d (.str ("cells" : Str)) (some (.ref c)) := by
  have e := DGet.k (k := Sum.inr ("cells" : Str)) h
  rw [v_cells] at e
  exact e
theorem g_rest (h : H d = some (.dK (StKV g c r t))) : DGet H d (.str ("rest" : Str)) (some (.int r)) := by
  have e := DGet.k (k := Sum.inr ("rest" : Str)) h
  rw [v_rest] at e
  exact e
theorem g_turn (h : H d = some (.dK (StKV g c r t))) : DGet H d (.str ("turn" : Str)) (some (.int t)) := by
  have e := DGet.k (k := Sum.inr ("turn" : Str)) h
  rw [v_turn] at e
  exact e
theorem s_rest (h : H d = some (.dK (StKV g c r t))) (x : Int) : DPut H d (.str ("rest" : Str)) (.int x) (upd H d (.dK (StKV g c x t))) := by
  have e := DPut.k (k := Sum.inr ("rest" : Str)) (v := .int x) h (by rw [sizeLine_eq]; show 4 < _; omega)
  rw [p_rest] at e
  exact e
theorem s_turn (h : H d = some (.dK (StKV g c r t))) (x : Int) : DPut H d (.str ("turn" : Str)) (.int x) (upd H d (.dK (StKV g c r x))) := by
  have e := DPut.k (k := Sum.inr ("turn" : Str)) (v := .int x) h (by rw [sizeLine_eq]; show 4 < _; omega)
  rw [p_turn] at e
  exact e
end
/-- the state at d: great at g, cells at c; at most n turns were made -/
structure StX (H : Hp) (d g c : Addr) (n : Nat) (r t : Int) (gs cs : List Int) : Prop where
  dk : H d = some (.dK (StKV g c r t))
  gl : H g = some (.lst (gs.map V.int))
  cl : H c = some (.lst (cs.map V.int))
  gc : g ≠ c
  r0 : 0 ≤ r
  g0 : ∀ x ∈ gs, 0 ≤ x
  t0 : 0 ≤ t
  tn : t ≤ n
  gn : gs.length ≤ 63
  cn : cs.length ≤ 63
def StA (H : Hp) (d g c : Addr) (n : Nat) : Prop := ∃ r t gs cs, StX H d g c n r t gs cs
theorem StX.dg {H : Hp} {d g c : Addr} {n : Nat} {r t : Int} {gs cs : List Int} (S : StX H d g c n r t gs cs) : d ≠ g := ne_of S.dk S.gl (by intro z; cases z)
theorem StX.dc {H : Hp} {d g c : Addr} {n : Nat} {r t : Int} {gs cs : List Int} (S : StX H d g c n r t gs cs) : d ≠ c := ne_of S.dk S.cl (by intro z; cases z)
theorem StX.keep {H H' : Hp} {d g c : Addr} {n : Nat} {r t : Int} {gs cs : List Int} (S : StX H d g c n r t gs cs) (k : Same H H') : StX H' d g c n r t gs cs :=
  ⟨k _ _ S.dk, k _ _ S.gl, k _ _ S.cl, S.gc, S.r0, S.g0, S.t0, S.tn, S.gn, S.cn⟩
theorem StA.keep {H H' : Hp} {d g c : Addr} {n : Nat} (S : StA H d g c n) (k : Same H H') : StA H' d g c n := by
  obtain ⟨r, t, gs, cs, S⟩ := S
  exact ⟨r, t, gs, cs, S.keep k⟩
theorem StA.mono {H : Hp} {d g c : Addr} {n m : Nat} (S : StA H d g c n) (h : n ≤ m) : StA H d g c m := by
  obtain ⟨r, t, gs, cs, S⟩ := S
  exact ⟨r, t, gs, cs, S.dk, S.gl, S.cl, S.gc, S.r0, S.g0, S.t0, by have := S.tn; omega, S.gn, S.cn⟩
/-- all but the state's dict and great stay -/
def Kp (d g : Addr) (H H' : Hp) : Prop := ∀ b o, H b = some o → b ≠ d → b ≠ g → H' b = some o
theorem Kp.of {d g : Addr} {H H' : Hp} (s : Same H H') : Kp d g H H' := fun b o e _ _ => s b o e
theorem Kp.refl {d g : Addr} (H : Hp) : Kp d g H H := fun _ _ e _ _ => e
theorem Kp.trans {d g : Addr} {H H1 H2 : Hp} (a : Kp d g H H1) (b : Kp d g H1 H2) : Kp d g H H2 := fun c o e h1 h2 => b c o (a c o e h1 h2) h1 h2
theorem Kp.put {d g : Addr} {H : Hp} {o : HO} : Kp d g H (upd H d o) := fun b u e h1 _ => by
  rw [upd_ne h1]
  exact e
theorem Kp.putg {d g : Addr} {H : Hp} {o : HO} : Kp d g H (upd H g o) := fun b u e _ h2 => by
  rw [upd_ne h2]
  exact e
theorem StX.rest {H : Hp} {d g c : Addr} {n : Nat} {r t : Int} {gs cs : List Int} (S : StX H d g c n r t gs cs) {x : Int} (hx : 0 ≤ x) : StX (upd H d (.dK (StKV g c x t))) d g c n x t gs cs :=
  ⟨upd_same, by rw [upd_ne S.dg.symm]; exact S.gl, by rw [upd_ne S.dc.symm]; exact S.cl, S.gc, hx, S.g0, S.t0, S.tn, S.gn, S.cn⟩
theorem StX.turn {H : Hp} {d g c : Addr} {n : Nat} {r t : Int} {gs cs : List Int} (S : StX H d g c n r t gs cs) : StX (upd H d (.dK (StKV g c r (t + 1)))) d g c (n + 1) r (t + 1) gs cs :=
  ⟨upd_same, by rw [upd_ne S.dg.symm]; exact S.gl, by rw [upd_ne S.dc.symm]; exact S.cl, S.gc, S.r0, S.g0, by have := S.t0; omega, by have := S.tn; omega, S.gn, S.cn⟩
theorem dpInts {K : PySem.W.Frag} {H : Hp} : ∀ gs : List Int, DpAll K H (gs.map V.int) (gs.map PyData.int)
  | [] => .nil
  | x :: r => .cons (.int x) (dpInts r)
theorem layInts : ∀ gs : List Int, PyData.canLayAll0 (gs.map PyData.int) = true
  | [] => rfl
  | x :: r => by
    show (true && PyData.canLayAll0 (r.map PyData.int)) = true
    rw [layInts r]
    rfl
theorem depInts : ∀ gs : List Int, PyData.depthAll (gs.map PyData.int) = 0
  | [] => rfl
  | x :: r => by
    show max 0 (PyData.depthAll (r.map PyData.int)) = 0
    rw [depInts r]
    rfl
theorem shInts (gs : List Int) : SeqAt.shaped (.list (gs.map PyData.int)) = true := by
  unfold SeqAt.shaped
  show (PyData.canLayAll0 (gs.map PyData.int) && decide (PyData.depthAll (gs.map PyData.int) + 1 ≤ 64)) = true
  rw [layInts, depInts]
  rfl
def spMix : Sp := fun vs H Q _ => ∃ (d g c : Addr) (n : Nat), vs = [.ref d] ∧ StA H d g c n ∧ n ≤ 1000000000 ∧ ∀ (v : Int) (H' : Hp), 0 ≤ v → StA H' d g c (n + 1) → Kp d g H H' → Q (.int v) H'
def spDrw : Sp := fun vs H Q _ => ∃ (d g c : Addr) (n : Nat) (room : Int), vs = [.ref d, .int room] ∧ StA H d g c n ∧ n ≤ 1000000000 ∧ 0 < room ∧ room < 1073741824 ∧
  ∀ (v : Int) (H' : Hp), 0 ≤ v → v < room → StA H' d g c (n + 1) → Kp d g H H' → Q (.int v) H'
def spPck : Sp := fun vs H Q _ => ∃ (d g c a : Addr) (n : Nat) (xs : List V), vs = [.ref d, .ref a] ∧ StA H d g c n ∧ n ≤ 1000000000 ∧ H a = some (.lst xs) ∧ a ≠ g ∧ xs ≠ [] ∧ xs.length ≤ 1000000 ∧
  ∀ (v : V) (H' : Hp), v ∈ xs → StA H' d g c (n + 1) → Kp d g H H' → Q v H'
structure MgS (K : PySem.W.Frag) (mg : Str → Option Value) (fM fD : Addr) : Prop where
  int : mg "int" = none
  len : mg "len" = none
  mx : mg "_law_mixed" = some (.ref fM)
  kmx : PySem.W.keepIn K (.ref fM) = true
  dr : mg "_law_draw" = some (.ref fD)
  kdr : PySem.W.keepIn K (.ref fD) = true
section
variable {P : Program} {w : World} {K : PySem.W.Frag} {mg : Str → Option Value} {base : Heap}
theorem scMix : FnScope ["state", "turn", "found", "prime", "blend", "cell"] ["state"] (defScope sMix) := ⟨rfl, rfl, rfl, by decide +kernel, rfl, by decide +kernel, by decide +kernel⟩
theorem ok_mix {f fM fD : Addr} {fd : FuncData} (F : Fun K "_law_mixed" "_law_mixed" sMix f fd) (T : MgS K mg fM fD) : FnOk P w K mg base CX0 1 f fd ["state"] spMix := by
  refine F.ok scMix (fun vs H Q E h => ?_) (fun cdv A outer s H vs Q E hr h => ?_)
  · obtain ⟨d, g, c, n, rfl, _⟩ := h
    rfl
  · obtain ⟨d, g, c, n, rfl, ⟨r, t, gs, cs, S⟩, hn, k⟩ := h
    have hu := hu_of hr
    refine ⟨_, pss_cons (ps_par (i := 1) (j := 2) (by rfl) scMix.nd rfl rfl (by decide) rfl rfl (pa_cons (pe_op op_add (pe_dget hu (pv 0) pe_str (fun _ _ => rfl)) pe_int) (pa_cons pe_int pa_nil)) (by rfl))
      (pss_cons (ps_dput hu (pv 0) pe_str (pv 1) rfl)
      (pss_cons (ps_for PassesOwn.never rfl (pi_list (pe_lst (pa_cons pe_int (pa_cons pe_int (pa_cons pe_int (pa_cons pe_int pa_nil)))))) (pg_name (i := 3) scMix.nd rfl (Or.inl rfl))
        (pss_cons (ps_set (i := 4) scMix.nd rfl (Or.inl rfl) (pe_op op_add (pe_op op_mul pe_int (pv 1)) (pe_op op_fdivN (pv 3) pe_int)))
        (pss_cons (ps_for PassesOwn.never rfl (pi_list (pe_dget hu (pv 0) pe_str (fun _ _ => rfl))) (pg_name (i := 5) scMix.nd rfl (Or.inl rfl))
          (pss_one (ps_set (i := 4) scMix.nd rfl (Or.inl rfl) (pe_op op_mod (pe_callTy call_int1 (by rfl) T.int (by decide +kernel) (pa_cons (pe_op op_add (pe_op op_add (pe_op op_mul (pv 4) pe_int) (pv 5)) (pv 1)) pa_nil)) (pv 3)))))
        (pss_one (ps_set (i := 2) scMix.nd rfl (Or.inl rfl) (pe_op op_add (pe_op op_mul (pv 2) pe_int) (pe_op op_mod (pe_callTy call_int1 (by rfl) T.int (by decide +kernel) (pa_cons (pe_op op_pow (pv 4) pe_int) pa_nil)) (pv 3))))))))
      (pss_one (ps_ret (pv 2))))), ?_⟩
    refine ⟨_, rfl, d, _, rfl, g_turn S.dk, _, _, rfl, rfl, ⟨_, _, rfl, ?_⟩⟩
    refine ⟨_, rfl, _, rfl, d, _, rfl, s_turn S.dk _, ?_⟩
    have S1 := S.turn
    have t0 := S.t0
    have tn := S.tn
    refine ⟨(by show 4 ≤ sizeLine; decide), fun l hl => ?_⟩
    have S2 := S1.keep (same_new (o := .lst [V.int 2147483629, V.int 2147483647, V.int 2147483563, V.int 2147483587]) hl)
    have kp : Kp d g H (upd (upd H d (.dK (StKV g c r (t + 1)))) l (.lst [V.int 2147483629, V.int 2147483647, V.int 2147483563, V.int 2147483587])) := Kp.put.trans (Kp.of (same_new hl))
    generalize hH1 : upd (upd H d (.dK (StKV g c r (t + 1)))) l (.lst [V.int 2147483629, V.int 2147483647, V.int 2147483563, V.int 2147483587]) = H1 at S2 kp
    have hl1 : H1 l = some (.lst [V.int 2147483629, V.int 2147483647, V.int 2147483563, V.int 2147483587]) := by rw [← hH1, upd_same]
    refine ⟨l, rfl, ⟨_, SqL.of (by first | exact upd_same | exact hl1)⟩, for_list (K := K) (a := l) (xs := [V.int 2147483629, V.int 2147483647, V.int 2147483563, V.int 2147483587])
      (fun i σ H' => ∃ (fd : Int) (pv bv cv : Option V), σ = [some (.ref d), some (.int (t + 1)), some (.int fd), pv, bv, cv] ∧ 0 ≤ fd ∧ H' = H1) ⟨0, none, none, none, rfl, Int.le_refl _, by first | rfl | exact hH1⟩ (fun i σ H' _ ⟨_, _, _, _, _, _, e⟩ => by rw [e]; exact SqL.of hl1) ?_ ?_⟩
    · rintro i x σ H' hi ⟨fd, pv, bv, cv, rfl, hfd, rfl⟩
      have hm := List.mem_of_getElem? hi
      obtain ⟨pr, rfl, hp0, hp1⟩ : ∃ pr : Int, x = .int pr ∧ 0 < pr ∧ pr < 2147483648 := by
        simp only [List.mem_cons, List.not_mem_nil, or_false] at hm
        rcases hm with rfl | rfl | rfl | rfl
        · exact ⟨_, rfl, by decide, by decide⟩
        · exact ⟨_, rfl, by decide, by decide⟩
        · exact ⟨_, rfl, by decide, by decide⟩
        · exact ⟨_, rfl, by decide, by decide⟩
      have hq : pr.fdiv 41 = pr / 41 := Int.fdiv_eq_ediv_of_nonneg _ (by decide)
      refine ⟨_, rfl, _, _, rfl, rfl, .inl ⟨by decide, by decide⟩, _, rfl, _, _, rfl, rfl, ⟨by decide, by decide⟩, _, _, rfl, rfl, ?_⟩
      refine ⟨_, rfl, d, _, rfl, g_cells S2.dk, c, rfl, ⟨_, SqL.of S2.cl⟩, for_list (K := K) (a := c) (xs := cs.map V.int)
        (fun i σ H'' => ∃ (bl : Int) (cv : Option V), σ = [some (.ref d), some (.int (t + 1)), some (.int fd), some (.int pr), some (.int bl), cv] ∧ -9000000000000000000 < bl ∧ bl < 9000000000000000000 ∧ H'' = H') ⟨_, cv, rfl, by omega, by omega, rfl⟩ (fun i σ H'' _ ⟨_, _, _, _, _, e⟩ => by rw [e]; exact SqL.of S2.cl) ?_ ?_⟩
      · rintro j y σ H'' hj ⟨bl, cv2, rfl, hb1, hb2, rfl⟩
        rw [List.getElem?_map] at hj
        obtain ⟨z, _, rfl⟩ := Option.map_eq_some_iff.mp hj
        refine ⟨_, rfl, _, _, rfl, rfl, .inr ⟨by decide, by decide⟩, _, rfl, _, _, rfl, rfl, _, rfl, _, _, rfl, rfl, .inl ⟨_, rfl, _, rfl, _, _, rfl, rfl, hp0, ?_⟩⟩
        refine ⟨_, _, rfl, ?_, ?_, rfl⟩
        · have := Int.emod_nonneg (bl * 48271 + z + (t + 1)) (Int.ne_of_gt hp0)
          omega
        · have := Int.emod_lt_of_pos (bl * 48271 + z + (t + 1)) hp0
          omega
      · rintro σ H'' ⟨bl, cv2, rfl, hb1, hb2, rfl⟩
        refine ⟨_, rfl, _, _, rfl, rfl, .inr ⟨by decide, by decide⟩, _, rfl, _, _, rfl, rfl, ⟨by decide, by decide, by omega⟩, .inl ⟨_, rfl, _, rfl, _, _, rfl, rfl, hp0, _, _, rfl, rfl, ?_⟩⟩
        refine ⟨_, _, _, _, rfl, ?_, rfl⟩
        have := Int.emod_nonneg (bl ^ (5 : Int).toNat) (Int.ne_of_gt hp0)
        omega
    · rintro σ H' ⟨fd, pv, bv, cv, rfl, hfd, rfl⟩
      refine ⟨_, rfl, k fd H' hfd ⟨_, _, _, _, S2⟩ kp⟩
end
end K2

set_option Elab.async false
set_option linter.all false
set_option pp.maxSteps 700
set_option maxRecDepth 100000
set_option maxHeartbeats 2000000
namespace K2
open PySem PySem.Spec PyProof.Rows L2
open TL (tl)
/-- a statement, a word of one's own, the rest -/
def tMid (t u : TS) : TS := fun D σ H => ∃ M : L2.St → Hp → Prop, t { D with nx := M } σ H ∧ ∀ σ1 H1, M σ1 H1 → u D σ1 H1
section
variable {X : Cx} {o e : Expr} {to te : TE} {apos cpos : Pos}
theorem pss_mid {st : Stmt} {rest : List Stmt} {t u : TS} (h1 : PS X st t) (h2 : PSs X rest u) : PSs X (st :: rest) (tMid t u) := by
  constructor
  intro pins s σ H D I h
  obtain ⟨M, ha, hb⟩ := h
  refine wpAny_execs_cons (thn (h1.run pins s σ H { D with nx := M } I ha) ?_)
  intro f s1 q
  match f, q with
  | .next, ⟨σ1, H1, I1, q⟩ => exact h2.run pins s1 σ1 H1 D I1 (hb σ1 H1 q)
  | .ret v, q => exact q
  | .brk, q => exact q
  | .cont, q => exact q
theorem qPopAt (ho : PE X o to) (he : PE X e te) (hbase : attributeBase o "pop" X.env (eval o X.env) = eval o X.env := by rfl)
    (hfew : ((backTo cpos (starEach (e :: []) X.env)).all (fun x => !x.1) && (backToKw cpos (keywordEach [] X.env)).all (fun x => x.1.isSome)
      && decide ((e :: ([] : List Expr)).length + ([] : List Keyword).length + (if ([] : List Keyword).isEmpty then 0 else 1) < 30)) = true := by rfl)
    (hline : (apos.endLine == cpos.line) = true := by rfl) (hs : starEach (e :: []) X.env = (false, eval e X.env) :: starEach [] X.env := by rfl) (hplain : (backTo cpos (starEach [] X.env)).any (·.1) = false := by rfl) :
    PE X (.Call (.Attribute o "pop" apos) [e] [] cpos) (tBM X.K "list" rPopAt to (tCons te tNil)) :=
  pe_bm PySem.F.plainAttrs_list PySem.F.slot_list_pop PySem.F.type_list_pop mt_popAt ho (pa_cons he pa_nil hs) hbase hfew hline hs hplain
end
theorem StX.pop {H : Hp} {d g c : Addr} {n : Nat} {r t x : Int} {gs cs : List Int} (S : StX H d g c n r t (x :: gs) cs) : 0 ≤ x ∧ StX (upd (upd H g (.lst (gs.map V.int))) d (.dK (StKV g c x t))) d g c n x t gs cs := by
  have hx := S.g0 x (List.mem_cons_self ..)
  refine ⟨hx, upd_same, by rw [upd_ne S.dg.symm, upd_same], by rw [upd_ne S.dc.symm, upd_ne S.gc.symm]; exact S.cl, S.gc, hx, fun y hy => S.g0 y (List.mem_cons_of_mem _ hy), S.t0, S.tn, by have := S.gn; simp only [List.length_cons] at this; omega, S.cn⟩
section
variable {P : Program} {w : World} {K : PySem.W.Frag} {mg : Str → Option Value} {base : Heap}
theorem scDrw : FnScope ["state", "room", "found"] ["state", "room"] (defScope sDrw) := ⟨rfl, rfl, rfl, by decide +kernel, rfl, by decide +kernel, by decide +kernel⟩
theorem ok_drw {f fM fD : Addr} {fd fdM : FuncData} (F : Fun K "_law_draw" "_law_draw" sDrw f fd) (T : MgS K mg fM fD) (FM : Fun K "_law_mixed" "_law_mixed" sMix fM fdM) (bM : L2.Binds K fdM ["state"] []) : FnOk P w K mg base CX0 2 f fd ["state", "room"] spDrw := by
  have GM : FnOk P w K mg base CX0 1 fM fdM ["state"] spMix := ok_mix FM T
  refine F.ok scDrw (fun vs H Q E h => ?_) (fun cdv A outer s H vs Q E hr h => ?_)
  · obtain ⟨d, g, c, n, room, rfl, _⟩ := h
    rfl
  · obtain ⟨d, g, c, n, room, rfl, ⟨r, t, gs, cs, S⟩, hn, hr0, hr1, k⟩ := h
    have hu := hu_of hr
    refine ⟨_, pss_mid (ps_if (pt_cmpR op_eq (pe_dget hu (pv 0) pe_str (fun _ _ => rfl)) pe_int (nomark _))
        (pss_one (ps_dput hu (pv 0) pe_str (pe_ifExp (pt_cmpR (op_neD hr.units) (pe_dget hu (pv 0) pe_str (fun _ _ => rfl)) (pe_lst pa_nil) (nomark _))
          (qPopAt (pe_dget hu (pv 0) pe_str (fun _ _ => rfl)) pe_int) (pe_call GM hr (by rfl) T.mx T.kmx bM .nil pass0 (pa_cons (pv 0) pa_nil))) rfl)) pss_nil)
      (pss_cons (ps_set (i := 2) scDrw.nd rfl (Or.inl rfl) (pe_op op_mod (pe_callTy call_int1 (by rfl) T.int (by decide +kernel) (pa_cons (pe_dget hu (pv 0) pe_str (fun _ _ => rfl)) pa_nil)) (pv 1)))
      (pss_cons (ps_dput hu (pv 0) pe_str (pe_op op_fdivN (pe_dget hu (pv 0) pe_str (fun _ _ => rfl)) (pv 1)) rfl)
      (pss_one (ps_ret (pv 2))))), ?_⟩
    refine ⟨fun σ1 H1 => σ1 = [some (.ref d), some (.int room), none] ∧ StA H1 d g c (n + 1) ∧ Kp d g H H1, ?_, ?_⟩
    · refine ⟨_, rfl, d, _, rfl, g_rest S.dk, rfl, _, rfl, ?_⟩
      by_cases h0 : r = 0
      · refine ifT (decide_eq_true (by rw [h0])) ?_
        refine ⟨_, rfl, d, _, rfl, g_great S.dk, Nat.zero_le _, fun l hl => ?_⟩
        have S1 := S.keep (same_new (o := .lst []) hl)
        refine ⟨_, .list [], .lst (SqL.of S1.gl) (dpInts gs), .lst (SqL.of upd_same) .nil, shInts gs, by decide, _, rfl, ?_⟩
        cases gs with
        | nil =>
          refine ifF rfl ?_
          refine ⟨_, rfl, d, g, c, n, rfl, ⟨r, t, [], cs, S1⟩, hn, fun v H' hv S2 kp => ?_⟩
          obtain ⟨r2, t2, gs2, cs2, S2⟩ := S2
          refine ⟨_, rfl, d, _, rfl, s_rest S2.dk v, rfl, ⟨v, t2, gs2, cs2, S2.rest hv⟩, (Kp.of (same_new hl)).trans (kp.trans Kp.put)⟩
        | cons x gs =>
          refine ifT rfl ?_
          obtain ⟨hx, S2⟩ := S1.pop
          refine ⟨_, rfl, d, _, rfl, g_great S1.dk, .inl ⟨rfl, _, SqL.of S1.gl⟩, g, _, 0, 0, .int x, rfl, rfl, S1.gl, (by decide), (by decide), (by first | rfl | (unfold seqIndex?; simp)), rfl, ?_⟩
          refine ⟨_, rfl, d, _, rfl, s_rest (by rw [upd_ne S1.dg]; exact S1.dk) x, rfl, ?_, (Kp.of (same_new hl)).trans (Kp.putg.trans Kp.put)⟩
          exact StA.mono ⟨x, t, gs, cs, S2⟩ (Nat.le_succ _)
      · refine ifF (decide_eq_false (fun h => h0 (by injection h))) ?_
        exact ⟨rfl, StA.mono ⟨r, t, gs, cs, S⟩ (Nat.le_succ _), Kp.refl _⟩
    · rintro σ1 H1 ⟨rfl, ⟨r, t, gs, cs, S⟩, kp⟩
      refine ⟨_, rfl, d, _, rfl, g_rest S.dk, .inl ⟨_, rfl, _, rfl, _, _, rfl, rfl, hr0, ?_⟩⟩
      refine ⟨_, rfl, d, _, rfl, g_rest S.dk, _, rfl, _, _, rfl, rfl, ⟨by omega, by omega⟩, _, rfl, d, _, rfl, s_rest S.dk _, ?_⟩
      have hq : 0 ≤ r.fdiv room := by
        rw [Int.fdiv_eq_ediv_of_nonneg _ (by omega)]
        exact Int.ediv_nonneg S.r0 (by omega)
      exact ⟨_, rfl, k _ _ (Int.emod_nonneg _ (by omega)) (Int.emod_lt_of_pos _ hr0) ⟨_, _, _, _, S.rest hq⟩ (kp.trans Kp.put)⟩
end
end K2

set_option Elab.async false
set_option linter.all false
set_option pp.maxSteps 700
set_option maxRecDepth 100000
set_option maxHeartbeats 2000000
namespace K2
open PySem PySem.Spec PyProof.Rows L2
open TL (tl)
theorem merge_st (g c : Addr) : mergeK [] (StKV g c 0 0) = StKV g c 0 0 := by
  have e1 : putK [] (Sum.inr ("great" : Str) : Key) (V.ref g) = [(Sum.inr ("great" : Str), V.ref g)] := by
    rw [putK_new _ valV_nil]
    rfl
  have e2 : putK [((Sum.inr ("great" : Str) : Key), V.ref g)] (Sum.inr ("cells" : Str)) (V.ref c) = [(Sum.inr ("great" : Str), V.ref g), (Sum.inr ("cells" : Str), V.ref c)] := by
    rw [putK_new _ ((valV_neg k12).trans valV_nil)]
    rfl
  have e3 : putK [((Sum.inr ("great" : Str) : Key), V.ref g), (Sum.inr ("cells" : Str), V.ref c)] (Sum.inr ("rest" : Str)) (V.int 0) = [(Sum.inr ("great" : Str), V.ref g), (Sum.inr ("cells" : Str), V.ref c), (Sum.inr ("rest" : Str), V.int 0)] := by
    rw [putK_new _ ((valV_neg k13).trans ((valV_neg k23).trans valV_nil))]
    rfl
  have e4 : putK [((Sum.inr ("great" : Str) : Key), V.ref g), (Sum.inr ("cells" : Str), V.ref c), (Sum.inr ("rest" : Str), V.int 0)] (Sum.inr ("turn" : Str)) (V.int 0) = StKV g c 0 0 := by
    rw [putK_new _ ((valV_neg k14).trans ((valV_neg k24).trans ((valV_neg k34).trans valV_nil)))]
    rfl
  show putK (putK (putK (putK [] (Sum.inr ("great" : Str) : Key) (V.ref g)) (Sum.inr ("cells" : Str)) (V.ref c)) (Sum.inr ("rest" : Str)) (V.int 0)) (Sum.inr ("turn" : Str)) (V.int 0) = _
  rw [e1, e2, e3, e4]
def spBeg (K : PySem.W.Frag) : Sp := fun vs H Q _ => ∃ (a : Addr) (ns : List Int), vs = [.ref a] ∧ SqL K H a (ns.map V.int) ∧ ns.length ≤ 63 ∧
  ∀ (d g c : Addr) (H' : Hp), StA H' d g c 0 → Same H H' → H d = none → H g = none → Q (.ref d) H'
section
variable {P : Program} {w : World} {K : PySem.W.Frag} {mg : Str → Option Value} {base : Heap}
theorem scPck : FnScope ["state", "some"] ["state", "some"] (defScope sPck) := ⟨rfl, rfl, rfl, by decide +kernel, rfl, by decide +kernel, by decide +kernel⟩
theorem ok_pck {f fM fD : Addr} {fd fdM fdD : FuncData} (F : Fun K "_law_pick" "_law_pick" sPck f fd) (T : MgS K mg fM fD) (FM : Fun K "_law_mixed" "_law_mixed" sMix fM fdM) (bM : L2.Binds K fdM ["state"] [])
    (FD : Fun K "_law_draw" "_law_draw" sDrw fD fdD) (bD : L2.Binds K fdD ["state", "room"] []) : FnOk P w K mg base CX0 3 f fd ["state", "some"] spPck := by
  have GD : FnOk P w K mg base CX0 2 fD fdD ["state", "room"] spDrw := ok_drw FD T FM bM
  refine F.ok scPck (fun vs H Q E h => ?_) (fun cdv A outer s H vs Q E hr h => ?_)
  · obtain ⟨d, g, c, a, n, xs, rfl, _⟩ := h
    rfl
  · obtain ⟨d, g, c, a, n, xs, rfl, S, hn, ha, hag, hne, hlen, k⟩ := h
    refine ⟨_, pss_one (ps_ret (pe_ix ix_list (pv 1) (pe_call GD hr (by rfl) T.dr T.kdr bD .nil pass0 (pa_cons (pv 0) (pa_cons (pe_callB call_len_seq (by rfl) T.len PySem.boot_len (pa_cons (pv 1) pa_nil)) pa_nil))) (fun _ _ => rfl))), ?_⟩
    have hpos : 0 < xs.length := List.length_pos_iff.mpr hne
    have had : a ≠ d := by
      obtain ⟨r, t, gs, cs, S⟩ := S
      exact ne_of ha S.dk (by intro z; cases z)
    refine ⟨_, rfl, _, rfl, _, rfl, a, _, rfl, .inl (SqL.of ha), d, g, c, n, (xs.length : Int), rfl, S, hn, by omega, by omega, fun v H' h0 h1 S2 kp => ?_⟩
    have hi : v.toNat < xs.length := by omega
    exact ⟨a, xs, v, xs[v.toNat], rfl, rfl, SqL.of (kp _ _ ha had hag), at_of (j := v.toNat) (by omega) (List.getElem?_eq_getElem hi), k _ _ (List.getElem_mem hi) S2 kp⟩
theorem scBeg : FnScope ["script", "great", "cell"] ["script"] (defScope sBeg) := ⟨rfl, rfl, rfl, by decide +kernel, rfl, by decide +kernel, by decide +kernel⟩
theorem ok_beg {f : Addr} {fd : FuncData} (F : Fun K "_law_begun" "_law_begun" sBeg f fd) (ma : mg "abs" = none) : FnOk P w K mg base CX0 1 f fd ["script"] (spBeg K) := by
  refine F.ok scBeg (fun vs H Q E h => ?_) (fun cdv A outer s H vs Q E hr h => ?_)
  · obtain ⟨a, ns, rfl, _⟩ := h
    rfl
  · obtain ⟨a, ns, rfl, hS, hlen, k⟩ := h
    refine ⟨_, pss_cons (ps_setLc (i := 1) (own := [("cell", 2)]) (g := gName 2) (by rfl) scBeg.nd rfl rfl (sw_true rfl rfl rfl (by decide +kernel)) (pi_list (pv 0)) (blkOk_by (own := [("cell", 2)]) (N := ["script", "great", "cell"]) (sc := defScope sBeg) (by decide +kernel)) (fun _ _ _ _ _ => pg_name (i := 2) scBeg.nd rfl (Or.inl rfl))
        (fun _ _ _ _ _ => pts_one (pt_cmpR op_ge (pe_callB call_abs (by rfl) ma (by decide +kernel) (pa_cons (pv 2) pa_nil)) (pe_op op_pow pe_int pe_int) (nomark _)))
        (fun _ _ _ _ _ => pe_op op_sub (pe_callB call_abs (by rfl) ma (by decide +kernel) (pa_cons (pv 2) pa_nil)) (pe_op op_pow pe_int pe_int)))
      (pss_one (ps_ret (pe_disp (pps_cons pe_str (pv 1) (pps_cons pe_str (pe_lc (own := [("cell", 2)]) (g := gName 2) (tt := tYes) (by rfl) scBeg.nd (pi_list (pv 0)) (blkOk_by (own := [("cell", 2)]) (N := ["script", "great", "cell"]) (sc := defScope sBeg) (by decide +kernel)) (fun _ _ _ _ _ => pg_name (i := 2) scBeg.nd rfl (Or.inl rfl)) (fun _ _ _ _ _ => pts_nil)
        (fun _ _ _ _ _ => pe_callB call_abs (by rfl) ma (by decide +kernel) (pa_cons (pv 2) pa_nil))) (pps_cons pe_str pe_int (pps_cons pe_str pe_int pps_nil)))) (by rfl) (by rfl) (fun z => by cases z) (by decide)))), ?_⟩
    refine ⟨_, rfl, a, rfl, ⟨_, hS⟩, fun g hg => lc_list (K := K) (a := a) (xs := ns.map V.int)
      (fun i H' => ∃ gs : List Int, H' g = some (.lst (gs.map V.int)) ∧ (∀ x ∈ gs, 0 ≤ x) ∧ gs.length ≤ i ∧ Same H H') ⟨[], upd_same, (fun x hx => by cases hx), Nat.le_refl _, same_new hg⟩ (fun i H' _ ⟨_, _, _, _, s1⟩ => s1.seq hS) ?_ ?_⟩
    · rintro i x H' hi ⟨gs, h1, h2, h3, s1⟩
      have hil : i < (ns.map V.int).length := (List.getElem?_eq_some_iff.mp hi).1
      rw [List.length_map] at hil
      rw [List.getElem?_map] at hi
      obtain ⟨z, _, rfl⟩ := Option.map_eq_some_iff.mp hi
      refine ⟨rfl, ?_⟩
      refine ⟨_, rfl, z, rfl, _, _, rfl, rfl, ⟨by decide, by decide, by decide⟩, _, _, rfl, rfl, _, rfl, ?_⟩
      by_cases hz : (10 : Int) ^ (18 : Int).toNat ≤ (if z < 0 then -z else z)
      · refine ifT (decide_eq_true hz) ?_
        refine ⟨_, rfl, z, rfl, _, _, rfl, rfl, ⟨by decide, by decide, by decide⟩, _, _, rfl, rfl, ?_⟩
        refine ⟨gs.map V.int, h1, by rw [List.length_map, sizeLine_eq]; omega, gs ++ [(if z < 0 then -z else z) - (10 : Int) ^ (18 : Int).toNat], ?_, ?_, ?_, ?_⟩
        · rw [upd_same, List.map_append]
          rfl
        · intro x hx
          rcases List.mem_append.mp hx with hx | hx
          · exact h2 x hx
          · rw [List.mem_singleton.mp hx]
            omega
        · rw [List.length_append]
          show gs.length + 1 ≤ i + 1
          omega
        · intro b o e
          rw [upd_ne (ne_of_none e hg)]
          exact s1 _ _ e
      · refine ifF (decide_eq_false hz) ?_
        exact ⟨gs, h1, h2, by omega, s1⟩
    · rw [List.length_map]
      rintro H1 ⟨gs, h1, h2, h3, s1⟩
      refine fun p hp => ?_
      have hgp : g ≠ p := ne_of_none h1 hp
      refine ⟨_, rfl, _, rfl, a, rfl, ⟨_, (s1.trans (same_new hp)).seq hS⟩, fun c hc => lc_list (K := K) (a := a) (xs := ns.map V.int)
        (fun i H' => ∃ cs : List Int, H' c = some (.lst (cs.map V.int)) ∧ cs.length ≤ i ∧ Same (upd H1 p (.dK [])) H') ⟨[], upd_same, Nat.le_refl _, same_new hc⟩ (fun i H' _ ⟨_, _, _, s2⟩ => ((s1.trans (same_new hp)).trans s2).seq hS) ?_ ?_⟩
      · rintro i x H' hi ⟨cs, h4, h5, s2⟩
        have hil : i < (ns.map V.int).length := (List.getElem?_eq_some_iff.mp hi).1
        rw [List.length_map] at hil
        rw [List.getElem?_map] at hi
        obtain ⟨z, _, rfl⟩ := Option.map_eq_some_iff.mp hi
        refine ⟨rfl, ?_⟩
        refine ⟨_, rfl, z, rfl, cs.map V.int, h4, by rw [List.length_map, sizeLine_eq]; omega, cs ++ [if z < 0 then -z else z], ?_, ?_, ?_⟩
        · rw [upd_same, List.map_append]
          rfl
        · rw [List.length_append]
          show cs.length + 1 ≤ i + 1
          omega
        · intro b o e
          rw [upd_ne (ne_of_none e hc)]
          exact s2 _ _ e
      · rw [List.length_map]
        rintro H2 ⟨cs, h4, h5, s2⟩
        have hpc : p ≠ c := ne_of_none upd_same hc
        have hgc : g ≠ c := ne_of_none (by rw [upd_ne hgp]; exact h1) hc
        refine ⟨s2 _ _ upd_same, StKV g c 0 0, rfl, (by show 4 ≤ 15; decide), ?_⟩
        rw [merge_st]
        refine k p g c _ ⟨0, 0, gs, cs, upd_same, ?_, ?_, hgc, Int.le_refl _, h2, Int.le_refl _, Int.le_refl _, by omega, by omega⟩ ?_ (s1.free hp) hg
        · rw [upd_ne hgp]
          exact s2 _ _ (by rw [upd_ne hgp]; exact h1)
        · rw [upd_ne hpc.symm]
          exact h4
        · intro b o e
          have hbp : b ≠ p := ne_of_none (s1 _ _ e) hp
          rw [upd_ne hbp]
          exact s2 _ _ (by rw [upd_ne hbp]; exact s1 _ _ e)
end
end K2

set_option Elab.async false
set_option linter.all false
set_option pp.maxSteps 700
set_option maxRecDepth 100000
set_option maxHeartbeats 2000000
namespace K2
open PySem PySem.Spec PyProof.Rows L2
open TL (tl)
abbrev sWds : Stmt := top 16
abbrev sNam : Stmt := top 17
abbrev sTxt : Stmt := top 20
def wd1 : List Str := ["again", "and", "ask", "body", "break", "call", "else", "fail", "function", "give", "if", "local", "no", "not"]
def wd2 : List Str := ["number", "or", "over", "place", "record", "rest", "row", "show", "size", "store", "truth", "unit"]
def wd3 : List Str := ["use", "while", "worth", "yes"]
def wds : List Str := wd1 ++ wd2 ++ wd3
/-- a short text of ASCII signs -/
def okS (m : Nat) (x : Str) : Bool := x.cps.all (fun c => decide (c < 128)) && (decide (1 ≤ x.length) && decide (x.length ≤ m))
theorem okS_of {m : Nat} {x : Str} (h1 : ∀ c ∈ tl x, c < 128) (h2 : 1 ≤ x.length) (h3 : x.length ≤ m) : okS m x = true := by
  unfold okS
  rw [decide_eq_true h2, decide_eq_true h3, Bool.and_true, Bool.and_true, Array.all_eq_true]
  intro i hi
  exact decide_eq_true (h1 _ (by rw [Array.mem_toList_iff]; exact Array.getElem_mem hi))
theorem okS_to {m : Nat} {x : Str} (h : okS m x = true) : (∀ c ∈ tl x, c < 128) ∧ 1 ≤ x.length ∧ x.length ≤ m := by
  unfold okS at h
  simp only [Bool.and_eq_true, decide_eq_true_eq] at h
  refine ⟨fun c hc => ?_, h.2.1, h.2.2⟩
  have h1 := Array.all_eq_true.mp h.1
  obtain ⟨i, hi, e⟩ := Array.mem_iff_getElem.mp (Array.mem_toList_iff.mp hc)
  have := of_decide_eq_true (h1 i hi)
  rw [e] at this
  exact this
theorem okS_app {m n k : Nat} {x y : Str} (h : okS m x = true) (h' : okS n y = true) (hk : m + n ≤ k) : okS k (x ++ y) = true := by
  obtain ⟨a1, a2, a3⟩ := okS_to h
  obtain ⟨b1, b2, b3⟩ := okS_to h'
  have e : (x ++ y).length = x.length + y.length := by rw [TL.len_tl, TL.tl_append, List.length_append, TL.len_tl x, TL.len_tl y]
  refine okS_of (fun c hc => ?_) (by omega) (by omega)
  rw [TL.tl_append] at hc
  rcases List.mem_append.mp hc with hc | hc
  · exact a1 c hc
  · exact b1 c hc
theorem okS_mono {m n : Nat} {x : Str} (h : okS m x = true) (hk : m ≤ n) : okS n x = true := by
  obtain ⟨a1, a2, a3⟩ := okS_to h
  exact okS_of a1 a2 (by omega)
theorem pick_str {m : Nat} {ws : List Str} (h : ws.all (okS m) = true) {v : V} (hv : v ∈ ws.map V.str) : ∃ x : Str, v = .str x ∧ okS m x = true := by
  obtain ⟨x, hx, rfl⟩ := List.mem_map.mp hv
  exact ⟨x, rfl, List.all_eq_true.mp h x hx⟩
def spWds : Sp := fun vs H Q _ => vs = [] ∧ ∀ (p : Addr) (H' : Hp), Same H H' → H p = none → H' p = some (.lst (wds.map V.str)) → Q (.ref p) H'
/-- the law's names: none is taken so far -/
def spNam : Sp := fun vs H Q _ => ∃ (d g c a : Addr) (n : Nat), vs = [.ref d, .ref a] ∧ StA H d g c n ∧ n ≤ 900000000 ∧ H a = some (.lst []) ∧ a ≠ g ∧
  ∀ (x : Str) (H' : Hp), okS 10 x = true → StA H' d g c (n + 12) → Kp d g H H' → Q (.str x) H'
structure MgN (K : PySem.W.Frag) (mg : Str → Option Value) (fM fD fP fW : Addr) : Prop extends MgS K mg fM fD where
  pk : mg "_law_pick" = some (.ref fP)
  kpk : PySem.W.keepIn K (.ref fP) = true
  wd : mg "_law_tx_words" = some (.ref fW)
  kwd : PySem.W.keepIn K (.ref fW) = true
  rng : mg "range" = none
  str : mg "str" = none
section
variable {X : Cx}
theorem op_mul_str : OpR X (binaryOp .Mult) (fun x y H Q => ∃ (i : Str) (n : Int), x = .str i ∧ y = .int n ∧ 1 ≤ n ∧ n ≤ 1000 ∧ i.length ≤ 1000 ∧ Q (.str (Txt.mul i n)) H) := by
  intro pins s σ H x y v u Q I rx ry h
  obtain ⟨i, n, rfl, rfl, h0, h1, h2, q⟩ := h
  obtain ⟨t, rfl⟩ := rx
  obtain ⟨t', rfl⟩ := ry
  refine SB.mul ⟨?_, ?_, ?_⟩ fun t' k => ⟨.str _, H, I.tok _, ⟨_, rfl⟩, q⟩
  · rw [decide_eq_false (by omega), decide_eq_false (by omega)]
    rfl
  · intro _ _
    have : (1000 : Int) ≤ (2 ^ 63 - 1) / n := by
      refine Int.le_ediv_of_mul_le (by omega) ?_
      omega
    omega
  · intro _ _
    have : i.length * n.toNat ≤ 1000 * 1000 := Nat.mul_le_mul h2 (by omega)
    exact decide_eq_false (show ¬ (i.length * n.toNat > sizeLine) by rw [sizeLine_eq]; omega)
end
section
variable {P : Program} {w : World} {K : PySem.W.Frag} {mg : Str → Option Value} {base : Heap}
theorem scWds : FnScope ["found"] [] (defScope sWds) := ⟨rfl, rfl, rfl, by decide +kernel, rfl, by decide +kernel, by decide +kernel⟩
theorem ok_wds {f : Addr} {fd : FuncData} (F : Fun K "_law_tx_words" "_law_tx_words" sWds f fd) : FnOk P w K mg base CX0 1 f fd [] spWds := by
  refine F.ok scWds (fun vs H Q E h => ?_) (fun cdv A outer s H vs Q E hr h => ?_)
  · obtain ⟨rfl, _⟩ := h
    rfl
  · obtain ⟨rfl, k⟩ := h
    have s1 {X : Cx} := @pe_str X
    refine ⟨_, pss_cons (ps_set (i := 0) scWds.nd rfl (Or.inl rfl) (pe_lst (pa_cons pe_str (pa_cons pe_str (pa_cons pe_str (pa_cons pe_str (pa_cons pe_str (pa_cons pe_str (pa_cons pe_str (pa_cons pe_str (pa_cons pe_str (pa_cons pe_str (pa_cons pe_str (pa_cons pe_str (pa_cons pe_str (pa_cons pe_str pa_nil))))))))))))))))
      (pss_cons (ps_set (i := 0) scWds.nd rfl (Or.inl rfl) (pe_op op_cat (pv 0) (pe_lst (pa_cons pe_str (pa_cons pe_str (pa_cons pe_str (pa_cons pe_str (pa_cons pe_str (pa_cons pe_str (pa_cons pe_str (pa_cons pe_str (pa_cons pe_str (pa_cons pe_str (pa_cons pe_str (pa_cons pe_str pa_nil)))))))))))))))
      (pss_one (ps_ret (pe_op op_cat (pv 0) (pe_lst (pa_cons pe_str (pa_cons pe_str (pa_cons pe_str (pa_cons pe_str pa_nil))))))))), ?_⟩
    refine ⟨(by show 14 ≤ sizeLine; decide), fun p hp => ?_⟩
    refine ⟨_, rfl, (by show 12 ≤ sizeLine; decide), fun q hq => ⟨p, q, wd1.map V.str, wd2.map V.str, rfl, rfl, ?_, upd_same, (by show 14 + 12 ≤ sizeLine; decide), fun r hr => ?_⟩⟩
    · rw [upd_ne (ne_of_none upd_same hq)]
      exact upd_same
    · refine ⟨_, rfl, (by show 4 ≤ sizeLine; decide), fun q2 hq2 => ⟨r, q2, (wd1 ++ wd2).map V.str, wd3.map V.str, rfl, rfl, ?_, upd_same, (by show 26 + 4 ≤ sizeLine; decide), fun r2 hr2 => ?_⟩⟩
      · rw [upd_ne (ne_of_none upd_same hq2), List.map_append]
        exact upd_same
      · refine k r2 _ (Same.trans (Same.trans (Same.trans (same_new hp) (same_new hq)) (Same.trans (same_new hr) (same_new hq2))) (same_new hr2)) (Same.free (Same.trans (Same.trans (same_new hp) (same_new hq)) (Same.trans (same_new hr) (same_new hq2))) hr2) ?_
        · rw [upd_same]
          unfold wds
          rw [List.map_append, List.map_append, List.map_append]
end
end K2

set_option Elab.async false
set_option linter.all false
set_option pp.maxSteps 700
set_option maxRecDepth 100000
set_option maxHeartbeats 2000000
namespace K2
open PySem PySem.Spec PyProof.Rows L2
open TL (tl)
def L26 : Str := "abcdefghijklmnopqrstuvwxyz"
def D10 : Str := "0123456789"
def nm12 : List Str := ["put", "read", "item", "field", "name", "own", "plus", "less", "units", "rows", "e", "n0"]
theorem at_sign {xs : List Nat} {z : Int} {j : Nat} {v : Nat} (e : z = (j : Int)) (h : xs[j]? = some v) : atI xs z = some v := by
  rw [e]
  exact atI_nat h
/-- a sign of a text by a drawn number -/
theorem item_ok {m : Nat} {z : Str} (h : okS m z = true) {v : Int} (h0 : 0 ≤ v) (h1 : v < z.length) : ∃ c, atI z.cps.toList v = some c ∧ okS 1 ⟨#[c]⟩ = true := by
  have hl : v.toNat < (tl z).length := by
    rw [← TL.len_tl z]
    omega
  refine ⟨(tl z)[v.toNat], at_sign ?_ (List.getElem?_eq_getElem hl), okS_of (fun c hc => ?_) (Nat.le_refl _) (Nat.le_refl _)⟩
  · omega
  · have e : c = (tl z)[v.toNat] := by simpa using hc
    rw [e]
    exact (okS_to h).1 _ (List.getElem_mem hl)
def digs (i : Nat) : Str := toString (i : Int)
theorem digs_ok : ∀ i : Fin 90, okS 2 (digs i.val) = true := by decide +kernel
def cnd (x : Str) (i : Nat) : Str := cutS x none (some 1) ++ digs i
def cands (x : Str) : List Str := x :: (List.range 90).map (cnd x)
theorem cut1_ok {m : Nat} {x : Str} (h : okS m x = true) : okS 1 (cutS x none (some 1)) = true := by
  obtain ⟨h1, h2, h3⟩ := okS_to h
  have e : tl (cutS x none (some 1)) = (tl x).take 1 := by
    show ((x.cps.toList.drop (HT.sIx x.length 0 none)).take (HT.sIx x.length x.length (some ((1 : Nat) : Int)) - HT.sIx x.length 0 none)) = _
    rw [HT.sIx_nat, HT.sIx_none, List.drop_zero]
    congr 1
    omega
  have hl : (tl x).length = x.length := (TL.len_tl x).symm
  refine okS_of (fun c hc => ?_) ?_ ?_
  · rw [e] at hc
    exact h1 c (List.mem_of_mem_take hc)
  · rw [TL.len_tl, e, List.length_take]
    omega
  · rw [TL.len_tl, e, List.length_take]
    omega
theorem cnd_ok {m : Nat} {x : Str} (h : okS m x = true) {i : Nat} (hi : i < 90) : okS 3 (cnd x i) = true := okS_app (cut1_ok h) (digs_ok ⟨i, hi⟩) (by decide)
theorem cands_ok {x : Str} (h : okS 10 x = true) : ∀ y ∈ cands x, okS 10 y = true := by
  intro y hy
  rcases List.mem_cons.mp hy with rfl | hy
  · exact h
  · obtain ⟨i, hi, rfl⟩ := List.mem_map.mp hy
    exact okS_mono (cnd_ok h (List.mem_range.mp hi)) (by decide)
theorem no_zero : ∀ w ∈ wds, (tl w)[1]? ≠ some 48 := by decide +kernel
/-- the second candidate is none of the words -/
theorem cnd0_free {m : Nat} {x : Str} (h : okS m x = true) : inV (.str (cnd x 0)) (wds.map V.str) = false := by
  have e : (tl (cnd x 0))[1]? = some 48 := by
    obtain ⟨_, h2, h3⟩ := okS_to (cut1_ok h)
    unfold cnd
    rw [TL.tl_append]
    have hl : (tl (cutS x none (some 1))).length = 1 := by
      rw [← TL.len_tl]
      omega
    rw [List.getElem?_append_right (by omega), hl]
    decide +kernel
  unfold inV
  rw [List.any_eq_false]
  intro y hy
  obtain ⟨w, hw, rfl⟩ := List.mem_map.mp hy
  show ¬ (w == cnd x 0) = true
  intro z
  have z := eq_of_beq z
  exact no_zero w hw (z ▸ e)
theorem wds_flat : (wds.map V.str).all flatV = true := by decide +kernel
theorem o26 : okS 26 L26 = true := by decide +kernel
theorem o36 : okS 36 (L26 ++ D10) = true := by decide +kernel
theorem l26 : L26.length = 26 := by decide +kernel
theorem l36 : (L26 ++ D10).length = 36 := by decide +kernel
theorem o12 : nm12.all (okS 10) = true := by decide +kernel
theorem ints5 {v : V} (h : v ∈ [V.int 1, V.int 0, V.int 2, V.int 7, V.int 3]) : ∃ m : Nat, v = .int (m : Int) ∧ m ≤ 7 := by
  simp only [List.mem_cons, List.not_mem_nil, or_false] at h
  rcases h with rfl | rfl | rfl | rfl | rfl
  · exact ⟨1, rfl, by decide⟩
  · exact ⟨0, rfl, by decide⟩
  · exact ⟨2, rfl, by decide⟩
  · exact ⟨7, rfl, by decide⟩
  · exact ⟨3, rfl, by decide⟩
theorem StA.ne_g {H : Hp} {d g c : Addr} {n : Nat} (S : StA H d g c n) {p : Addr} (hp : H p = none) : p ≠ g ∧ p ≠ d := by
  obtain ⟨r, t, gs, cs, S⟩ := S
  exact ⟨(ne_of_none S.gl hp).symm, (ne_of_none S.dk hp).symm⟩
section
variable {P : Program} {w : World} {K : PySem.W.Frag} {mg : Str → Option Value} {base : Heap}
theorem scNam : FnScope ["state", "taken", "letters", "found", "lap", "some", "at", "name"] ["state", "taken"] (defScope sNam) := ⟨rfl, rfl, rfl, by decide +kernel, rfl, by decide +kernel, by decide +kernel⟩
theorem ok_nam {f fM fD fP fW : Addr} {fd fdM fdD fdP fdW : FuncData} (F : Fun K "_law_tx_name" "_law_tx_name" sNam f fd) (T : MgN K mg fM fD fP fW) (FM : Fun K "_law_mixed" "_law_mixed" sMix fM fdM) (bM : L2.Binds K fdM ["state"] [])
    (FD : Fun K "_law_draw" "_law_draw" sDrw fD fdD) (bD : L2.Binds K fdD ["state", "room"] []) (FP : Fun K "_law_pick" "_law_pick" sPck fP fdP) (bP : L2.Binds K fdP ["state", "some"] [])
    (FW : Fun K "_law_tx_words" "_law_tx_words" sWds fW fdW) (bW : L2.Binds K fdW [] []) : FnOk P w K mg base CX0 4 f fd ["state", "taken"] spNam := by
  have GD : FnOk P w K mg base CX0 2 fD fdD ["state", "room"] spDrw := ok_drw FD T.toMgS FM bM
  have GP : FnOk P w K mg base CX0 3 fP fdP ["state", "some"] spPck := ok_pck FP T.toMgS FM bM FD bD
  have GW : FnOk P w K mg base CX0 1 fW fdW [] spWds := ok_wds FW
  refine F.ok scNam (fun vs H Q E h => ?_) (fun cdv A outer s H vs Q E hr h => ?_)
  · obtain ⟨d, g, c, a, n, rfl, _⟩ := h
    rfl
  · obtain ⟨d, g, c, a, n, rfl, S, hn, ha, hag, k⟩ := h
    have hr1 : Room 1 _ := hr.mono (by decide)
    have hr2 : Room 2 _ := hr.mono (by decide)
    refine ⟨_, pss_cons (ps_set (i := 2) scNam.nd rfl (Or.inl rfl) pe_str)
      (pss_cons (ps_set (i := 3) scNam.nd rfl (Or.inr rfl) (pe_ix ix_str (pv 2) (pe_call GD hr2 (by rfl) T.dr T.kdr bD .nil pass0 (pa_cons (pv 0) (pa_cons pe_int pa_nil))) (fun _ _ => rfl)))
      (pss_cons (ps_for PassesOwn.never rfl (pi_range1 (by rfl) T.rng (pa_cons (pe_call GP hr (by rfl) T.pk T.kpk bP .nil pass0 (pa_cons (pv 0) (pa_cons (pe_lst (pa_cons pe_int (pa_cons pe_int (pa_cons pe_int (pa_cons pe_int (pa_cons pe_int pa_nil)))))) pa_nil))) pa_nil)) (pg_name (i := 4) scNam.nd rfl (Or.inl rfl))
        (pss_one (ps_set (i := 3) scNam.nd rfl (Or.inr rfl) (pe_op op_add_str (pv 3) (pe_ix ix_str (pe_op op_add_str (pv 2) pe_str) (pe_call GD hr2 (by rfl) T.dr T.kdr bD .nil pass0 (pa_cons (pv 0) (pa_cons pe_int pa_nil))) (fun _ _ => rfl))))))
      (pss_mid (ps_if (pt_cmpR op_eq (pe_call GD hr2 (by rfl) T.dr T.kdr bD .nil pass0 (pa_cons (pv 0) (pa_cons pe_int pa_nil))) pe_int (nomark _))
        (pss_one (ps_set (i := 3) scNam.nd rfl (Or.inr rfl) (pe_call GP hr (by rfl) T.pk T.kpk bP .nil pass0 (pa_cons (pv 0) (pa_cons (pe_lst (pa_cons pe_str (pa_cons pe_str (pa_cons pe_str (pa_cons pe_str (pa_cons pe_str (pa_cons pe_str (pa_cons pe_str (pa_cons pe_str (pa_cons pe_str (pa_cons pe_str (pa_cons pe_str (pa_cons pe_str pa_nil))))))))))))) pa_nil))))) pss_nil)
      (pss_cons (ps_set (i := 5) scNam.nd rfl (Or.inl rfl) (pe_op op_cat (pe_lst (pa_cons (pv 3) pa_nil)) (pe_lc (own := [("at", 6)]) (g := gName 6) (tt := tYes) (by rfl) scNam.nd (pi_range1 (by rfl) T.rng (pa_cons pe_int pa_nil))
          (blkOk_by (own := [("at", 6)]) (N := ["state", "taken", "letters", "found", "lap", "some", "at", "name"]) (sc := defScope sNam) (by decide +kernel)) (fun _ _ _ _ _ => pg_name (i := 6) scNam.nd rfl (Or.inl rfl)) (fun _ _ _ _ _ => pts_nil)
          (fun _ _ _ _ _ => pe_op op_add_str (pe_slice sl_str (pv 3) po_none (po_some pe_int)) (pe_callTy call_str_int (by rfl) T.str (by decide +kernel) (pa_cons (pv 6) pa_nil))))))
      (pss_one (ps_ret (pe_ix ix_list (pe_lc (own := [("name", 7)]) (g := gName 7) (by rfl) scNam.nd (pi_list (pv 5))
          (blkOk_by (own := [("name", 7)]) (N := ["state", "taken", "letters", "found", "lap", "some", "at", "name"]) (sc := defScope sNam) (by decide +kernel)) (fun _ _ _ _ _ => pg_name (i := 7) scNam.nd rfl (Or.inl rfl))
          (fun _ _ _ _ _ => pts_one (PW.pt (pw_and (pt_cmpR (show OpR _ (compareOp .NotIn) (rIn K true) from op_notIn_seq) (pv 7) (pv 1) (by rfl)) (pw_and1 (pt_cmpR (show OpR _ (compareOp .NotIn) (rIn K true) from op_notIn_seq) (pv 7) (pe_call0 GW hr1 (by rfl) T.wd T.kwd bW .nil pass0) (by rfl))))))
          (fun _ _ _ _ _ => pv 7)) pe_int (fun _ _ => rfl)))))))), ?_⟩
    refine ⟨_, rfl, _, rfl, d, g, c, n, 26, rfl, S, by omega, by decide, by decide, fun v H1 h0 h1 S1 kp1 => ?_⟩
    obtain ⟨c1, e1, ok1⟩ := item_ok o26 h0 (by rw [l26]; exact h1)
    refine ⟨L26, v, c1, rfl, rfl, (by decide +kernel), e1, ?_⟩
    -- for lap in range(..)
    refine ⟨_, rfl, (by show 5 ≤ sizeLine; decide), fun l hl => ?_⟩
    refine ⟨d, g, c, l, n + 1, _, rfl, S1.keep (same_new hl), by omega, upd_same, (S1.ne_g hl).1, by simp, by decide, fun v2 H2 hv2 S2 kp2 => ?_⟩
    obtain ⟨m, rfl, hm⟩ := ints5 hv2
    have kpa : Kp d g H H2 := kp1.trans ((Kp.of (same_new hl)).trans kp2)
    refine ⟨_, rfl, by omega, by omega, for_range (lo := 0) (n := ((m : Nat) : Int).toNat)
      (fun i σ H' => ∃ (x : Str) (lv : Option V), σ = [some (.ref d), some (.ref a), some (.str L26), some (.str x), lv, none, none, none] ∧ okS (i + 1) x = true ∧ StA H' d g c (n + 2 + i) ∧ Kp d g H H')
      ⟨_, none, rfl, ok1, S2, kpa⟩ ?_ ?_⟩
    · rintro i σ H' hi ⟨x, lv, rfl, okx, S3, kp3⟩
      have hi7 : i < 7 := by omega
      refine ⟨_, rfl, _, rfl, L26, D10, rfl, rfl, (by decide +kernel), _, rfl, d, g, c, n + 2 + i, 36, rfl, S3, by omega, by decide, by decide, fun v3 H3 h2 h3 S4 kp4 => ?_⟩
      obtain ⟨c2, e2, ok2⟩ := item_ok o36 h2 (by rw [l36]; exact h3)
      refine ⟨L26 ++ D10, v3, c2, rfl, rfl, (by decide +kernel), e2, ?_⟩
      have oka := okS_app okx ok2 (Nat.le_refl _)
      refine ⟨x, ⟨#[c2]⟩, rfl, rfl, ?_, _, _, rfl, oka, S4, kp3.trans kp4⟩
      have := (okS_to okx).2.2
      rw [sizeLine_eq]
      show x.length + 1 ≤ _
      omega
    · rintro σ H3 ⟨x, lv, rfl, okx, S3, kp3⟩
      have hm8 : ((m : Nat) : Int).toNat ≤ 7 := by omega
      have okx := okS_mono (n := 10) okx (by omega)
      have S3 := S3.mono (m := n + 9) (by omega)
      -- if draw == 0
      refine ⟨fun σ' H' => ∃ x : Str, σ' = [some (.ref d), some (.ref a), some (.str L26), some (.str x), lv, none, none, none] ∧ okS 10 x = true ∧ StA H' d g c (n + 12) ∧ Kp d g H H', ?_, ?_⟩
      · refine ⟨_, rfl, d, g, c, n + 9, 6, rfl, S3, by omega, by decide, by decide, fun v4 H4 _ _ S4 kp4 => ?_⟩
        refine ⟨rfl, _, rfl, ?_⟩
        by_cases hv : V.int v4 = V.int 0
        · refine ifT (decide_eq_true hv) ?_
          refine ⟨_, rfl, (by show 12 ≤ sizeLine; decide), fun l2 hl2 => ?_⟩
          refine ⟨d, g, c, l2, n + 10, nm12.map V.str, rfl, S4.keep (same_new hl2), by omega, upd_same, (S4.ne_g hl2).1, by simp [nm12], by decide, fun v5 H5 hv5 S5 kp5 => ?_⟩
          obtain ⟨y, rfl, oky⟩ := pick_str o12 hv5
          exact ⟨y, rfl, oky, S5.mono (by omega), kp3.trans (kp4.trans ((Kp.of (same_new hl2)).trans kp5))⟩
        · refine ifF (decide_eq_false hv) ?_
          exact ⟨x, rfl, okx, S4.mono (by omega), kp3.trans kp4⟩
      · rintro σ' H4 ⟨x, rfl, okx, S4, kp4⟩
        have hxs : x.length ≤ sizeLine := by
          have := (okS_to okx).2.2
          rw [sizeLine_eq]
          omega
        have ha4 : H4 a = some (.lst []) := kp4 _ _ ha (by
          obtain ⟨r, t, gs, cs, S⟩ := S
          exact ne_of ha S.dk (by intro z; cases z)) hag
        -- some = [found] + [..]
        refine ⟨_, rfl, (by show 1 ≤ sizeLine; decide), fun l3 hl3 => ?_⟩
        refine ⟨90, rfl, by decide, by decide, fun D hD => lc_range (lo := 0) (n := 90)
          (fun i H' => H' D = some (.lst (((List.range i).map (cnd x)).map V.str)) ∧ Same (upd H4 l3 (.lst [V.str x])) H') ⟨upd_same, same_new hD⟩ ?_ ?_⟩
        · rintro i H' hi ⟨h1, s1⟩
          refine ⟨rfl, ?_⟩
          have od : okS 2 (digs i) = true := digs_ok ⟨i, hi⟩
          have e0 : (0 : Int) + (i : Nat) = (i : Nat) := Int.zero_add _
          rw [e0]
          refine ⟨_, rfl, _, rfl, x, rfl, hxs, _, rfl, (i : Nat), rfl, ?_, cutS x none (some 1), digs i, rfl, rfl, ?_, _, h1, ?_, ?_, ?_⟩
          · rw [Int.natAbs_natCast]
            exact Nat.lt_of_le_of_lt (Nat.log2_le_self i) (by omega)
          · have h3 := (okS_to (cut1_ok okx)).2.2
            have h4 := (okS_to od).2.2
            rw [sizeLine_eq]
            omega
          · rw [List.length_map, List.length_map, List.length_range, sizeLine_eq]
            omega
          · rw [upd_same, List.range_succ, List.map_append, List.map_append]
            rfl
          · intro b o e
            rw [upd_ne (ne_of_none e hD)]
            exact s1 _ _ e
        · rintro H5 ⟨h1, s1⟩
          refine ⟨l3, D, [.str x], _, rfl, rfl, s1 _ _ upd_same, h1, (by rw [List.length_map, List.length_map, List.length_range, sizeLine_eq]; show 1 + 90 ≤ _; omega), fun mm hmm => ?_⟩
          have s5 : Same H4 (upd H5 mm (.lst ([V.str x] ++ (((List.range 90).map (cnd x)).map V.str)))) := ((same_new hl3).trans s1).trans (same_new hmm)
          have hc5 : (upd H5 mm (.lst ([V.str x] ++ (((List.range 90).map (cnd x)).map V.str)))) mm = some (.lst ((cands x).map V.str)) := upd_same
          generalize upd H5 mm (.lst ([V.str x] ++ (((List.range 90).map (cnd x)).map V.str))) = H6 at s5 hc5 ⊢
          -- return [name for ..][0]
          refine ⟨_, rfl, mm, rfl, ⟨_, SqL.of hc5⟩, fun R hR => lc_list (K := K) (a := mm) (xs := (cands x).map V.str)
            (fun i H' => ∃ acc : List Str, H' R = some (.lst (acc.map V.str)) ∧ (∀ y ∈ acc, okS 10 y = true) ∧ (2 ≤ i → acc ≠ []) ∧ acc.length ≤ i ∧ Same H6 H')
            ⟨[], upd_same, (fun y hy => by cases hy), (fun z => by omega), Nat.le_refl _, same_new hR⟩ (fun i H' _ ⟨_, _, _, _, _, s6⟩ => SqL.of (s6 _ _ hc5)) ?_ ?_⟩
          · rintro i y H' hi ⟨acc, h2, h3, h4, h5, s6⟩
            have hil : i < ((cands x).map V.str).length := (List.getElem?_eq_some_iff.mp hi).1
            have hlc : ((cands x).map V.str).length = 91 := by
              rw [List.length_map]
              unfold cands
              rw [List.length_cons, List.length_map, List.length_range]
            rw [List.getElem?_map] at hi
            obtain ⟨nm, hnm, rfl⟩ := Option.map_eq_some_iff.mp hi
            have okn := cands_ok okx nm (List.mem_of_getElem? hnm)
            refine ⟨rfl, ?_⟩
            refine ⟨_, rfl, _, rfl, a, [], rfl, .inl (SqL.of (s6 _ _ (s5 _ _ ha4))), rfl, rfl, _, rfl, ?_⟩
            refine ifT rfl ?_
            refine ⟨_, rfl, rfl, fun wp H7 s7 hwn hw7 => ?_⟩
            refine ⟨wp, _, rfl, .inl (SqL.of hw7), rfl, wds_flat, _, rfl, ?_⟩
            have fin : Same H6 H7 := s6.trans s7
            cases hin : inV (.str nm) (wds.map V.str) with
            | false =>
              refine ifT (by rfl) ?_
              refine ⟨_, rfl, acc.map V.str, s7 _ _ h2, by rw [List.length_map, sizeLine_eq]; omega, acc ++ [nm], ?_, ?_, ?_, ?_, ?_⟩
              · rw [upd_same, List.map_append]
                rfl
              · intro y hy
                rcases List.mem_append.mp hy with hy | hy
                · exact h3 y hy
                · rw [List.mem_singleton.mp hy]
                  exact okn
              · intro _ z
                simp at z
              · rw [List.length_append]
                show acc.length + 1 ≤ i + 1
                omega
              · intro b o e
                rw [upd_ne (ne_of_none e hR)]
                exact fin _ _ e
            | true =>
              refine ifF (by rfl) ?_
              refine ⟨acc, s7 _ _ h2, h3, fun h6 => ?_, by omega, fin⟩
              by_cases hi1 : i = 1
              · subst hi1
                have e1 : nm = cnd x 0 := by
                  have e2 : (cands x)[1]? = some (cnd x 0) := rfl
                  rw [hnm] at e2
                  exact Option.some.inj e2
                rw [e1, cnd0_free okx] at hin
                cases hin
              · exact h4 (by omega)
          · rintro H7 ⟨acc, h2, h3, h4, h5, s6⟩
            have hlc : ((cands x).map V.str).length = 91 := by
              rw [List.length_map]
              unfold cands
              rw [List.length_cons, List.length_map, List.length_range]
            cases acc with
            | nil => exact absurd rfl (h4 (by omega))
            | cons y r =>
              refine ⟨R, _, 0, .str y, rfl, rfl, SqL.of h2, atI_nat (j := 0) rfl, ?_⟩
              exact k y H7 (h3 y (List.mem_cons_self ..)) (S4.keep (s5.trans s6)) (kp4.trans (Kp.of (s5.trans s6)))
end
end K2

set_option Elab.async false
set_option linter.all false
set_option pp.maxSteps 700
set_option maxRecDepth 100000
set_option maxHeartbeats 2000000
namespace K2
open PySem PySem.Spec PyProof.Rows L2
open TL (tl)
/-- the text of a statement x = '..' -/
def textOf (l : List Stmt) : Str := match l with
  | .Assign _ (.Constant (.str x) _ _) _ :: _ => x
  | _ => Str.empty
def SG : Str := textOf (defBody sTxt)
theorem oSG : okS 26 SG = true := by decide +kernel
theorem lSG : SG.length = 26 := by decide +kernel
def wc7 : List Str := ["unit", "x_9", "Ab", "007", "3x", "_", "Z"]
theorem o7 : wc7.all (okS 10) = true := by decide +kernel
/-- a text of ASCII signs, maybe empty -/
def okE (m : Nat) (x : Str) : Prop := (∀ c ∈ tl x, c < 128) ∧ x.length ≤ m
theorem okE_app {m n k : Nat} {x y : Str} (h : okE m x) (h' : okS n y = true) (hk : m + n ≤ k) : okE k (x ++ y) := by
  obtain ⟨a1, a3⟩ := h
  obtain ⟨b1, b2, b3⟩ := okS_to h'
  have e : (x ++ y).length = x.length + y.length := by rw [TL.len_tl, TL.tl_append, List.length_append, TL.len_tl x, TL.len_tl y]
  refine ⟨fun c hc => ?_, by omega⟩
  rw [TL.tl_append] at hc
  rcases List.mem_append.mp hc with hc | hc
  · exact a1 c hc
  · exact b1 c hc
theorem ints_txt {v : V} (h : v ∈ [V.int 12, V.int 0, V.int 3, V.int 40, V.int 1]) : ∃ m : Nat, v = .int (m : Int) ∧ m ≤ 40 := by
  simp only [List.mem_cons, List.not_mem_nil, or_false] at h
  rcases h with rfl | rfl | rfl | rfl | rfl
  · exact ⟨12, rfl, by decide⟩
  · exact ⟨0, rfl, by decide⟩
  · exact ⟨3, rfl, by decide⟩
  · exact ⟨40, rfl, by decide⟩
  · exact ⟨1, rfl, by decide⟩
theorem ints_bl {v : V} (h : v ∈ [V.int 1, V.int 2, V.int 1, V.int 5]) : ∃ m : Int, v = .int m ∧ 1 ≤ m ∧ m ≤ 1000 ∧ okS 5 (Txt.mul (" " : Str) m) = true := by
  simp only [List.mem_cons, List.not_mem_nil, or_false] at h
  rcases h with rfl | rfl | rfl | rfl
  · exact ⟨1, rfl, by decide, by decide, by decide +kernel⟩
  · exact ⟨2, rfl, by decide, by decide, by decide +kernel⟩
  · exact ⟨1, rfl, by decide, by decide, by decide +kernel⟩
  · exact ⟨5, rfl, by decide, by decide, by decide +kernel⟩
def spTxt : Sp := fun vs H Q _ => ∃ (d g c : Addr) (n : Nat), vs = [.ref d] ∧ StA H d g c n ∧ n ≤ 800000000 ∧
  ∀ (x : Str) (H' : Hp), okE 700 x → StA H' d g c (n + 1000) → Kp d g H H' → Q (.str x) H'
structure MgX (K : PySem.W.Frag) (mg : Str → Option Value) (fM fD fP fW fN : Addr) : Prop extends MgN K mg fM fD fP fW where
  nm : mg "_law_tx_name" = some (.ref fN)
  knm : PySem.W.keepIn K (.ref fN) = true
section
variable {P : Program} {w : World} {K : PySem.W.Frag} {mg : Str → Option Value} {base : Heap}
theorem scTxt : FnScope ["state", "signs", "found", "lap", "sign", "word", "blanks"] ["state"] (defScope sTxt) := ⟨rfl, rfl, rfl, by decide +kernel, rfl, by decide +kernel, by decide +kernel⟩
theorem ok_txt {f fM fD fP fW fN : Addr} {fd fdM fdD fdP fdW fdN : FuncData} (F : Fun K "_law_new_text" "_law_new_text" sTxt f fd) (T : MgX K mg fM fD fP fW fN) (FM : Fun K "_law_mixed" "_law_mixed" sMix fM fdM) (bM : L2.Binds K fdM ["state"] [])
    (FD : Fun K "_law_draw" "_law_draw" sDrw fD fdD) (bD : L2.Binds K fdD ["state", "room"] []) (FP : Fun K "_law_pick" "_law_pick" sPck fP fdP) (bP : L2.Binds K fdP ["state", "some"] [])
    (FW : Fun K "_law_tx_words" "_law_tx_words" sWds fW fdW) (bW : L2.Binds K fdW [] []) (FN : Fun K "_law_tx_name" "_law_tx_name" sNam fN fdN) (bN : L2.Binds K fdN ["state", "taken"] []) : FnOk P w K mg base CX0 5 f fd ["state"] spTxt := by
  have GD : FnOk P w K mg base CX0 2 fD fdD ["state", "room"] spDrw := ok_drw FD T.toMgS FM bM
  have GP : FnOk P w K mg base CX0 3 fP fdP ["state", "some"] spPck := ok_pck FP T.toMgS FM bM FD bD
  have GN : FnOk P w K mg base CX0 4 fN fdN ["state", "taken"] spNam := ok_nam FN T.toMgN FM bM FD bD FP bP FW bW
  refine F.ok scTxt (fun vs H Q E h => ?_) (fun cdv A outer s H vs Q E hr h => ?_)
  · obtain ⟨d, g, c, n, rfl, _⟩ := h
    rfl
  · obtain ⟨d, g, c, n, rfl, S, hn, k⟩ := h
    have hr3 : Room 3 _ := hr.mono (by decide)
    have hr2 : Room 2 _ := hr.mono (by decide)
    refine ⟨_, pss_cons (ps_set (i := 1) scTxt.nd rfl (Or.inl rfl) pe_str)
      (pss_cons (ps_set (i := 2) scTxt.nd rfl (Or.inl rfl) pe_str)
      (pss_cons (ps_for PassesOwn.never rfl (pi_range1 (by rfl) T.rng (pa_cons (pe_call GP hr3 (by rfl) T.pk T.kpk bP .nil pass0 (pa_cons (pv 0) (pa_cons (pe_lst (pa_cons pe_int (pa_cons pe_int (pa_cons pe_int (pa_cons pe_int (pa_cons pe_int pa_nil)))))) pa_nil))) pa_nil)) (pg_name (i := 3) scTxt.nd rfl (Or.inl rfl))
        (pss_cons (ps_set (i := 4) scTxt.nd rfl (Or.inl rfl) (pe_ix ix_str (pv 1) (pe_call GD hr2 (by rfl) T.dr T.kdr bD .nil pass0 (pa_cons (pv 0) (pa_cons (pe_callB call_len_str (by rfl) T.len PySem.boot_len (pa_cons (pv 1) pa_nil)) pa_nil))) (fun _ _ => rfl)))
        (pss_cons (ps_set (i := 5) scTxt.nd rfl (Or.inl rfl) (pe_call GP hr3 (by rfl) T.pk T.kpk bP .nil pass0 (pa_cons (pv 0) (pa_cons (pe_lst (pa_cons pe_str (pa_cons pe_str (pa_cons pe_str (pa_cons pe_str (pa_cons pe_str (pa_cons pe_str (pa_cons pe_str
            (pa_cons (pe_call GN hr (by rfl) T.nm T.knm bN .nil pass0 (pa_cons (pv 0) (pa_cons (pe_lst pa_nil) pa_nil))) pa_nil))))))))) pa_nil))))
        (pss_cons (ps_set (i := 6) scTxt.nd rfl (Or.inl rfl) (pe_op op_mul_str pe_str (pe_call GP hr3 (by rfl) T.pk T.kpk bP .nil pass0 (pa_cons (pv 0) (pa_cons (pe_lst (pa_cons pe_int (pa_cons pe_int (pa_cons pe_int (pa_cons pe_int pa_nil))))) pa_nil)))))
        (pss_one (ps_set (i := 2) scTxt.nd rfl (Or.inl rfl) (pe_op op_add_str (pv 2) (pe_call GP hr3 (by rfl) T.pk T.kpk bP .nil pass0 (pa_cons (pv 0) (pa_cons (pe_lst (pa_cons (pv 5) (pa_cons (pv 6) (pa_cons (pv 4) (pa_cons pe_str (pa_cons (pv 5) (pa_cons (pv 6) (pa_cons pe_str (pa_cons (pv 4) (pa_cons pe_str (pa_cons pe_str (pa_cons pe_str
            (pa_cons (pe_op op_add_str (pv 5) (pv 6)) pa_nil))))))))))))) pa_nil))))))))))
      (pss_one (ps_ret (pv 2))))), ?_⟩
    -- for lap in range(..)
    refine ⟨_, rfl, (by show 5 ≤ sizeLine; decide), fun l hl => ?_⟩
    refine ⟨d, g, c, l, n, _, rfl, S.keep (same_new hl), by omega, upd_same, (S.ne_g hl).1, by simp, by decide, fun v2 H2 hv2 S2 kp2 => ?_⟩
    obtain ⟨m, rfl, hm⟩ := ints_txt hv2
    have kpa : Kp d g H H2 := (Kp.of (same_new hl)).trans kp2
    refine ⟨_, rfl, by omega, by omega, for_range (lo := 0) (n := ((m : Nat) : Int).toNat)
      (fun i σ H' => ∃ (x : Str) (lv sv wv bv : Option V), σ = [some (.ref d), some (.str SG), some (.str x), lv, sv, wv, bv] ∧ okE (15 * i) x ∧ StA H' d g c (n + 1 + 20 * i) ∧ Kp d g H H')
      ⟨Str.ofString "", none, none, none, none, rfl, ⟨by decide +kernel, by decide +kernel⟩, S2, kpa⟩ ?_ ?_⟩
    · rintro i σ H' hi ⟨x, lv, sv, wv, bv, rfl, okx, S3, kp3⟩
      have hi40 : i < 40 := by omega
      -- sign
      refine ⟨_, rfl, _, rfl, _, rfl, SG, rfl, (by decide +kernel), d, g, c, n + 1 + 20 * i, (SG.length : Int), rfl, S3, by omega, by decide +kernel, by decide +kernel, fun v3 H3 h2 h3 S4 kp4 => ?_⟩
      obtain ⟨c2, e2, ok2⟩ := item_ok oSG h2 h3
      refine ⟨SG, v3, c2, rfl, rfl, (by decide +kernel), e2, ?_⟩
      -- word
      refine ⟨_, rfl, ?_⟩
      refine ⟨_, rfl, Nat.zero_le _, fun a ha => ?_⟩
      refine ⟨d, g, c, a, _, rfl, S4.keep (same_new ha), by omega, upd_same, (S4.ne_g ha).1, fun nm H4 oknm S5 kp5 => ?_⟩
      refine ⟨(by show 8 ≤ sizeLine; decide), fun l2 hl2 => ?_⟩
      refine ⟨d, g, c, l2, _, (wc7 ++ [nm]).map V.str, rfl, S5.keep (same_new hl2), by omega, upd_same, (S5.ne_g hl2).1, by simp, (by rw [List.length_map, List.length_append]; show 7 + 1 ≤ _; omega), fun v6 H6 hv6 S6 kp6 => ?_⟩
      obtain ⟨wd, rfl, okw⟩ := pick_str (m := 10) (by rw [List.all_append, o7, List.all_cons, oknm]; rfl) hv6
      -- blanks
      refine ⟨_, rfl, (by show 4 ≤ sizeLine; decide), fun l3 hl3 => ?_⟩
      refine ⟨d, g, c, l3, _, _, rfl, S6.keep (same_new hl3), by omega, upd_same, (S6.ne_g hl3).1, by simp, by decide, fun v7 H7 hv7 S7 kp7 => ?_⟩
      obtain ⟨b, rfl, hb1, hb2, okb⟩ := ints_bl hv7
      refine ⟨_, b, rfl, rfl, hb1, hb2, (by decide +kernel), ?_⟩
      have hwb := okS_app okw okb (Nat.le_refl _)
      have lw := (okS_to okw).2.2
      have lb := (okS_to okb).2.2
      -- found + pick
      refine ⟨_, rfl, ?_⟩
      refine ⟨_, rfl, _, rfl, _, rfl, _, rfl, _, rfl, _, rfl, _, rfl, _, rfl, _, rfl, wd, _, rfl, rfl, (by rw [sizeLine_eq]; omega), (by show 12 ≤ sizeLine; decide), fun l4 hl4 => ?_⟩
      refine ⟨d, g, c, l4, _, [wd, Txt.mul (" " : Str) b, ⟨#[c2]⟩, "\n", wd, Txt.mul (" " : Str) b, "#", ⟨#[c2]⟩, "\n  ", "# a b\n", "\n\n", wd ++ Txt.mul (" " : Str) b].map V.str, rfl, S7.keep (same_new hl4), by omega, upd_same, (S7.ne_g hl4).1, by simp, (by rw [List.length_map]; show 12 ≤ _; decide), fun v8 H8 hv8 S8 kp8 => ?_⟩
      obtain ⟨y, rfl, oky⟩ := pick_str (m := 15) (by
        simp only [List.all_cons, List.all_nil, okS_mono okw (show 10 ≤ 15 by decide), okS_mono okb (show 5 ≤ 15 by decide), okS_mono ok2 (show 1 ≤ 15 by decide), hwb, Bool.true_and, Bool.and_true]
        decide +kernel) hv8
      have ly := (okS_to oky).2.2
      have lx := okx.2
      refine ⟨x, y, rfl, rfl, (by rw [sizeLine_eq]; omega), ?_⟩
      refine ⟨_, _, _, _, _, rfl, okE_app okx oky (by omega), S8.mono (by omega), ?_⟩
      exact kp3.trans (kp4.trans ((Kp.of (same_new ha)).trans (kp5.trans ((Kp.of (same_new hl2)).trans (kp6.trans ((Kp.of (same_new hl3)).trans (kp7.trans ((Kp.of (same_new hl4)).trans kp8))))))))
    · rintro σ H3 ⟨x, lv, sv, wv, bv, rfl, okx, S3, kp3⟩
      have hm8 : ((m : Nat) : Int).toNat ≤ 40 := by omega
      exact ⟨_, rfl, k x H3 ⟨okx.1, by have := okx.2; omega⟩ (S3.mono (by omega)) kp3⟩
end
end K2

set_option Elab.async false
set_option linter.all false
set_option pp.maxSteps 700
set_option maxRecDepth 100000
set_option maxHeartbeats 2000000
namespace K2
open PySem PySem.Spec PyProof.Rows L2
/-! ### an error that was caught and is kept -/
def exh (a : Addr) (cls : Value) (d : Option Addr) : HO := .ext fun h => ∃ (oe : Obj) (vs : Array Value), h.get? a = some oe ∧ Zc cls d oe ∧ oe.data = .fields vs
theorem exh_ok {P : Program} {w : World} {H : Hp} {h : Heap} {a : Addr} {cls : Value} {d : Option Addr} {oe : Obj} {vs : Array Value} (e : h.get? a = some oe) (z : Zc cls d oe) (hd : oe.data = .fields vs) : ObjOk P w H h a (exh a cls d) :=
  ⟨⟨oe, vs, e, z, hd⟩, ⟨oe, e⟩, fun h1 h2 x k => by
    obtain ⟨o1, v1, e1, z1, d1⟩ := x
    exact ⟨o1, v1, k _ e1, z1, d1⟩⟩
theorem exh_at {P : Program} {w : World} {H : Hp} {h : Heap} {a : Addr} {cls : Value} {d : Option Addr} (hok : HOk P w H h) (e : H a = some (exh a cls d)) : ∃ (oe : Obj) (vs : Array Value), h.get? a = some oe ∧ Zc cls d oe ∧ oe.data = .fields vs := by
  have x : ObjOk P w H h a (.ext fun h => ∃ (oe : Obj) (vs : Array Value), h.get? a = some oe ∧ Zc cls d oe ∧ oe.data = .fields vs) := hok a _ e
  exact x.1
section
variable {X : Cx} {pins : List (Addr × Obj)} {σ : L2.St} {H : Hp} {s : Shared}
theorem inv_track {a : Addr} {oe : Obj} {vs : Array Value} {cls : Value} {d : Option Addr} (I : Inv X pins σ H s) (ha : s.heap.get? a = some oe) (hz : Zc cls d oe) (hd : oe.data = .fields vs) (na : H a = none)
    (n0 : X.s_0.heap.get? a = none) (nL : a ≠ X.env.locals) (np : ∀ p ∈ X.pn ++ pins, p.1 ≠ a) : Inv X pins σ (upd H a (exh a cls d)) s := by
  have nH : ∀ {b : Addr} {o : HO}, H b = some o → b ≠ a := fun {b o} e => ne_of_none e na
  refine ⟨I.ok, I.os, I.bare, ⟨I.base.keep, I.base.slot, ?_, I.base.there, ?_, ?_, ?_⟩, I.loc, I.cell, ?_, ?_, ?_, ?_, I.len⟩
  · intro b o q n hx
    have : b ≠ a := fun z => by rw [z, n0] at q; cases q
    rw [upd_ne this]
    exact I.base.free b o q n hx
  · intro b xs q
    have q1 := I.base.tups b xs q
    rw [upd_ne (nH q1)]
    exact q1
  · intro b o u q
    have q1 := I.base.frzs b o u q
    rw [upd_ne (nH q1)]
    exact q1
  · intro b ps q
    obtain ⟨more, q1⟩ := I.base.tbls b ps q
    exact ⟨more, by rw [upd_ne (nH q1)]; exact q1⟩
  · rw [upd_ne nL.symm]
    exact I.free
  · intro x c e
    obtain ⟨v, o, h1, h2⟩ := I.cell x c e
    have : c ≠ a := fun z => by
      rw [z, ha] at h1
      cases h1
      rw [hd] at h2
      cases h2
    rw [upd_ne this]
    exact I.freeC x c e
  · intro p hp
    obtain ⟨p1, p2, p3, p4, p5⟩ := I.pin p hp
    exact ⟨p1, by rw [upd_ne (np p hp)]; exact p2, p3, p4, p5⟩
  · intro b o e
    by_cases hb : b = a
    · subst hb
      rw [upd_same] at e
      cases e
      exact exh_ok ha hz hd
    · rw [upd_ne hb] at e
      exact (I.hok b o e).stay (fun c v _ q => q) (fun c q => by rw [upd_ne (nH q)]; exact q) fun c xs q => by rw [upd_ne (nH q)]; exact q
end
/-- try .. except x as n: the error stays known behind the suite -/
def wKp (K : PySem.W.Frag) (c : Value) (i : Nat) (ts : Addr → Value → Option Addr → TS) (Wout : WX) (D : Ends) : WX := fun cls d σ H =>
  ∃ b, PySem.W.exmOne K cls c = some b ∧ (b = true → ∀ a, H a = none → ts a cls d { nx := fun σ' H' => D.nx (σ'.set i none) (upd H' a (exh a cls d)), rt := fun v H' => D.rt v (upd H' a (exh a cls d)), bk := fun σ' H' => D.bk (σ'.set i none) (upd H' a (exh a cls d)), ct := fun σ' H' => D.ct (σ'.set i none) (upd H' a (exh a cls d)) } (σ.set i (some (.ref a))) H) ∧ (b = false → Wout cls d σ H)
section
variable {X : Cx} {x n : Str} {c : Value} {i : Nat} {body suite : List Stmt} {b₀ : Stmt} {np pos pos' : Pos} {tb : WX → TS} {ts : Addr → Value → Option Addr → TS} {Wout : WX}
theorem ps_try_keep (hs : X.stack = X.env :: X.outer) (hf : X.env.frame = some X.env.locals) (hex : X.ex = []) (hN : X.N.Nodup) (hi : X.N[i]? = some n) (hln : X.env.kindOf n = some .local) (hc : Names X x c) (tk : Takes X Wout)
    (hb : ∀ (W : WX) (pn : List (Addr × Obj)) (xe : Value → Shared → Prop), Takes (X.tr pn xe) W → PassesOwn (model X.prog X.w) X.A X.env xe → PSs (X.tr pn xe) body (tb W))
    (hsu : ∀ (a : Addr) (oe : Obj) (cls : Value) (d : Option Addr) (pn : List (Addr × Obj)), Zc cls d oe → (∃ vs, oe.data = .fields vs) → PSs (X.suite a ((a, oe) :: pn)) (b₀ :: suite) (ts a cls d)) :
    PS X (.Try body [.ExceptHandler (some (.Name x np)) (some n) (b₀ :: suite) pos'] [] [] pos) (fun D σ H => tb (wKp X.K c i ts Wout D) D σ H) := by
  refine ⟨fun pins s σ H D I h => ?_⟩
  have ok := I.ok
  have hfr : X.A.frames = some (X.env :: X.outer) := by rw [ok.frames, hs]
  have hloc : Loc X.env.scope n := .inl hln
  refine wpAny_Try_except ?_
  refine wpAny_mono ((hb (wKp X.K c i ts Wout D) (X.pn ++ pins) (fun e s₁ => wpAny (model X.prog X.w) X.A (noteFrame e X.env) (fun _ s₂ => wpAny (model X.prog X.w) X.A (setFlight e none) (fun _ s₃ =>
    wpAny (model X.prog X.w) X.A (handleBy e X.env [.ExceptHandler (some (.Name x np)) (some n) (b₀ :: suite) pos']) (SP X pins D) X.xe s₃) X.xe s₂) X.xe s₁) (fun u s' xx => ?_) PassesOwn.looking).run [] s σ H D (I.toTry _) h) (fun f s1 hsp => ?_) (fun e s1 he => he)
  · obtain ⟨a, B, sI, pins', σ', H', cls, d, rfl, J', nb, up, sky, na, os, ag, b, hb1, hyes, hno⟩ := xx
    have J : Inv X pins σ' H' sI := J'.ofTry ok
    have sky' : Sky B (X.env :: X.outer) a (Zc cls d) X.env.locals s'.heap := by rw [← hs]; exact sky
    show wpAny (model X.prog X.w) X.A (noteFrame (.ref a) X.env) _ _ _
    refine Sky.land Zc.steady hfr hf sky' fun h3 fl3 up3 => ?_
    have J3 : Inv X pins σ' H' { s' with heap := h3 } := J.landed nb fl3.1 (up.trans up3) os ag
    obtain ⟨oe3, vs3, he3, hz3, hd3⟩ := fl3.there
    have nfr : a ∉ frs (X.env :: X.outer) := fun hm => by
      obtain ⟨_, o', e', hnf⟩ := fl3.2.2.1.mem hm
      rw [he3] at e'; cases e'
      exact hnf _ hd3
    have nL : a ≠ X.env.locals := fun z => nfr (List.mem_filterMap.mpr ⟨X.env, List.mem_cons_self, by rw [hf, z]⟩)
    have nF : a ∉ X.fs := fun hm => by
      obtain ⟨e, he, q⟩ := List.mem_filterMap.mp hm
      exact nfr (List.mem_filterMap.mpr ⟨e, List.mem_cons_of_mem _ he, q⟩)
    have ba : B.get? a = none := fl3.2.1
    have nS : a ∉ frs X.stack := by rw [hs]; exact nfr
    -- the error is newer than the def's entry, and than all that is pinned
    have nI : sI.heap.get? a = none := by
      cases e : sI.heap.get? a with
      | none => rfl
      | some o =>
        have := nb a o e nS
        rw [ba] at this
        cases this
    have n0 : X.s_0.heap.get? a = none := by
      cases e : X.s_0.heap.get? a with
      | none => rfl
      | some o =>
        obtain ⟨o', e'⟩ := J.base.there a o e (by rw [hex]; exact List.not_mem_nil)
        rw [nI] at e'
        cases e'
    have npn : ∀ p ∈ X.pn ++ pins, p.1 ≠ a := fun p hp z => by
      have := (J.pin p hp).1
      rw [z, nI] at this
      cases this
    have S3 := J3.suite he3 hd3 na nL nF
    refine wpAny_handleBy_cons (codeAny_handlers_test ?_) (by intro q; cases q)
    have LT : PySem.W.Looks (model X.prog X.w) h3 (typeOf (.ref a)) cls := fun A Q E s k q => wpAny_typeOf_ref (k _ _ he3) (by rw [hz3.1]; exact q)
    have LM := PySem.W.exm_one (M := model X.prog X.w) (J3.kIn) LT hb1
    have test : ∀ {Q : Value → Shared → Prop} {E : Value → Shared → Prop}, Q c { s' with heap := h3 } → wpAny (model X.prog X.w) (X.A.mark (some (.ref a))) (eval (.Name x np) X.env) Q E { s' with heap := h3 } := fun {Q E} q => by
      obtain ⟨hg, hdbg, hm | ⟨hm, hv, hnn⟩⟩ := hc
      · exact ld_glob (X := X.suite a ((a, oe3) :: (X.pn ++ pins))) S3 hg hm q hdbg
      · exact ld_blt (X := X.suite a ((a, oe3) :: (X.pn ++ pins))) S3 hg hm hv q hnn hdbg
    refine test (LM.here ?_)
    cases b with
    | true =>
      refine codeAny_handlers_suite_as ?_
      refine HandSPX.lands_againZ fl3 fun h4 fl4 up4 => ?_
      have J4 : Inv X pins σ' H' { s' with heap := h4 } := J.landed nb fl4.1 ((up.trans up3).trans up4) os ag
      obtain ⟨oe4, vs4, he4, hz4, hd4⟩ := fl4.there
      have S4 := J4.suite he4 hd4 na nL nF
      refine store_ok (X := X.suite a ((a, oe4) :: (X.pn ++ pins))) (v := .ref a) S4 hN hi hloc rfl (fun s5 S5 => ?_) (.inr hln)
      refine wpAny_mono ((hsu a oe4 cls d (X.pn ++ pins) hz4 ⟨_, hd4⟩).run [] s5 _ H' _ S5 (hyes rfl a na)) (fun f s6 hsp => ?_) (fun _ _ z => False.elim z)
      have end_ : ∀ {σ6 : L2.St} {H6 : Hp} {Q : Shared → Prop}, Inv (X.suite a ((a, oe4) :: (X.pn ++ pins))) [] σ6 H6 s6 → (∀ s7, Inv X pins (σ6.set i none) (upd H6 a (exh a cls d)) s7 → Q s7) →
          wpAny (model X.prog X.w) X.A (do bindName X.env n .none; unbindBehindTheSuite X.env n pos') (fun _ s7 => Q s7) X.xe s6 := fun {σ6 H6 Q} S6 hq => by
        obtain ⟨g1, g2, _, _, _⟩ := S6.pin (a, oe4) (List.mem_append_left _ List.mem_cons_self)
        exact gone_ok (inv_track (S6.unsuite ok) g1 hz4 hd4 g2 n0 nL npn) hN hi hln hq
      cases f with
      | next =>
        obtain ⟨σ6, H6, S6, q6⟩ := hsp
        exact end_ S6 fun s7 J7 => ⟨_, _, J7, q6⟩
      | brk =>
        obtain ⟨σ6, H6, S6, q6⟩ := hsp
        exact end_ S6 fun s7 J7 => ⟨_, _, J7, q6⟩
      | cont =>
        obtain ⟨σ6, H6, S6, q6⟩ := hsp
        exact end_ S6 fun s7 J7 => ⟨_, _, J7, q6⟩
      | ret u =>
        obtain ⟨v6, σ6, H6, S6, r6, q6⟩ := hsp
        exact end_ S6 fun s7 J7 => ⟨_, _, _, J7, r6, q6⟩
    | false =>
      show wpAny _ X.A (handleBy (.ref a) X.env []) _ _ _
      refine wpAny_handleBy_nil ?_
      obtain ⟨k1, k2, k3, oe, vs, T, oT, ts', he, hz, hd, h1, hr⟩ := id fl3
      unfold PySem.passOn
      refine wpAny_bind (wpAny_field he hd h1 ?_)
      rw [if_neg (show ¬ ((Value.ref T == Value.none) = true) from by simp)]
      have fin : wpAny (model X.prog X.w) X.A (setFlight (.ref a) X.env.frame) (fun _ s4 => wpAny (model X.prog X.w) X.A (throw (.ref a) : Sem Flow) (SP X pins D) X.xe s4) X.xe { s' with heap := h3 } := by
        rw [hf]
        refine HandSPX.setFlight_upZ fl3 fun h4 hh4 up4 => wpAny_throw (tk _ _ ?_)
        exact ⟨a, B, sI, pins, σ', H', cls, d, rfl, J, nb, (up.trans up3).trans up4, .inr (.inr (by rw [hs]; exact hh4)), na, os, ag, hno rfl⟩
      first
        | exact wpAny_bind (wpAny_pure (wpAny_bind fin))
        | exact wpAny_bind fin
  · cases f with
    | next =>
      obtain ⟨σ', H', J', q⟩ := hsp
      exact wpAny_execs_nil ⟨σ', H', J'.ofTry ok, q⟩
    | brk =>
      obtain ⟨σ', H', J', q⟩ := hsp
      exact ⟨σ', H', J'.ofTry ok, q⟩
    | cont =>
      obtain ⟨σ', H', J', q⟩ := hsp
      exact ⟨σ', H', J'.ofTry ok, q⟩
    | ret u =>
      obtain ⟨v, σ', H', J', r, q⟩ := hsp
      exact ⟨v, σ', H', J'.ofTry ok, r, q⟩
end
end K2

set_option Elab.async false
set_option linter.all false
set_option pp.maxSteps 700
set_option maxRecDepth 100000
set_option maxHeartbeats 2000000
namespace K2
open PySem PySem.Spec PyProof.Rows L2
abbrev sCgt : Stmt := top 15
abbrev sBad : Stmt := top 19
/-! ### what is asked of a kept error -/
theorem exh_inst {X : Cx} {pins : List (Addr × Obj)} {σ : L2.St} {H : Hp} {s : Shared} {a D dd : Addr} {fs : List (Str × V)} (I : Inv X pins σ H s) (h1 : H a = some (exh a (.ref D) (some dd))) (h2 : H dd = some (.xd fs)) :
    ∃ (oe od : Obj) (mA : Str → Option Value), PySem.W.InstAt s.heap a oe D (some od) ∧ (∀ f, RelO (fs.lookup f) (mA f)) ∧ ∀ n, PySem.W.lookIn n od = some (mA n) := by
  obtain ⟨oe, vs, ha, hz, hd⟩ := exh_at I.hok h1
  have hx : ObjOk X.prog X.w H s.heap dd (.xd fs) := I.hok dd _ h2
  obtain ⟨mA, hns, hr⟩ := hx
  obtain ⟨od, ho, hl⟩ := lookIn_ns hns
  exact ⟨oe, od, mA, ⟨ha, hz.1, by unfold PySem.W.notCls; rw [hd] <;> rfl, by rw [hz.2]; exact ho⟩, hr, hl⟩
/-- isinstance(e, c), e a kept error of the class at D -/
def rIsH (K : PySem.W.Frag) (D : Addr) : List V → Hp → VK → Prop := fun xs H Q => ∃ (a dd : Addr) (fs : List (Str × V)) (c : V) (cv : Value) (b : Bool), xs = [.ref a, c] ∧ (∀ u, RelV c u → u = cv) ∧ H a = some (exh a (.ref D) (some dd)) ∧ H dd = some (.xd fs) ∧
  PySem.W.kitOne K (.ref D) cv = some b ∧ Q (.bl b) H
theorem call_isH {X : Cx} {D : Addr} (C : ExcC X.K D) : CallR X (.builtin "isinstance") (rIsH X.K D) := by
  intro pins s σ H xs us Q I r h
  obtain ⟨a, dd, fs, c, cv, b, rfl, hcv, h1, h2, e, q⟩ := h
  obtain ⟨u1, u2, rfl, r1, r2⟩ := vals2 r
  cases r1
  have ec := hcv _ r2
  subst ec
  obtain ⟨oe, od, mA, J, _, _⟩ := exh_inst I h1 h2
  have hcl : (PySem.W.clsIn X.K D).isSome = true := by
    obtain ⟨cd, hc, _⟩ := PySem.W.any_some C.hd
    rw [hc]
    rfl
  exact PySem.W.kia_one (PySem.W.kitx_exc hcl C.hg C.hk C.hs C.ha C.hn C.ht C.hm) I.kIn J e (fun z => nomatch z) fun tk => ⟨.bl b, H, I.kept (t' := tk) fun _ _ z => z, rfl, q⟩
/-- e.f, e a kept error of the class at C -/
def tXh (C : Addr) (f : Str) (te : TE) : TE := fun σ H Q => te σ H fun x H1 => ∃ (a dd : Addr) (fs : List (Str × V)) (v : V), x = .ref a ∧ H1 a = some (exh a (.ref C) (some dd)) ∧ H1 dd = some (.xd fs) ∧ fs.lookup f = some v ∧ Q v H1
theorem pe_xh {X : Cx} {C : Addr} {e : Expr} {te : TE} {pos : Pos} {n : Str} (T : XfC X.K C) (hno : PySem.W.findIn X.K (.ref C) n = some none) (he : PE X e te) (hb : attributeBase e n X.env (eval e X.env) = eval e X.env := by rfl) :
    PE X (.Attribute e n pos) (tXh C n te) := by
  refine ⟨fun pins s σ H Q I h => ?_⟩
  refine attr_of hb (thn (he.run pins s σ H _ I h) fun u s1 hh => ?_)
  obtain ⟨x, H1, I1, rx, a, dd, fs, v, ex, h1, h2, l, q⟩ := hh
  subst ex
  obtain rfl : u = Value.ref a := rx
  obtain ⟨oe, od, mA, J, hr, hl⟩ := exh_inst I1 h1 h2
  obtain ⟨u, hu, ru⟩ := RelO.some_of (v := v) (o := mA n) (by rw [← l]; exact hr n)
  exact HandSPX.exc_get I1.kIn J T.ga T.gg T.exC (PySem.W.findObj_own T.hdC hno rfl (by rw [hl, hu])) (handed_of ru) ⟨v, H1, I1.tok _, ru, q⟩
def fs11 : List (Str × V) := [("column", .int 1), ("line", .int 1)]
theorem fs_line : fs11.lookup ("line" : Str) = some (.int 1) := by
  unfold fs11
  rw [lookup_put, if_neg (by decide +kernel), lookup_put, if_pos rfl]
theorem fs_col : fs11.lookup ("column" : Str) = some (.int 1) := by
  unfold fs11
  rw [lookup_put, if_pos rfl]
def spBad (C : Addr) : Sp := fun vs H Q _ => ∃ (a dd : Addr), vs = [.ref a, .int 1, .int 1] ∧ H a = some (exh a (.ref C) (some dd)) ∧ H dd = some (.xd fs11) ∧ ∀ H', Same H H' → Q (.bl true) H'
structure MgB (K : PySem.W.Frag) (mg : Str → Option Value) (C : Addr) : Prop where
  mC : mg "BadText" = some (.ref C)
  isi : mg "isinstance" = none
  ec : ExcC K C
  xf : XfC K C
  nl : PySem.W.findIn K (.ref C) "line" = some none
  nc : PySem.W.findIn K (.ref C) "column" = some none
  kit : PySem.W.kitOne K (.ref C) (.ref C) = some true
section
variable {P : Program} {w : World} {K : PySem.W.Frag} {mg : Str → Option Value} {base : Heap}
theorem scBad : FnScope ["raised", "line", "column"] ["raised", "line", "column"] (defScope sBad) := ⟨rfl, rfl, rfl, by decide +kernel, rfl, by decide +kernel, by decide +kernel⟩
theorem ok_bad {f C : Addr} {fd : FuncData} (F : Fun K "_law_tx_bad" "_law_tx_bad" sBad f fd) (T : MgB K mg C) : FnOk P w K mg base CX0 1 f fd ["raised", "line", "column"] (spBad C) := by
  refine F.ok scBad (fun vs H Q E h => ?_) (fun cdv A outer s H vs Q E hr h => ?_)
  · obtain ⟨a, dd, rfl, _⟩ := h
    rfl
  · obtain ⟨a, dd, rfl, h1, h2, k⟩ := h
    refine ⟨_, pss_one (ps_ret (pe_and (pe_callB (call_isH T.ec) (by rfl) T.isi (by decide +kernel) (pa_cons (pv 0) (pa_cons (pe_glob (v := .ref C) (by rfl) T.mC rfl) pa_nil)))
      (pe_one (pe_cmpR (op_eqD hr.units) (pe_tup (pa_cons (pe_xh T.xf T.nl (pv 0)) (pa_cons (pe_xh T.xf T.nc (pv 0)) pa_nil))) (pe_tup (pa_cons (pv 1) (pa_cons (pv 2) pa_nil))) (nomark _))))), ?_⟩
    refine ⟨_, rfl, a, dd, fs11, _, .ref C, true, rfl, (fun u hu => hu), h1, h2, T.kit, true, rfl, ?_⟩
    refine iteT ?_
    refine ⟨_, rfl, a, dd, fs11, _, rfl, h1, h2, fs_line, _, rfl, a, dd, fs11, _, rfl, h1, h2, fs_col, (by show 2 ≤ sizeLine; decide), fun p hp => ?_⟩
    refine ⟨_, rfl, _, rfl, (by show 2 ≤ sizeLine; decide), fun q hq => ?_⟩
    have s1 := (same_new hp (o := .tup [.int 1, .int 1])).trans (same_new (o := .tup [.int 1, .int 1]) hq)
    refine ⟨.tuple [.int 1, .int 1], .tuple [.int 1, .int 1], .tup (SqT.of (by rw [upd_ne (ne_of_none upd_same hq)]; exact upd_same)) (.cons (.int 1) (.cons (.int 1) .nil)), .tup (SqT.of upd_same) (.cons (.int 1) (.cons (.int 1) .nil)), by decide, by decide, ?_⟩
    exact k _ s1
end
end K2

set_option Elab.async false
set_option linter.all false
set_option pp.maxSteps 700
set_option maxRecDepth 100000
set_option maxHeartbeats 2000000
namespace K2
open PySem PySem.Spec PyProof.Rows L2
open LamX (GivesTo CodeO Tabs TabS TabB tLam pe_lamcall lamCx lamEnv lamS_by ExtN)
theorem pss_len {X : Cx} {body : List Stmt} {t : TS} {n : Nat} (h : PSs X body t) (hn : X.N.length = n) : PSs X body (fun D σ H => σ.length = n → t D σ H) :=
  ⟨fun pins s σ H D I hh => h.run pins s σ H D I (hh (I.len.trans hn))⟩
theorem pe_weak {X : Cx} {e : Expr} {te : TE} (he : PE X e te) : PE X e (fun σ H Q => ∃ Qc : VK, te σ H Qc ∧ ∀ v H1, Qc v H1 → Q v H1) := by
  refine ⟨fun pins s σ H Q I h => ?_⟩
  obtain ⟨Qc, h, k⟩ := h
  exact thn (he.run pins s σ H Qc I h) fun u s1 ⟨v, H1, I1, r, q⟩ => ⟨v, H1, I1, r, k v H1 q⟩
/-- f(k = v, ..) -/
theorem pe_callK0 {X : Cx} {CX : CXT} {k : Nat} {f : Addr} {fd : FuncData} {ps ks : List Str} {sp : Sp} {E : XK} {x : Str} {p pos : Pos} {kws : List Keyword} {tk : TA} {g : List Value → List Value → List Value} {gV : List V → List V → List V}
    (F : FnOk X.prog X.w X.K X.mg X.base CX k f fd ps sp) (hr : Room k X.A) (hg : Gl X x) (hm : X.mg x = some (.ref f)) (hk : PySem.W.keepIn X.K (.ref f) = true) (hb : KBinds X.K fd ps ks g gV) (hx : Passes CX X E)
    (hkw : PK X kws tk) (hall : (backToKw pos (keywordEach kws X.env)).all (·.1.isSome) = true := by rfl) (hks : (backToKw pos (keywordEach kws X.env)).filterMap (·.1) = ks := by rfl)
    (hdb : (x == ("__debug__" : Str)) = false := by decide) (hpl : ((backTo pos (starEach [] X.env)).any (·.1) || (backToKw pos (keywordEach kws X.env)).any (·.1.isNone)) = false := by rfl) :
    PE X (.Call (.Name x p) [] kws pos) (fun σ H Q => tk σ H fun zs H2 => sp (gV [] zs) H2 Q E) := by
  refine ⟨fun pins s σ H Q I h => ?_⟩
  refine wpAny_Call_Name_kw (ld_glob I hg hm ?_ hdb)
  refine PySem.W.callWith_KW0 (h₀ := X.base) I.ok.mod.kin hk hall ?_ hpl
  refine thn (hkw.run pos pins s σ H _ I h) fun ws s2 ⟨zs, H2, I2, rz, q2⟩ => ⟨I2.kIn, ?_⟩
  rw [hks]
  exact run_fnk F hr hb hx I2 .nil rz q2
/-- _law_caught(action): what the call raises, kept; or None -/
def TTc (K : PySem.W.Frag) (CE : Addr) : (XK → Hp → VK → Prop) → Hp → VK → Prop := fun tl H Q =>
  tl (fun cls d H1 => ∃ b, PySem.W.exmOne K cls (.ref CE) = some b ∧ (b = true → ∀ a, H1 a = none → Q (.ref a) (upd H1 a (exh a cls d))) ∧ (b = false → False)) H (fun _ H1 => Q .non H1)
abbrev NC : List Str := ["action", "found", "error"]
theorem scC : FnScope NC ["action"] (defScope sCgt) := ⟨rfl, rfl, rfl, by decide +kernel, rfl, by decide +kernel, by decide +kernel⟩
theorem caught_gives {X : Cx} {CE g : Addr} {cdg : Value} {q : Str} (hme : X.mg "ClockError" = some (.ref CE)) : GivesTo X NC "_law_caught" (defScope sCgt) g cdg (defBody sCgt) "action" q (TTc X.K CE) := by
  intro f c' s H Q tl act hc h
  refine ⟨_, pss_cons (ps_set (i := 1) scC.nd rfl (Or.inl rfl) pe_non)
    (pss_cons (ps_try_keep (X := (cxOf C8.CX0 X.prog X.w X.K X.mg X.base NC "_law_caught" (defScope sCgt) g cdg X.A X.stack s H C8.E0).nox) (c := .ref CE) (i := 2)
      (tb := fun W D σ H => ∃ (Ech : XK) (Qc : VK), (∀ cls d σ' H', Ech cls d H' → W cls d σ' H') ∧ σ[0]? = some (some (.ref f)) ∧ H c' = some (CodeO c' q) ∧ tl Ech H Qc ∧ ∀ v H1, Qc v H1 → D.nx σ H1)
      rfl rfl rfl scC.nd rfl rfl ⟨rfl, rfl, .inl hme⟩ takes0 (fun W pn xe tk _ => ?_) (fun a oe cls d pn _ _ => pss_len (X := Cx.suite (cxOf C8.CX0 X.prog X.w X.K X.mg X.base NC "_law_caught" (defScope sCgt) g cdg X.A X.stack s H C8.E0).nox a ((a, oe) :: pn)) (n := 3) (pss_one (ps_set (i := 1) scC.nd rfl (Or.inl rfl) (pv 2))) rfl))
    (pss_one (ps_ret (pv 1)))), ?_⟩
  · refine ⟨fun pins s' σ H' D I h' => ?_⟩
    obtain ⟨Ech, Qc, hW, h1, h2, h3, h4⟩ := h'
    have hp := fun p1 p2 => act W pn xe Ech p1 p2 tk hW
    exact (pss_one (ps_expr (pe_weak (hp _ _)))).run pins s' σ H' D I ⟨Qc, ⟨h1, h2, h3⟩, h4⟩
  · refine ⟨_, _, ?_, rfl, hc, h, fun v H1 q => ⟨_, rfl, q⟩⟩
    rintro cls d σ' H' ⟨b, e1, e2, e3⟩
    refine ⟨b, e1, fun hb a ha hl => ?_, fun hb => (e3 hb).elim⟩
    match σ', hl with
    | [x, y, z], _ => exact ⟨_, rfl, _, rfl, e2 hb a ha⟩
    | [], hl => simp at hl
    | [_], hl => simp at hl
    | [_, _], hl => simp at hl
    | _ :: _ :: _ :: _ :: _, hl => simp at hl
end K2

set_option Elab.async false
set_option linter.all false
set_option pp.maxSteps 700
set_option maxRecDepth 100000
set_option maxHeartbeats 2000000
namespace K2
open PySem PySem.Spec PyProof.Rows L2
open LamX (GivesTo CodeO Tabs TabS TabB tLam pe_lamcall lamCx lamEnv lamS_by ExtN)
open TL (tl)
abbrev sLaw : Stmt := top 21
/-! ### tokens as data -/
theorem ixV_d {K : PySem.W.Frag} {H : Hp} (i : Option Int) : Dp K H (match i with | some i => V.int i | none => V.non) (match i with | some i => PyData.int i | none => PyData.none) := by
  cases i with
  | none => exact .non
  | some i => exact .int i
theorem dp_tok {K : PySem.W.Frag} {H : Hp} {v : V} {t : Tok} (h : TokAt H v t) : Dp K H v t.d := by
  obtain ⟨a, rfl, h⟩ := h
  exact .tup (SqT.of h) (.cons (.int _) (.cons (.int _) (.cons (ixV_d t.i) (.cons (.str _) .nil))))
theorem dp_toks {K : PySem.W.Frag} {H : Hp} : ∀ {xs : List V} {ts : List Tok}, Paired (TokAt H) xs ts → DpAll K H xs (ts.map Tok.d)
  | _, _, .nil => .nil
  | _, _, .cons h r => .cons (dp_tok h) (dp_toks r)
def asc (x : Str) : Prop := ∀ c ∈ tl x, c < 128
theorem asc_ok {x : Str} (h : asc x) : PyData.strOk x = true := by
  unfold PyData.strOk
  rw [Array.all_eq_true]
  intro i hi
  have := h _ (by rw [Array.mem_toList_iff]; exact Array.getElem_mem hi)
  exact decide_eq_true (by omega)
theorem asc_cut {l : List Nat} (h : ∀ c ∈ l, c < 128) (i j : Nat) : asc (cut l i j) := fun c hc => h c (List.mem_of_mem_drop (List.mem_of_mem_take hc))
theorem asc_nl : asc nlS := by
  unfold asc
  decide +kernel
theorem asc_et : asc etS := by
  unfold asc
  decide +kernel
theorem go_asc (n : Int) (l : List Nat) (hl : ∀ c ∈ l, c < 128) (i : Nat) (acc : List Tok) (b : Nat) (ha : ∀ t ∈ acc, asc t.s) : ∀ t ∈ go n l i acc b, asc t.s := by
  induction i, acc, b using go.induct (n := n) (l := l) with
  | case1 i acc b h hb ih =>
    rw [go_blank h hb]
    exact ih ha
  | case2 i acc b h hb ih =>
    rw [go_tok h hb]
    refine ih fun t ht => ?_
    rcases List.mem_append.mp ht with ht | ht
    · exact ha t ht
    · rw [List.mem_singleton.mp ht]
      exact asc_cut hl _ _
  | case3 i b h =>
    rw [go_end h]
    intro t ht
    cases ht
  | case4 i acc b h hne =>
    rw [go_end h]
    intro t ht
    split at ht
    · cases ht
    · rcases List.mem_append.mp ht with ht | ht
      · exact ha t ht
      · rw [List.mem_singleton.mp ht]
        exact asc_nl
theorem par_mem (S : List Nat) : ∀ (l acc a b : List Nat), TL.par S acc l = some (a, b) → ∀ c ∈ a, c ∈ acc ∨ c ∈ l
  | [], acc, a, b => by
    intro h
    cases h
  | x :: r, acc, a, b => by
    intro h c hc
    unfold TL.par at h
    split at h
    · have h2 : acc = a := congrArg Prod.fst (Option.some.inj h)
      exact .inl (h2 ▸ hc)
    · rcases par_mem S r (acc ++ [x]) a b h c hc with h1 | h1
      · rcases List.mem_append.mp h1 with h1 | h1
        · exact .inl h1
        · rw [List.mem_singleton.mp h1]
          exact .inr (List.mem_cons_self ..)
      · exact .inr (List.mem_cons_of_mem _ h1)
theorem asc_body {x : Str} (h : asc x) : asc (bodyOf x) := by
  unfold bodyOf
  rw [TL.partition_par x hash (by rw [tl_hash]; simp)]
  cases e : TL.par (tl hash) [] (tl x) with
  | none => exact h
  | some p =>
    obtain ⟨a, b⟩ := p
    intro c hc
    rcases par_mem _ _ _ _ _ e c hc with h1 | h1
    · cases h1
    · exact h c h1
theorem spl_mem (S : List Nat) : ∀ (l : List Nat) (k : Nat) (acc : List Nat), ∀ p ∈ TL.spl S k acc l, ∀ c ∈ p, c ∈ acc ∨ c ∈ l
  | [], k, acc => by
    intro p hp c hc
    have e : TL.spl S k acc [] = [acc] := by cases k <;> rfl
    rw [e] at hp
    rw [List.mem_singleton.mp hp] at hc
    exact .inl hc
  | x :: r, 0, acc => by
    intro p hp c hc
    unfold TL.spl at hp
    split at hp
    · rcases List.mem_cons.mp hp with h | h
      · rw [h] at hc
        exact .inl hc
      · rcases spl_mem S r (S.length - 1) [] p h c hc with h1 | h1
        · cases h1
        · exact .inr (List.mem_cons_of_mem _ h1)
    · rcases spl_mem S r 0 (acc ++ [x]) p hp c hc with h1 | h1
      · rcases List.mem_append.mp h1 with h1 | h1
        · exact .inl h1
        · rw [List.mem_singleton.mp h1]
          exact .inr (List.mem_cons_self ..)
      · exact .inr (List.mem_cons_of_mem _ h1)
  | x :: r, k + 1, acc => by
    intro p hp c hc
    unfold TL.spl at hp
    rcases spl_mem S r k acc p hp c hc with h1 | h1
    · exact .inl h1
    · exact .inr (List.mem_cons_of_mem _ h1)
theorem asc_row {z r : Str} (h : asc z) (hr : r ∈ Txt.split z nlS) : asc r := by
  have e := TL.split_spl z nlS (by rw [tl_nl]; simp) (nl_kind z)
  intro c hc
  rcases spl_mem (tl nlS) (tl z) 0 [] (tl r) (by rw [← e]; exact List.mem_map.mpr ⟨r, hr, rfl⟩) c hc with h1 | h1
  · cases h1
  · exact h c h1
theorem rows_asc : ∀ (rs : List Str) (i : Nat), (∀ r ∈ rs, asc r) → ∀ t ∈ rowsToks i rs, asc t.s
  | [], i, _ => fun t ht => by cases ht
  | r :: rs, i, h => fun t ht => by
    unfold rowsToks at ht
    rcases List.mem_append.mp ht with ht | ht
    · exact go_asc _ _ (asc_body (h r (List.mem_cons_self ..))) 0 [] 0 (fun t h => by cases h) t ht
    · exact rows_asc rs (i + 1) (fun r hr => h r (List.mem_cons_of_mem _ hr)) t ht
theorem all_asc {z : Str} (h : asc z) : ∀ t ∈ allToks z, asc t.s := by
  intro t ht
  unfold allToks at ht
  rcases List.mem_append.mp ht with ht | ht
  · exact rows_asc _ 0 (fun r hr => asc_row h hr) t ht
  · rw [List.mem_singleton.mp ht]
    exact asc_et
theorem lay_toks : ∀ {ts : List Tok}, (∀ t ∈ ts, asc t.s) → PyData.canLayAll0 (ts.map Tok.d) = true ∧ PyData.depthAll (ts.map Tok.d) ≤ 1
  | [], _ => ⟨rfl, Nat.zero_le _⟩
  | t :: ts, h => by
    obtain ⟨h1, h2⟩ := lay_toks (ts := ts) fun t ht => h t (List.mem_cons_of_mem _ ht)
    have h3 := asc_ok (h t (List.mem_cons_self ..))
    have e1 : PyData.canLay0 t.d = true := by
      unfold Tok.d
      cases t.i <;> (show (true && (true && (true && (PyData.strOk t.s && true)))) = true; rw [h3]; rfl)
    have e2 : PyData.depth t.d = 1 := by
      unfold Tok.d
      cases t.i <;> rfl
    refine ⟨?_, ?_⟩
    · show (PyData.canLay0 t.d && PyData.canLayAll0 (ts.map Tok.d)) = true
      rw [e1, h1]
      rfl
    · show max (PyData.depth t.d) (PyData.depthAll (ts.map Tok.d)) ≤ 1
      rw [e2]
      omega
theorem sh_toks {ts : List Tok} (h : ∀ t ∈ ts, asc t.s) : SeqAt.shaped (.list (ts.map Tok.d)) = true := by
  obtain ⟨h1, h2⟩ := lay_toks h
  unfold SeqAt.shaped
  show (PyData.canLayAll0 (ts.map Tok.d) && decide (PyData.depthAll (ts.map Tok.d) + 1 ≤ 64)) = true
  rw [h1, decide_eq_true (by omega)]
  rfl
end K2

set_option Elab.async false
set_option linter.all false
set_option pp.maxSteps 700
set_option maxRecDepth 100000
set_option maxHeartbeats 2000000
namespace K2
open PySem PySem.Spec PyProof.Rows L2
open LamX (GivesTo CodeO Tabs TabS TabB tLam pe_lamcall lamCx lamEnv lamS_by ExtN)
open TL (tl)
abbrev NL : List Str := ["script", "state", "lap", "text", "due", "found", "line", "column", "indent", "word", "bad", "one"]
theorem scLaw : FnScope NL ["script"] (defScope sLaw) := ⟨rfl, rfl, rfl, by decide +kernel, rfl, by decide +kernel, by decide +kernel⟩
def spLaw (K : PySem.W.Frag) (P : Addr) : Sp := fun vs H Q _ => ∃ (a : Addr) (ns : List Int), vs = [.ref a] ∧ SqL K H a (ns.map V.int) ∧ ns.length ≤ 63 ∧ H P = some (.tbl #[]) ∧ ∀ H', Q (.bl true) H'
structure MgW (K : PySem.W.Frag) (mg : Str → Option Value) (CE C fTO fBeg fTxt fGT fPck fBad fCgt : Addr) : Prop where
  beg : mg "_law_begun" = some (.ref fBeg)
  kbeg : PySem.W.keepIn K (.ref fBeg) = true
  txt : mg "_law_new_text" = some (.ref fTxt)
  ktxt : PySem.W.keepIn K (.ref fTxt) = true
  gt : mg "_law_tx_tokens" = some (.ref fGT)
  kgt : PySem.W.keepIn K (.ref fGT) = true
  to : mg "tokens_of" = some (.ref fTO)
  kto : PySem.W.keepIn K (.ref fTO) = true
  pck : mg "_law_pick" = some (.ref fPck)
  kpck : PySem.W.keepIn K (.ref fPck) = true
  bad : mg "_law_tx_bad" = some (.ref fBad)
  kbad : PySem.W.keepIn K (.ref fBad) = true
  cgt : mg "_law_caught" = some (.ref fCgt)
  kcgt : PySem.W.keepIn K (.ref fCgt) = true
  ce : mg "ClockError" = some (.ref CE)
  isi : mg "isinstance" = none
  rng : mg "range" = none
  min : mg "min" = none
  len : mg "len" = none
  lst : mg "list" = none
  bol : mg "bool" = none
  tpl : mg "tuple" = none
  exm : PySem.W.exmOne K (.ref C) (.ref CE) = some true
theorem tabs_but {T : List (Addr × Str)} {H H' : Hp} (t : Tabs T H) (k : ∀ b o, H b = some o → (∀ kv, o ≠ .dK kv) → (∀ xs, o ≠ .lst xs) → H' b = some o) : Tabs T H' := fun p hp => by
  obtain ⟨ps, h1, h2, h3⟩ := t p hp
  refine ⟨ps, k _ _ h1 (fun _ z => by cases z) (fun _ z => by cases z), h2, fun pos cv hc => ?_⟩
  obtain ⟨c', e1, e2⟩ := h3 pos cv hc
  exact ⟨c', e1, k _ _ e2 (fun kv z => by unfold CodeO at z; cases z) (fun xs z => by unfold CodeO at z; cases z)⟩
theorem tabs_kp {T : List (Addr × Str)} {H H' : Hp} {d g c : Addr} {n : Nat} (t : Tabs T H) (S : StA H d g c n) (k : Kp d g H H') : Tabs T H' := by
  obtain ⟨r, tt, gs, cs, S⟩ := S
  refine tabs_but t fun b o e n1 n2 => k b o e (fun z => ?_) (fun z => ?_)
  · rw [z] at e
    exact n1 _ (Option.some.inj (e.symm.trans S.dk))
  · rw [z] at e
    exact n2 _ (Option.some.inj (e.symm.trans S.gl))
theorem tabs_put {T : List (Addr × Str)} {H : Hp} {p : Addr} {xs : List V} {o : HO} (t : Tabs T H) (h : H p = some (.lst xs)) : Tabs T (upd H p o) := tabs_but t fun b u e _ n2 => by
  rw [upd_ne (fun z => by rw [z] at e; exact n2 _ (Option.some.inj (e.symm.trans h)))]
  exact e
theorem StA.put {H : Hp} {d g c p : Addr} {n : Nat} {o : HO} (S : StA H d g c n) (h1 : d ≠ p) (h2 : g ≠ p) (h3 : c ≠ p) : StA (upd H p o) d g c n := by
  obtain ⟨r, tt, gs, cs, S⟩ := S
  exact ⟨r, tt, gs, cs, { S with dk := by rw [upd_ne h1]; exact S.dk, gl := by rw [upd_ne h2]; exact S.gl, cl := by rw [upd_ne h3]; exact S.cl }⟩
theorem StA.extN {H H' : Hp} {d g c : Addr} {n : Nat} (S : StA H d g c n) (k : ExtN H H') : StA H' d g c n := by
  obtain ⟨r, tt, gs, cs, S⟩ := S
  exact ⟨r, tt, gs, cs, { S with dk := k _ _ S.dk (fun _ z => by cases z), gl := k _ _ S.gl (fun _ z => by cases z), cl := k _ _ S.cl (fun _ z => by cases z) }⟩
theorem StA.nes {H : Hp} {d g c : Addr} {n : Nat} (S : StA H d g c n) {p : Addr} (hp : H p = none) : d ≠ p ∧ g ≠ p ∧ c ≠ p := by
  obtain ⟨r, tt, gs, cs, S⟩ := S
  exact ⟨ne_of_none S.dk hp, ne_of_none S.gl hp, ne_of_none S.cl hp⟩
theorem paired_at {α β : Type} {F : α → β → Prop} : ∀ {xs : List α} {ts : List β}, Paired F xs ts → ∀ {j : Nat} {y : α}, xs[j]? = some y → ∃ t, F y t
  | _, _, .nil, _, _, h => by cases h
  | _, _, .cons h r, 0, _, e => by
    obtain rfl := Option.some.inj e
    exact ⟨_, h⟩
  | _, _, .cons h r, j + 1, _, e => paired_at r (j := j) e
abbrev qL : Str := ("law" : Str) ++ ".<locals>." ++ "<lambda>"
section
variable {P : Program} {w : World} {K : PySem.W.Frag} {mg : Str → Option Value} {base : Heap}
theorem ok_law {f cL PT CE C fTO fBeg fTxt fGT fPck fBad fCgt : Addr} {fdTO fdBeg fdTxt fdGT fdPck fdBad : FuncData} {oc kV doc pm ct : Value} {od an : Option Addr} {sl : Array (Option Value)}
    {ocg kVg docg pmg cdg ctg : Value} {odg ang : Option Addr} {slg : Array (Option Value)}
    (lk : K.lookup f = some ⟨oc, od, .func (PySem.W.fnOf "law" "law" (defArgs sLaw) (defBody sLaw) (defScope sLaw) .none kV doc pm an (.ref cL) ct), sl⟩) (hcd : PySem.W.codeIn K (.ref cL) "law" = true)
    (lkg : K.lookup fCgt = some ⟨ocg, odg, .func (PySem.W.fnOf "_law_caught" "_law_caught" (defArgs sCgt) (defBody sCgt) (defScope sCgt) .none kVg docg pmg ang cdg ctg), slg⟩) (hcg : PySem.W.codeIn K cdg "_law_caught" = true)
    (bCgt : L2.Binds K (PySem.W.fnOf "_law_caught" "_law_caught" (defArgs sCgt) (defBody sCgt) (defScope sCgt) .none kVg docg pmg ang cdg ctg) ["action"] [])
    (T : MgW K mg CE C fTO fBeg fTxt fGT fPck fBad fCgt) (TB : TabB base mg cL PT)
    (GBeg : FnOk P w K mg base CX0 1 fBeg fdBeg ["script"] (spBeg K)) (bBeg : L2.Binds K fdBeg ["script"] [])
    (GTxt : FnOk P w K mg base CX0 5 fTxt fdTxt ["state"] spTxt) (bTxt : L2.Binds K fdTxt ["state"] [])
    (GGT : FnOk P w K mg base CX0 1 fGT fdGT ["text"] spGT) (bGT : L2.Binds K fdGT ["text"] [])
    (GTO : FnOk P w K mg base (L2.CX P w) 3 fTO fdTO ["text"] (spTO K C)) (bTO : L2.Binds K fdTO ["text"] []) (kTO : KBinds K fdTO ["text"] ["text"] (fun us ws => us ++ ws) (fun us ws => us ++ ws))
    (GPck : FnOk P w K mg base CX0 3 fPck fdPck ["state", "some"] spPck) (bPck : L2.Binds K fdPck ["state", "some"] [])
    (GBad : FnOk P w K mg base CX0 1 fBad fdBad ["raised", "line", "column"] (spBad C)) (bBad : L2.Binds K fdBad ["raised", "line", "column"] []) :
    FnOk P w K mg base CX0 6 f (PySem.W.fnOf "law" "law" (defArgs sLaw) (defBody sLaw) (defScope sLaw) .none kV doc pm an (.ref cL) ct) ["script"] (spLaw K PT) := by
  refine fn_of lk hcd scLaw (fun vs H Q E h => ?_) (fun A outer s H vs Q E hr h => ?_)
  · obtain ⟨a, ns, rfl, _⟩ := h
    rfl
  · obtain ⟨a, ns, rfl, hS, hlen, hPT, k⟩ := h
    have hr1 : Room 1 _ := hr.mono (by decide)
    have hr3 : Room 3 _ := hr.mono (by decide)
    refine ⟨_, PSs.nox (pss_cons (ps_set (i := 1) scLaw.nd rfl (Or.inl rfl) (pe_call GBeg hr1 (by rfl) T.beg T.kbeg bBeg .nil pass0 (pa_cons (pv 0) pa_nil)))
      (pss_cons (ps_for PassesOwn.never rfl (pi_range1 (by rfl) T.rng (pa_cons (pe_op op_add pe_int (pe_callB (call_min2 rfl) (by rfl) T.min PyProof.Rows.boot_min (pa_cons (pe_callB call_len_seq (by rfl) T.len PySem.boot_len (pa_cons (pv 0) pa_nil)) (pa_cons pe_int pa_nil)))) pa_nil)) (pg_name (i := 2) scLaw.nd rfl (Or.inl rfl))
        (pss_cons (ps_set (i := 3) scLaw.nd rfl (Or.inl rfl) (pe_call GTxt hr (by rfl) T.txt T.ktxt bTxt .nil pass0 (pa_cons (pv 1) pa_nil)))
        (pss_cons (ps_par (i := 4) (j := 5) (by rfl) scLaw.nd rfl rfl (by decide) rfl rfl (pa_cons (pe_call GGT hr1 (by rfl) T.gt T.kgt bGT .nil pass0 (pa_cons (pv 3) pa_nil)) (pa_cons (pe_callK0 GTO hr3 (by rfl) T.to T.kto kTO passL (pk_cons (pv 3) pk_nil)) pa_nil)) (by rfl))
        (pss_cons (ps_if (PW.pt (pw_or (pt_not (pt_val (pe_callB call_isi (by rfl) T.isi (by decide +kernel) (pa_cons (pv 5) (pa_cons (pe_bltn (v := .ty "list") (by rfl) T.lst boot_list rfl) pa_nil)))))
            (pw_or (pt_cmpR (op_neD hr.units) (pv 5) (pv 4) (nomark _)) (pw_or1 (pt_cmpR (op_neD hr.units) (pe_lc (own := [("one", 11)]) (g := gName 11) (by rfl) scLaw.nd (pi_list (pv 5)) (blkOk_by (own := [("one", 11)]) (N := NL) (sc := defScope sLaw) (by decide +kernel)) (fun _ _ _ _ _ => pg_name (i := 11) scLaw.nd rfl (Or.inl rfl))
                (fun _ _ _ _ _ => pts_one (pt_not (pt_val (pe_callB (show CallR _ _ (rIsi K) from call_isi) (by rfl) T.isi (by decide +kernel) (pa_cons (pv 11) (pa_cons (pe_bltn (v := .ty "tuple") (by rfl) T.tpl boot_tuple rfl) pa_nil))))))
                (fun _ _ _ _ _ => pv 11)) (pe_lst pa_nil) (nomark _))))))
          (pss_one (ps_ret pe_bl)) pss_nil)
        (pss_cons (ps_for PassesOwn.never rfl (pi_list (pv 5)) (pg_tup rfl (pgs_cons (pg_name (i := 6) scLaw.nd rfl (Or.inl rfl)) (pgs_cons (pg_name (i := 7) scLaw.nd rfl (Or.inl rfl)) (pgs_cons (pg_name (i := 8) scLaw.nd rfl (Or.inl rfl)) (pgs_cons (pg_name (i := 9) scLaw.nd rfl (Or.inl rfl)) pgs_nil)))))
          (pss_one (ps_if (PW.pt (pw_or (pt_val (pe_callB call_isi (by rfl) T.isi (by decide +kernel) (pa_cons (pv 6) (pa_cons (pe_bltn (v := .ty "bool") (by rfl) T.bol boot_bool rfl) pa_nil))))
              (pw_or (pt_val (pe_callB call_isi (by rfl) T.isi (by decide +kernel) (pa_cons (pv 7) (pa_cons (pe_bltn (v := .ty "bool") (by rfl) T.bol boot_bool rfl) pa_nil))))
              (pw_or1 (pt_val (pe_callB call_isi (by rfl) T.isi (by decide +kernel) (pa_cons (pv 8) (pa_cons (pe_bltn (v := .ty "bool") (by rfl) T.bol boot_bool rfl) pa_nil))))))))
            (pss_one (ps_ret pe_bl)) pss_nil)))
        (pss_cons (ps_expr (pe_bm0 PySem.F.plainAttrs_list PySem.F.slot_list_clear PySem.F.type_list_clear mt_clear (pv 5)))
        (pss_cons (ps_if (pt_cmpR (op_neD hr.units) (pe_call GTO hr3 (by rfl) T.to T.kto bTO .nil passL (pa_cons (pv 3) pa_nil)) (pv 4) (nomark _)) (pss_one (ps_ret pe_bl)) pss_nil)
        (pss_cons (ps_set (i := 10) scLaw.nd rfl (Or.inr rfl) (pe_call GPck hr3 (by rfl) T.pck T.kpck bPck .nil pass0 (pa_cons (pv 1) (pa_cons (pe_lst (pa_cons pe_non (pa_cons pe_int (pa_cons pe_bl (pa_cons (pe_lst (pa_cons pe_str pa_nil)) (pa_cons (pe_tup (pa_cons (pv 3) pa_nil)) (pa_cons pe_dnewK (pa_cons (pe_tup (pa_cons pe_str (pa_cons pe_str pa_nil))) pa_nil)))))))) pa_nil))))
        (pss_one (ps_if (pt_not (pt_val (pe_call GBad hr1 (by rfl) T.bad T.kbad bBad .nil pass0 (pa_cons
            (pe_lamcall (k := 3) (by rfl) T.cgt T.kcgt lkg hcg bCgt scC rfl (Or.inl rfl) (caught_gives T.ce) TB rfl (List.mem_singleton.mpr rfl) (fun p hp _ => by rw [List.mem_singleton.mp hp]) hr (lamS_by (by show LamX.lamSB (defScope sLaw) _ = true; decide +kernel)) rfl (fun _ _ _ _ _ => rfl)
              (fun A outer s H E f c' hr2 => pe_call GTO hr2 (by rfl) T.to T.kto bTO .nil (passes_call (takes_of rfl rfl rfl rfl) (fun _ _ _ _ h => h)) (pa_cons (pv 10) pa_nil)))
            (pa_cons pe_int (pa_cons pe_int pa_nil))))))
          (pss_one (ps_ret pe_bl)) pss_nil))))))))))
      (pss_one (ps_ret pe_bl)))), ?_⟩
    -- state = _law_begun(script)
    refine ⟨_, rfl, a, ns, rfl, hS, hlen, fun d g c H1 S1 sm1 hd hg => ?_⟩
    have hT1 : Tabs [(PT, qL)] H1 := fun p hp => by
      rw [List.mem_singleton.mp hp]
      exact TabS.nil (sm1 _ _ hPT)
    have hl63 : (ns.map V.int).length ≤ 63 := by rw [List.length_map]; exact hlen
    -- for lap in range(..)
    refine ⟨_, rfl, a, ns.map V.int, rfl, .inl (sm1.seq hS), _, _, rfl, _, _, rfl, rfl, _, rfl, ?_, ?_, for_range (lo := 0) (n := _)
      (fun i σ H' => ∃ (v2 v3 v4 v5 v6 v7 v8 v9 v10 v11 : Option V), σ = [some (.ref a), some (.ref d), v2, v3, v4, v5, v6, v7, v8, v9, v10, v11] ∧ StA H' d g c (1100 * i) ∧ Tabs [(PT, qL)] H')
      ⟨none, none, none, none, none, none, none, none, none, none, rfl, S1, hT1⟩ ?_ ?_⟩
    · split <;> omega
    · split <;> omega
    · rintro i σ H0 hi ⟨v2, v3, v4, v5, v6, v7, v8, v9, v10, v11, rfl, S0, T0⟩
      have hi3 : i < 3 := by
        revert hi
        split <;> omega
      -- text
      refine ⟨_, rfl, d, g, c, 1100 * i, rfl, S0, by omega, fun x H1 okx S1 kp1 => ?_⟩
      have T1 := tabs_kp T0 S0 kp1
      have lx := okx.2
      have hasc := all_asc okx.1
      have hsh := sh_toks hasc
      have hlay : (PyData.list ((allToks x).map Tok.d)).canLay0 = true := (lay_toks hasc).1
      have heq : (!PyData.eqv (.list ((allToks x).map Tok.d)) (.list ((allToks x).map Tok.d))) = false := by rw [PySem.SeqAt.eqv_refl _ hlay]; rfl
      -- due, found
      refine ⟨_, rfl, x, rfl, by omega, fun p xs H2 s2 hp hp2 pr2 hn2 => ?_⟩
      refine ⟨_, rfl, .inl ⟨x, rfl, by omega, fun q ys H3 s3 hq hq3 pr3 hn3 => ?_⟩⟩
      refine ⟨_, _, rfl, ?_⟩
      have hpq : p ≠ q := ne_of_none hp2 hq
      have S3 := (S1.keep s2).keep s3
      have T3 := (T1.ext s2).ext s3
      have hp3 := s3 _ _ hp2
      have pr2' := toks_keep (KT.of s3) pr2
      -- not isinstance(found, list)
      refine ⟨_, rfl, _, _, _, _, true, rfl, .ty "list", .base (.lst hq3), kit_ty (by decide +kernel), _, rfl, ?_⟩
      refine ifF rfl ?_
      refine ⟨_, rfl, _, rfl, _, _, .lst (SqL.of hq3) (dp_toks pr3), .lst (SqL.of hp3) (dp_toks pr2'), hsh, hsh, _, rfl, ?_⟩
      refine ifF heq ?_
      refine ⟨_, rfl, q, rfl, ⟨_, SqL.of hq3⟩, fun l hl => lc_list (K := K) (a := q) (xs := ys) (fun i H' => H' l = some (.lst []) ∧ Same H3 H') ⟨upd_same, same_new hl⟩ (fun i H' _ ⟨_, s⟩ => SqL.of (s _ _ hq3)) ?_ ?_⟩
      · rintro j y H' hj ⟨h1, s⟩
        refine ⟨rfl, ?_⟩
        obtain ⟨t, ht⟩ : ∃ t, TokAt H3 y t := paired_at pr3 hj
        obtain ⟨b, rfl, hb⟩ := ht
        refine ⟨_, rfl, _, _, _, _, true, rfl, .ty "tuple", .base (.tup (s _ _ hb)), kit_ty (by decide +kernel), _, rfl, ?_⟩
        exact ifF rfl ⟨h1, s⟩
      rintro H4 ⟨hl4, s4⟩
      refine ⟨Nat.zero_le _, fun e he => ?_⟩
      have hle : l ≠ e := ne_of_none hl4 he
      refine ⟨.list [], .list [], .lst (SqL.of (by rw [upd_ne hle]; exact hl4)) .nil, .lst (SqL.of upd_same) .nil, by decide +kernel, by decide +kernel, _, rfl, ?_⟩
      refine ifF rfl ?_
      have s5 := (s4.trans (same_new (o := .lst []) he))
      generalize hH5 : upd H4 e (.lst []) = H5 at s5 ⊢
      have S5 := S3.keep s5
      have T5 := T3.ext s5
      have hq5 := s5 _ _ hq3
      have pr5 := toks_keep (KT.of s5) pr3
      have hp5 := s5 _ _ hp3
      have pd5 := toks_keep (KT.of s5) pr2'
      -- for line, column, indent, word in found
      refine ⟨_, rfl, q, rfl, ⟨_, SqL.of hq5⟩, for_list (K := K) (a := q) (xs := ys)
        (fun j σ H' => H' = H5 ∧ ∃ (w6 w7 w8 w9 : Option V), σ = [some (.ref a), some (.ref d), some (.int (0 + (i : Int))), some (.str x), some (.ref p), some (.ref q), w6, w7, w8, w9, v10, v11])
        ⟨rfl, v6, v7, v8, v9, rfl⟩ (fun j σ H' _ ⟨e1, _⟩ => by rw [e1]; exact SqL.of hq5) ?_ ?_⟩
      · rintro j y σ H' hj ⟨rfl, w6, w7, w8, w9, rfl⟩
        obtain ⟨t, b, rfl, hb⟩ := paired_at pr5 hj
        refine ⟨b, _, rfl, SqT.of hb, rfl, _, _, rfl, _, _, rfl, _, _, rfl, _, _, rfl, rfl, ?_⟩
        refine ⟨_, rfl, _, _, _, _, false, rfl, .ty "bool", .base (.int _), kit_ty (by decide +kernel), _, rfl, ?_⟩
        refine ifF rfl ?_
        refine ⟨_, rfl, _, _, _, _, false, rfl, .ty "bool", .base (.int _), kit_ty (by decide +kernel), _, rfl, ?_⟩
        refine ifF rfl ?_
        cases t.i with
        | none =>
          refine ⟨_, rfl, _, _, _, _, false, rfl, .ty "bool", .base .non, kit_ty (by decide +kernel), _, rfl, ?_⟩
          exact ifF rfl ⟨rfl, _, _, _, _, rfl⟩
        | some ii =>
          refine ⟨_, rfl, _, _, _, _, false, rfl, .ty "bool", .base (.int _), kit_ty (by decide +kernel), _, rfl, ?_⟩
          exact ifF rfl ⟨rfl, _, _, _, _, rfl⟩
      rintro σ H' ⟨rfl, w6, w7, w8, w9, rfl⟩
      -- found.clear()
      refine ⟨_, rfl, .inl ⟨rfl, _, SqL.of hq5⟩, q, ys, rfl, rfl, hq5, ?_⟩
      obtain ⟨nd, ng, nc⟩ := (S1.keep s2).nes hq
      have S6 := S5.put (o := .lst []) nd ng nc
      have T6 := tabs_put (o := .lst []) T5 hq5
      have hp6 : upd H' q (.lst []) p = some (.lst xs) := by rw [upd_ne hpq]; exact hp5
      have pd6 := toks_keep (KT.put (o := .lst []) hq5) pd5
      generalize hH6 : upd H' q (.lst []) = H6 at S6 T6 hp6 pd6 ⊢
      -- tokens_of(text) != due
      refine ⟨_, rfl, .inl ⟨x, rfl, by omega, fun q2 ys2 H7 s7 hq2 hq27 pr7 hn7 => ?_⟩⟩
      refine ⟨_, rfl, _, _, .lst (SqL.of hq27) (dp_toks pr7), .lst (SqL.of (s7 _ _ hp6)) (dp_toks (toks_keep (KT.of s7) pd6)), hsh, hsh, _, rfl, ?_⟩
      refine ifF heq ?_
      have S7 := S6.keep s7
      have T7 := T6.ext s7
      -- bad
      refine ⟨_, rfl, ?_⟩
      refine ⟨(by show 1 ≤ sizeLine; decide), fun l1 hl1 => ?_⟩
      refine ⟨_, rfl, (by show 1 ≤ sizeLine; decide), fun t1 ht1 => ?_⟩
      refine fun e1 he1 => ?_
      refine ⟨(by show 2 ≤ sizeLine; decide), fun t2 ht2 => ?_⟩
      refine ⟨(by show 7 ≤ sizeLine; decide), fun m hm => ?_⟩
      have c1 := same_new (o := .lst [V.str "unit"]) hl1
      have c2 := same_new (o := .tup [V.str x]) ht1
      have c3 := same_new (o := .dK []) he1
      have c4 := same_new (o := .tup [V.str "", V.str ""]) ht2
      have c5 := same_new (o := .lst [V.non, V.int 0, V.bl true, V.ref l1, V.ref t1, V.ref e1, V.ref t2]) hm
      have S8 := (((S7.keep c1).keep c2).keep c3).keep c4
      have ng1 := S7.ne_g hl1
      have ng2 := (S7.keep c1).ne_g ht1
      have ng3 := ((S7.keep c1).keep c2).ne_g he1
      have ng4 := (((S7.keep c1).keep c2).keep c3).ne_g ht2
      have f1 := c5 _ _ (c4 _ _ (c3 _ _ (c2 _ _ (upd_same (H := H7) (a := l1) (o := .lst [V.str "unit"])))))
      have f2 := c5 _ _ (c4 _ _ (c3 _ _ (upd_same (H := upd H7 l1 (.lst [V.str "unit"])) (a := t1) (o := .tup [V.str x]))))
      refine ⟨d, g, c, m, 1100 * i + 1000, _, rfl, S8.keep c5, by omega, upd_same, (S8.ne_g hm).1, by simp, (by show 7 ≤ 1000000; decide), fun v H9 hv S9 kp9 => ?_⟩
      have f3 := c5 _ _ (c4 _ _ (upd_same (H := upd (upd H7 l1 (.lst [V.str "unit"])) t1 (.tup [V.str x])) (a := e1) (o := .dK [])))
      have f4 := c5 _ _ (upd_same (H := upd (upd (upd H7 l1 (.lst [V.str "unit"])) t1 (.tup [V.str x])) e1 (.dK [])) (a := t2) (o := .tup [V.str "", V.str ""]))
      have f1 := kp9 _ _ f1 ng1.2 ng1.1
      have f2 := kp9 _ _ f2 ng2.2 ng2.1
      have f3 := kp9 _ _ f3 ng3.2 ng3.1
      have f4 := kp9 _ _ f4 ng4.2 ng4.1
      have T9 := tabs_kp (((((T7.ext c1).ext c2).ext c3).ext c4).ext c5) (S8.keep c5) kp9
      -- _law_caught(lambda: tokens_of(bad))
      refine ⟨T9, fun H10 eN T10 => ?_⟩
      have S10 := S9.extN eN
      have f1 := eN _ _ f1 (fun _ z => by cases z)
      have f2 := eN _ _ f2 (fun _ z => by cases z)
      have f3 := eN _ _ f3 (fun _ z => by cases z)
      have f4 := eN _ _ f4 (fun _ z => by cases z)
      obtain ⟨ty, hty, hkit⟩ : ∃ ty, TyX K H10 v ty ∧ PySem.W.kitOne K ty (.type "str") = some false := by
        simp only [List.mem_cons, List.not_mem_nil, or_false] at hv
        rcases hv with rfl | rfl | rfl | rfl | rfl | rfl | rfl
        · exact ⟨_, .base .non, kit_ty (by decide +kernel)⟩
        · exact ⟨_, .base (.int _), kit_ty (by decide +kernel)⟩
        · exact ⟨_, .base (.bl _), kit_ty (by decide +kernel)⟩
        · exact ⟨_, .base (.lst f1), kit_ty (by decide +kernel)⟩
        · exact ⟨_, .base (.tup f2), kit_ty (by decide +kernel)⟩
        · exact ⟨_, .base (.dK f3), kit_ty (by decide +kernel)⟩
        · exact ⟨_, .base (.tup f4), kit_ty (by decide +kernel)⟩
      refine ⟨_, rfl, .inr ⟨v, ty, rfl, hty, hkit, fun dd H11 s11 hdd h11 => ?_⟩⟩
      refine ⟨true, T.exm, fun _ b hb => ?_, fun z => nomatch z⟩
      refine ⟨b, dd, rfl, upd_same, by rw [upd_ne (ne_of_none h11 hb)]; exact h11, fun H12 s12 => ?_⟩
      refine ⟨_, rfl, ifF rfl ?_⟩
      exact ⟨_, _, _, _, _, _, _, _, _, _, rfl, (((S10.keep s11).keep (same_new hb)).keep s12).mono (by omega), ((T10.ext s11).ext (same_new hb)).ext s12⟩
    · rintro σ H' ⟨v2, v3, v4, v5, v6, v7, v8, v9, v10, v11, rfl, S0, T0⟩
      exact k H'
end
end K2

set_option Elab.async false
set_option linter.all false
set_option pp.maxSteps 700
set_option maxRecDepth 100000
set_option maxHeartbeats 2000000
namespace K2
open PySem PySem.Spec PyProof.Rows L2
open LamX (GivesTo CodeO Tabs TabS TabB tLam pe_lamcall lamCx lamEnv lamS_by ExtN)
open TL (tl)
theorem exm_of {K : PySem.W.Frag} {S B : Addr} (h1 : PySem.W.subIn K (.ref B) (.type "BaseException") = some true) (h2 : PySem.W.isClsIn K B = true) (h3 : PySem.W.typeIn K (.ref B) = some (.type "type")) (h4 : PySem.W.subIn K (.ref S) (.ref B) = some true) :
    PySem.W.exmOne K (.ref S) (.ref B) = some true := by
  have e1 : (PySem.W.subIn K (.ref B) (.type "BaseException") == some true) = true := by rw [h1] <;> rfl
  have e2 : ((PySem.W.clsIn K B).isSome && PySem.W.typeIn K (.ref B) == some (.type "type")) = true := by
    have h2' : (PySem.W.clsIn K B).isSome = true := h2
    rw [h2', h3] <;> rfl
  show (if (PySem.W.subIn K (.ref B) (.type "BaseException") == some true) = true then (if ((PySem.W.clsIn K B).isSome && PySem.W.typeIn K (.ref B) == some (.type "type")) = true then PySem.W.subIn K (.ref S) (.ref B) else none) else none) = some true
  rw [if_pos e1, if_pos e2]
  exact h4
theorem kit_self {K : PySem.W.Frag} {S : Addr} : PySem.W.kitOne K (.ref S) (.ref S) = some true := by
  unfold PySem.W.kitOne
  rw [if_pos (beq_self_eq_true _)]
theorem all_mk {l : PySem.W.OpenLaw} {w : World} {K : PySem.W.Frag} {h : Heap} {mg : Str → Option Value} {fa CE C PT cL : Addr} (X : K.In h) (G : h.Ns mainGlobals mg) (hfa : mg "law" = some (.ref fa))
    {f1 : Addr} {od1 an1 : Option Addr} {sl1 : Array (Option Value)} {oc1 kV1 dc1 pm1 cd1 ct1 : Value}
    {f2 : Addr} {od2 an2 : Option Addr} {sl2 : Array (Option Value)} {oc2 kV2 dc2 pm2 cd2 ct2 : Value}
    {f3 : Addr} {od3 an3 : Option Addr} {sl3 : Array (Option Value)} {oc3 kV3 dc3 pm3 cd3 ct3 : Value}
    {f4 : Addr} {od4 an4 : Option Addr} {sl4 : Array (Option Value)} {oc4 kV4 dc4 pm4 cd4 ct4 : Value}
    {f5 : Addr} {od5 an5 : Option Addr} {sl5 : Array (Option Value)} {oc5 kV5 dc5 pm5 cd5 ct5 : Value}
    {f6 : Addr} {od6 an6 : Option Addr} {sl6 : Array (Option Value)} {oc6 kV6 dc6 pm6 cd6 ct6 : Value}
    {f7 : Addr} {od7 an7 : Option Addr} {sl7 : Array (Option Value)} {oc7 kV7 dc7 pm7 cd7 ct7 : Value}
    {f8 : Addr} {od8 an8 : Option Addr} {sl8 : Array (Option Value)} {oc8 kV8 dc8 pm8 cd8 ct8 : Value}
    {f9 : Addr} {od9 an9 : Option Addr} {sl9 : Array (Option Value)} {oc9 kV9 dc9 pm9 cd9 ct9 : Value}
    {f10 : Addr} {od10 an10 : Option Addr} {sl10 : Array (Option Value)} {oc10 kV10 dc10 pm10 cd10 ct10 : Value}
    {f11 : Addr} {od11 an11 : Option Addr} {sl11 : Array (Option Value)} {oc11 kV11 dc11 pm11 cd11 ct11 : Value}
    {f12 : Addr} {od12 an12 : Option Addr} {sl12 : Array (Option Value)} {oc12 kV12 dc12 pm12 cd12 ct12 : Value}
    {f13 : Addr} {od13 an13 : Option Addr} {sl13 : Array (Option Value)} {oc13 kV13 dc13 pm13 cd13 ct13 : Value}
    {f14 : Addr} {od14 an14 : Option Addr} {sl14 : Array (Option Value)} {oc14 kV14 dc14 pm14 cd14 ct14 : Value}
    {f15 : Addr} {od15 an15 : Option Addr} {sl15 : Array (Option Value)} {oc15 kV15 dc15 pm15 ct15 : Value}
    (aCE : PySem.W.nsIn K mainGlobals "ClockError" = some (some (.ref CE)))
    (aC : PySem.W.nsIn K mainGlobals "BadText" = some (some (.ref C)))
    (a1 : PySem.W.nsIn K mainGlobals "_token_end" = some (some (.ref f1)))
    (l1 : K.lookup f1 = some ⟨oc1, od1, .func (PySem.W.fnOf "_token_end" "_token_end" (defArgs sTE) (defBody sTE) (defScope sTE) .none kV1 dc1 pm1 an1 cd1 ct1), sl1⟩)
    (c1 : PySem.W.codeIn K cd1 "_token_end" = true)
    (k1 : PySem.W.keepIn K (.ref f1) = true)
    (a2 : PySem.W.nsIn K mainGlobals "_line_tokens" = some (some (.ref f2)))
    (l2 : K.lookup f2 = some ⟨oc2, od2, .func (PySem.W.fnOf "_line_tokens" "_line_tokens" (defArgs sLT) (defBody sLT) (defScope sLT) .none kV2 dc2 pm2 an2 cd2 ct2), sl2⟩)
    (c2 : PySem.W.codeIn K cd2 "_line_tokens" = true)
    (k2 : PySem.W.keepIn K (.ref f2) = true)
    (a3 : PySem.W.findIn K (.ref C) "__init__" = some (some (.ref f3)))
    (l3 : K.lookup f3 = some ⟨oc3, od3, .func (PySem.W.fnOf "__init__" "BadText.__init__" (defArgs sInit) (defBody sInit) (defScope sInit) .none kV3 dc3 pm3 an3 cd3 ct3), sl3⟩)
    (c3 : PySem.W.codeIn K cd3 "BadText.__init__" = true)
    (k3 : PySem.W.keepIn K (.ref f3) = true)
    (a4 : PySem.W.nsIn K mainGlobals "tokens_of" = some (some (.ref f4)))
    (l4 : K.lookup f4 = some ⟨oc4, od4, .func (PySem.W.fnOf "tokens_of" "tokens_of" (defArgs sTO) (defBody sTO) (defScope sTO) .none kV4 dc4 pm4 an4 cd4 ct4), sl4⟩)
    (c4 : PySem.W.codeIn K cd4 "tokens_of" = true)
    (k4 : PySem.W.keepIn K (.ref f4) = true)
    (a5 : PySem.W.nsIn K mainGlobals "_law_tx_tokens" = some (some (.ref f5)))
    (l5 : K.lookup f5 = some ⟨oc5, od5, .func (PySem.W.fnOf "_law_tx_tokens" "_law_tx_tokens" (defArgs sGT) (defBody sGT) (defScope sGT) .none kV5 dc5 pm5 an5 cd5 ct5), sl5⟩)
    (c5 : PySem.W.codeIn K cd5 "_law_tx_tokens" = true)
    (k5 : PySem.W.keepIn K (.ref f5) = true)
    (a6 : PySem.W.nsIn K mainGlobals "_law_mixed" = some (some (.ref f6)))
    (l6 : K.lookup f6 = some ⟨oc6, od6, .func (PySem.W.fnOf "_law_mixed" "_law_mixed" (defArgs sMix) (defBody sMix) (defScope sMix) .none kV6 dc6 pm6 an6 cd6 ct6), sl6⟩)
    (c6 : PySem.W.codeIn K cd6 "_law_mixed" = true)
    (k6 : PySem.W.keepIn K (.ref f6) = true)
    (a7 : PySem.W.nsIn K mainGlobals "_law_draw" = some (some (.ref f7)))
    (l7 : K.lookup f7 = some ⟨oc7, od7, .func (PySem.W.fnOf "_law_draw" "_law_draw" (defArgs sDrw) (defBody sDrw) (defScope sDrw) .none kV7 dc7 pm7 an7 cd7 ct7), sl7⟩)
    (c7 : PySem.W.codeIn K cd7 "_law_draw" = true)
    (k7 : PySem.W.keepIn K (.ref f7) = true)
    (a8 : PySem.W.nsIn K mainGlobals "_law_pick" = some (some (.ref f8)))
    (l8 : K.lookup f8 = some ⟨oc8, od8, .func (PySem.W.fnOf "_law_pick" "_law_pick" (defArgs sPck) (defBody sPck) (defScope sPck) .none kV8 dc8 pm8 an8 cd8 ct8), sl8⟩)
    (c8 : PySem.W.codeIn K cd8 "_law_pick" = true)
    (k8 : PySem.W.keepIn K (.ref f8) = true)
    (a9 : PySem.W.nsIn K mainGlobals "_law_begun" = some (some (.ref f9)))
    (l9 : K.lookup f9 = some ⟨oc9, od9, .func (PySem.W.fnOf "_law_begun" "_law_begun" (defArgs sBeg) (defBody sBeg) (defScope sBeg) .none kV9 dc9 pm9 an9 cd9 ct9), sl9⟩)
    (c9 : PySem.W.codeIn K cd9 "_law_begun" = true)
    (k9 : PySem.W.keepIn K (.ref f9) = true)
    (a10 : PySem.W.nsIn K mainGlobals "_law_tx_words" = some (some (.ref f10)))
    (l10 : K.lookup f10 = some ⟨oc10, od10, .func (PySem.W.fnOf "_law_tx_words" "_law_tx_words" (defArgs sWds) (defBody sWds) (defScope sWds) .none kV10 dc10 pm10 an10 cd10 ct10), sl10⟩)
    (c10 : PySem.W.codeIn K cd10 "_law_tx_words" = true)
    (k10 : PySem.W.keepIn K (.ref f10) = true)
    (a11 : PySem.W.nsIn K mainGlobals "_law_tx_name" = some (some (.ref f11)))
    (l11 : K.lookup f11 = some ⟨oc11, od11, .func (PySem.W.fnOf "_law_tx_name" "_law_tx_name" (defArgs sNam) (defBody sNam) (defScope sNam) .none kV11 dc11 pm11 an11 cd11 ct11), sl11⟩)
    (c11 : PySem.W.codeIn K cd11 "_law_tx_name" = true)
    (k11 : PySem.W.keepIn K (.ref f11) = true)
    (a12 : PySem.W.nsIn K mainGlobals "_law_new_text" = some (some (.ref f12)))
    (l12 : K.lookup f12 = some ⟨oc12, od12, .func (PySem.W.fnOf "_law_new_text" "_law_new_text" (defArgs sTxt) (defBody sTxt) (defScope sTxt) .none kV12 dc12 pm12 an12 cd12 ct12), sl12⟩)
    (c12 : PySem.W.codeIn K cd12 "_law_new_text" = true)
    (k12 : PySem.W.keepIn K (.ref f12) = true)
    (a13 : PySem.W.nsIn K mainGlobals "_law_tx_bad" = some (some (.ref f13)))
    (l13 : K.lookup f13 = some ⟨oc13, od13, .func (PySem.W.fnOf "_law_tx_bad" "_law_tx_bad" (defArgs sBad) (defBody sBad) (defScope sBad) .none kV13 dc13 pm13 an13 cd13 ct13), sl13⟩)
    (c13 : PySem.W.codeIn K cd13 "_law_tx_bad" = true)
    (k13 : PySem.W.keepIn K (.ref f13) = true)
    (a14 : PySem.W.nsIn K mainGlobals "_law_caught" = some (some (.ref f14)))
    (l14 : K.lookup f14 = some ⟨oc14, od14, .func (PySem.W.fnOf "_law_caught" "_law_caught" (defArgs sCgt) (defBody sCgt) (defScope sCgt) .none kV14 dc14 pm14 an14 cd14 ct14), sl14⟩)
    (c14 : PySem.W.codeIn K cd14 "_law_caught" = true)
    (k14 : PySem.W.keepIn K (.ref f14) = true)
    (a15 : PySem.W.nsIn K mainGlobals "law" = some (some (.ref f15)))
    (l15 : K.lookup f15 = some ⟨oc15, od15, .func (PySem.W.fnOf "law" "law" (defArgs sLaw) (defBody sLaw) (defScope sLaw) .none kV15 dc15 pm15 an15 (.ref cL) ct15), sl15⟩)
    (c15 : PySem.W.codeIn K (.ref cL) "law" = true)
    (k15 : PySem.W.keepIn K (.ref f15) = true)
    {xW xN xT : Str} {tW tN tT : PySem.Tok}
    (vW : PySem.W.nsIn K mainGlobals "WORD_SIGNS" = some (some (.str xW tW)))
    (vN : PySem.W.nsIn K mainGlobals "END_OF_LINE" = some (some (.str xN tN)))
    (vT : PySem.W.nsIn K mainGlobals "END_OF_TEXT" = some (some (.str xT tT)))
    (eW : xW = WS)
    (eN : xN = nlS)
    (eT : xT = etS)
    (z_len : PySem.W.nsIn K mainGlobals "len" = some none)
    (z_isinstance : PySem.W.nsIn K mainGlobals "isinstance" = some none)
    (z_str : PySem.W.nsIn K mainGlobals "str" = some none)
    (z_enumerate : PySem.W.nsIn K mainGlobals "enumerate" = some none)
    (z_abs : PySem.W.nsIn K mainGlobals "abs" = some none)
    (z_int : PySem.W.nsIn K mainGlobals "int" = some none)
    (z_range : PySem.W.nsIn K mainGlobals "range" = some none)
    (z_min : PySem.W.nsIn K mainGlobals "min" = some none)
    (z_list : PySem.W.nsIn K mainGlobals "list" = some none)
    (z_bool : PySem.W.nsIn K mainGlobals "bool" = some none)
    (z_tuple : PySem.W.nsIn K mainGlobals "tuple" = some none)
    {nm q : Str} {N : Addr} {bs bm : List Value} {sn : List Str} {sub : List Value} {ab : Bool} {col : Option Bool} {dd : Option Addr} {m0 m1 m2 m3 m5 : Option Value}
    (xL : K.lookup C = some (excClassObj nm q C N bs bm true sn sub ab col dd m0 m1 m2 m3 m5 "ValueError.__new__"))
    (xR : PySem.HandSPX.refsVE bm = true)
    (sa : PySem.W.findIn K (.ref C) "__setattr__" = some (some (.builtin "object.__setattr__")))
    (sB : PySem.W.subIn K (.ref C) (.type "BaseException") = some true)
    (tC : PySem.W.typeIn K (.ref C) = some (.type "type"))
    (kC : PySem.W.keepIn K (.ref C) = true)
    (nl : PySem.W.findIn K (.ref C) "line" = some none)
    (nc : PySem.W.findIn K (.ref C) "column" = some none)
    (t3 : PySem.W.typeIn K (.ref f3) = some (.type "function"))
    (rd : PySem.W.readsIn K CE (.type "type") = true)
    (gE : PySem.W.specialIn K (.ref CE) "__getattribute__" = some (some (.builtin "type.__getattribute__")))
    (fE : PySem.W.findCls K (.ref CE) (.type "type") "__init__" = some (.val (.builtin "ValueError.__init__")))
    (sE : PySem.W.subIn K (.ref CE) (.type "BaseException") = some true)
    (iE : PySem.W.isClsIn K CE = true)
    (tE : PySem.W.typeIn K (.ref CE) = some (.type "type"))
    (sCE : PySem.W.subIn K (.ref C) (.ref CE) = some true)
    (gC : PySem.W.findIn K (.ref C) "__getattribute__" = some (some (.builtin "BaseException.__getattribute__")))
    (ggC : PySem.W.findIn K (.ref C) "__getattr__" = some none)
    (hdC : PySem.W.hasDictIn K C = true)
    (clC : PySem.W.findIn K (.ref C) "__class__" = some (some (.builtin "object.__class__")))
    (spO : PySem.W.specialIn K (.builtin "object.__class__") "__get__" = some (some (.builtin "getset_descriptor.__get__")))
    (tkO : PySem.W.takesIn K (.builtin "object.__class__") = some true)
    (mrC : PySem.W.mroIn K C (.type "object") = some true)
    (hdr : PySem.W.codeHdIn K cL PT = true)
    (np : K.lookup PT = none)
    (hT : h.get? PT = some { cls := .none, data := .fields #[] })
    : LamX.LawAtS l w K CX0 6 63 "script" mg fa h := by
  have e := hfa.symm.trans (PySem.W.mg_of X G a15)
  cases e
  subst eW eN eT
  have F1 := fun_mk (st := sTE) l1 c1 k1
  have b1 := F1.binds (ps := ["line", "at"]) fun _ _ _ _ _ _ us hl => match us, hl with | [_, _], _ => rfl
  have F2 := fun_mk (st := sLT) l2 c2 k2
  have b2 := F2.binds (ps := ["number", "line"]) fun _ _ _ _ _ _ us hl => match us, hl with | [_, _], _ => rfl
  have F3 := fun_mk (st := sInit) l3 c3 k3
  have b3 := F3.binds (ps := ["self", "line", "column"]) fun _ _ _ _ _ _ us hl => match us, hl with | [_, _, _], _ => rfl
  have F4 := fun_mk (st := sTO) l4 c4 k4
  have b4 := F4.binds (ps := ["text"]) fun _ _ _ _ _ _ us hl => match us, hl with | [_], _ => rfl
  have F5 := fun_mk (st := sGT) l5 c5 k5
  have b5 := F5.binds (ps := ["text"]) fun _ _ _ _ _ _ us hl => match us, hl with | [_], _ => rfl
  have F6 := fun_mk (st := sMix) l6 c6 k6
  have b6 := F6.binds (ps := ["state"]) fun _ _ _ _ _ _ us hl => match us, hl with | [_], _ => rfl
  have F7 := fun_mk (st := sDrw) l7 c7 k7
  have b7 := F7.binds (ps := ["state", "room"]) fun _ _ _ _ _ _ us hl => match us, hl with | [_, _], _ => rfl
  have F8 := fun_mk (st := sPck) l8 c8 k8
  have b8 := F8.binds (ps := ["state", "some"]) fun _ _ _ _ _ _ us hl => match us, hl with | [_, _], _ => rfl
  have F9 := fun_mk (st := sBeg) l9 c9 k9
  have b9 := F9.binds (ps := ["script"]) fun _ _ _ _ _ _ us hl => match us, hl with | [_], _ => rfl
  have F10 := fun_mk (st := sWds) l10 c10 k10
  have b10 := F10.binds (ps := []) fun _ _ _ _ _ _ us hl => match us, hl with | [], _ => rfl
  have F11 := fun_mk (st := sNam) l11 c11 k11
  have b11 := F11.binds (ps := ["state", "taken"]) fun _ _ _ _ _ _ us hl => match us, hl with | [_, _], _ => rfl
  have F12 := fun_mk (st := sTxt) l12 c12 k12
  have b12 := F12.binds (ps := ["state"]) fun _ _ _ _ _ _ us hl => match us, hl with | [_], _ => rfl
  have F13 := fun_mk (st := sBad) l13 c13 k13
  have b13 := F13.binds (ps := ["raised", "line", "column"]) fun _ _ _ _ _ _ us hl => match us, hl with | [_, _, _], _ => rfl
  have TM : Mg mg := ⟨PySem.W.mg_none_of X G z_len, _, PySem.W.mg_of X G vW⟩
  have TL' : MgL K mg f1 := { TM with te := PySem.W.mg_of X G a1, kte := k1, el := ⟨_, PySem.W.mg_of X G vN⟩ }
  have TC : MgC K mg CE C := ⟨PySem.W.mg_of X G aCE, ⟨rd, gE, fE⟩, ⟨⟨_, _, _, _, _, _, _, _, _, _, _, _, _, _, _, xL, xR⟩, sa, sB, tC, kC⟩, nl, nc⟩
  have TT : MgT K mg CE C f3 f1 f2 := { TC, TL' with mC := PySem.W.mg_of X G aC, iC := a3, tI := t3, lt := PySem.W.mg_of X G a2, klt := k2, isi := PySem.W.mg_none_of X G z_isinstance, str := PySem.W.mg_none_of X G z_str, enu := PySem.W.mg_none_of X G z_enumerate, et := ⟨_, PySem.W.mg_of X G vT⟩ }
  have TG : MgG mg := ⟨PySem.W.mg_none_of X G z_len, PySem.W.mg_none_of X G z_enumerate⟩
  have TS : MgS K mg f6 f7 := ⟨PySem.W.mg_none_of X G z_int, PySem.W.mg_none_of X G z_len, PySem.W.mg_of X G a6, k6, PySem.W.mg_of X G a7, k7⟩
  have TN : MgN K mg f6 f7 f8 f10 := { TS with pk := PySem.W.mg_of X G a8, kpk := k8, wd := PySem.W.mg_of X G a10, kwd := k10, rng := PySem.W.mg_none_of X G z_range, str := PySem.W.mg_none_of X G z_str }
  have TX : MgX K mg f6 f7 f8 f10 f11 := { TN with nm := PySem.W.mg_of X G a11, knm := k11 }
  have TB : MgB K mg C := ⟨PySem.W.mg_of X G aC, PySem.W.mg_none_of X G z_isinstance, ⟨gC, ggC, sB, hdC, clC, spO, tkO, mrC⟩, ⟨gC, ggC, sB, hdC⟩, nl, nc, kit_self⟩
  have TW : MgW K mg CE C f4 f9 f12 f5 f8 f13 f14 :=
    { beg := PySem.W.mg_of X G a9, kbeg := k9, txt := PySem.W.mg_of X G a12, ktxt := k12, gt := PySem.W.mg_of X G a5, kgt := k5, to := PySem.W.mg_of X G a4, kto := k4, pck := PySem.W.mg_of X G a8, kpck := k8, bad := PySem.W.mg_of X G a13, kbad := k13,
      cgt := PySem.W.mg_of X G a14, kcgt := k14, ce := PySem.W.mg_of X G aCE, isi := PySem.W.mg_none_of X G z_isinstance, rng := PySem.W.mg_none_of X G z_range, min := PySem.W.mg_none_of X G z_min, len := PySem.W.mg_none_of X G z_len,
      lst := PySem.W.mg_none_of X G z_list, bol := PySem.W.mg_none_of X G z_bool, tpl := PySem.W.mg_none_of X G z_tuple, exm := exm_of sE iE tE sCE }
  have ma := PySem.W.mg_none_of X G z_abs
  refine ⟨PySem.W.fnOf "law" "law" (defArgs sLaw) (defBody sLaw) (defScope sLaw) .none kV15 dc15 pm15 an15 (.ref cL) ct15, [(cL, PT)], spLaw K PT, fun p hp => ?_, fun p hp => ?_, fun p hp => ?_, fun s u => .of_eq rfl, fun H a ns hl _ hp hS => ?_, fun base KB GB hTB => ?_⟩
  · rw [List.mem_singleton.mp hp]
    exact hT
  · rw [List.mem_singleton.mp hp]
    exact np
  · rw [List.mem_singleton.mp hp]
    exact PySem.W.codeHd_of_K X hdr
  · exact ⟨a, ns, rfl, hS, hl, hp _ (List.mem_singleton.mpr rfl), fun _ => rfl⟩
  · have kTO : KBinds K (PySem.W.fnOf "tokens_of" "tokens_of" (defArgs sTO) (defBody sTO) (defScope sTO) .none kV4 dc4 pm4 an4 cd4 ct4) ["text"] ["text"] (fun us ws => us ++ ws) (fun us ws => us ++ ws) :=
      ⟨fun s us ws _ hl => match us, ws, hl with | [], [_], _ => .of_eq rfl | [_], [], _ => .of_eq rfl, fun r1 r2 => paired_app r1 r2⟩
    exact ok_law l15 c15 l14 c14 (Binds.all fun us hl => match us, hl with | [_], _ => rfl) TW (hTB _ (List.mem_singleton.mpr rfl))
      (ok_beg F9 ma) b9 (ok_txt F12 TX F6 b6 F7 b7 F8 b8 F10 b10 F11 b11) b12 (ok_GT F5 TG) b5 (ok_TO F4 TT F3 b3 F1 b1 F2 b2) b4 kTO (ok_pck F8 TS F6 b6 F7 b7) b8 (ok_bad F13 TB) b13
end K2

open PySem PySem.W PyProof.Rows
set_option Elab.async false
set_option pp.maxSteps 700
set_option maxRecDepth 100000 in
set_option maxHeartbeats 0 in
theorem PySem.Challenge.cw_labelclocks_k02_tokens_of_texts_holds : PySem.Challenge.rw_labelclocks_k02_tokens_of_texts.Holds := by
  w_on; o_law; k_head; (case hw => w_witness2)
  k_fill
  refine LamX.walk_ofTs (l := PySem.Challenge.rw_labelclocks_k02_tokens_of_texts) (n := 63) (k := 6) (x := "script") (CX := fun _ => L2.CX0) rfl (by decide) rfl ⟨rfl, by decide, by decide⟩ (fun w h Y => PySem.W.km_in_of Y) ?F (fun _ _ _ _ _ z => z)
  case F =>
    intro w mg fa h Y KX G hmg
    have hT8 := PySem.W.km_tabs_of Y
    refine' K2.all_mk KX G hmg ?aCE ?aC ?a1 ?l1 ?c1 ?k1 ?a2 ?l2 ?c2 ?k2 ?a3 ?l3 ?c3 ?k3 ?a4 ?l4 ?c4 ?k4 ?a5 ?l5 ?c5 ?k5 ?a6 ?l6 ?c6 ?k6 ?a7 ?l7 ?c7 ?k7 ?a8 ?l8 ?c8 ?k8 ?a9 ?l9 ?c9 ?k9 ?a10 ?l10 ?c10 ?k10 ?a11 ?l11 ?c11 ?k11 ?a12 ?l12 ?c12 ?k12 ?a13 ?l13 ?c13 ?k13 ?a14 ?l14 ?c14 ?k14 ?a15 ?l15 ?c15 ?k15 ?vW ?vN ?vT ?eW ?eN ?eT ?z_len ?z_isinstance ?z_str ?z_enumerate ?z_abs ?z_int ?z_range ?z_min ?z_list ?z_bool ?z_tuple ?xL ?xR ?sa ?sB ?tC ?kC ?nl ?nc ?t3 ?rd ?gE ?fE ?sE ?iE ?tE ?sCE ?gC ?ggC ?hdC ?clC ?spO ?tkO ?mrC ?hdr ?np ?hT
    (case aCE => k_is)
    (case aC => k_is)
    (case a1 => k_is)
    (case l1 => k_is)
    (case c1 => k_is)
    (case k1 => k_is)
    (case a2 => k_is)
    (case l2 => k_is)
    (case c2 => k_is)
    (case k2 => k_is)
    (case a3 => k_is)
    (case l3 => k_is)
    (case c3 => k_is)
    (case k3 => k_is)
    (case a4 => k_is)
    (case l4 => k_is)
    (case c4 => k_is)
    (case k4 => k_is)
    (case a5 => k_is)
    (case l5 => k_is)
    (case c5 => k_is)
    (case k5 => k_is)
    (case a6 => k_is)
    (case l6 => k_is)
    (case c6 => k_is)
    (case k6 => k_is)
    (case a7 => k_is)
    (case l7 => k_is)
    (case c7 => k_is)
    (case k7 => k_is)
    (case a8 => k_is)
    (case l8 => k_is)
    (case c8 => k_is)
    (case k8 => k_is)
    (case a9 => k_is)
    (case l9 => k_is)
    (case c9 => k_is)
    (case k9 => k_is)
    (case a10 => k_is)
    (case l10 => k_is)
    (case c10 => k_is)
    (case k10 => k_is)
    (case a11 => k_is)
    (case l11 => k_is)
    (case c11 => k_is)
    (case k11 => k_is)
    (case a12 => k_is)
    (case l12 => k_is)
    (case c12 => k_is)
    (case k12 => k_is)
    (case a13 => k_is)
    (case l13 => k_is)
    (case c13 => k_is)
    (case k13 => k_is)
    (case a14 => k_is)
    (case l14 => k_is)
    (case c14 => k_is)
    (case k14 => k_is)
    (case a15 => k_is)
    (case l15 => k_is)
    (case c15 => k_is)
    (case k15 => k_is)
    (case vW => k_is)
    (case vN => k_is)
    (case vT => k_is)
    (case eW => decide +kernel)
    (case eN => decide +kernel)
    (case eT => decide +kernel)
    (case z_len => k_is)
    (case z_isinstance => k_is)
    (case z_str => k_is)
    (case z_enumerate => k_is)
    (case z_abs => k_is)
    (case z_int => k_is)
    (case z_range => k_is)
    (case z_min => k_is)
    (case z_list => k_is)
    (case z_bool => k_is)
    (case z_tuple => k_is)
    (case xL => k_is)
    (case xR => decide +kernel)
    (case sa => k_is)
    (case sB => k_is)
    (case tC => k_is)
    (case kC => k_is)
    (case nl => k_is)
    (case nc => k_is)
    (case t3 => k_is)
    (case rd => k_is)
    (case gE => k_is)
    (case fE => k_is)
    (case sE => k_is)
    (case iE => k_is)
    (case tE => k_is)
    (case sCE => k_is)
    (case gC => k_is)
    (case ggC => k_is)
    (case hdC => k_is)
    (case clC => k_is)
    (case spO => k_is)
    (case tkO => k_is)
    (case mrC => k_is)
    (case hT => exact hT8 _ (List.mem_cons_self ..))
    (case hdr => kernel_rfl)
    (case np => kernel_rfl)
