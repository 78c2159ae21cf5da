import PyProof.Rows.All
import Wide.All
import OpenK.AllK
import Wide.FinOn
import HandS.ForMost
import HandS.Strs
import HandS.Zip
import HandS.IsInst
import HandS.WordsExc
import HandS.Style
import HandS.Lambda
import KE.KExcIs
import HandS.ExcIs
import PySem.Challenge.RW_labelclocks_k66_words_and_their_measures
import HandS.DeepEq
import HandS.Walk
import HandS.TupAny
import HandS.More
import HandS.Deep
import HandS.Conv
import KE.GoesMore
import KE.KStrBytes
import KE.KxText
import PyProof.ReprReads
import PyProof.FitsInt
import HandS.EndTab
import HandS.CallLocal
import HandS.Words
import PyProof.ReprRoads
import PyProof.CallFns
import HandS.TupLe
import KE.KNestM
import HandS.TupMul
set_option Elab.async false
set_option linter.all false
set_option pp.maxSteps 700
set_option maxRecDepth 100000
set_option maxHeartbeats 2000000
namespace K66
open PySem PySem.Spec PyProof.Rows L2
open TL (tl)
def top (i : Nat) : Stmt := PySem.Challenge.pw_labelclocks_k66_words_and_their_measures.main.body.getD i (.Pass ⟨0, 0, 0, 0⟩)
theorem ifT {c : Bool} {A B : Prop} (hc : c = true) (h : A) : if c = true then A else B := by
  rw [if_pos hc]
  exact h
theorem ifF {c : Bool} {A B : Prop} (hc : c = false) (h : B) : if c = true then A else B := by
  rw [hc, if_neg Bool.false_ne_true]
  exact h
theorem while_m {c : TT} {tb : TS} {D : Ends} {σ : L2.St} {H : Hp} (Pv : Nat → L2.St → Hp → Prop) (m : Nat) (h0 : Pv m σ H)
    (hs : ∀ n σ H, Pv n σ H → c σ H fun b H1 => if b = true then ∃ N : L2.St → Hp → Prop, (∀ σ' H', N σ' H' → ∃ m', m' < n ∧ Pv m' σ' H') ∧ tb { D with nx := N, ct := N, bk := D.nx } σ H1 else D.nx σ H1) : tWhile c tb D σ H :=
  ⟨Pv, ⟨m, h0⟩, hs⟩
theorem same_new {H : Hp} {p : Addr} {o : HO} (h : H p = none) : Same H (upd H p o) := fun b u e => by
  rw [upd_ne (ne_of_none e h)]
  exact e
theorem paired_app {α β : Type} {F : α → β → Prop} : ∀ {a : List α} {b : List β} {a' : List α} {b' : List β}, Paired F a b → Paired F a' b' → Paired F (a ++ a') (b ++ b')
  | _, _, _, _, .nil, q => q
  | _, _, _, _, .cons r t, q => .cons r (paired_app t q)
theorem paired_len {α β : Type} {F : α → β → Prop} {a : List α} {b : List β} (p : Paired F a b) : a.length = b.length := Paired.length p
section
variable {X : Cx} {o e : Expr} {to te : TE} {apos cpos : Pos}
theorem qApp (ho : PE X o to) (he : PE X e te) (hbase : attributeBase o "append" X.env (eval o X.env) = eval o X.env := by rfl)
    (hfew : ((backTo cpos (starEach (e :: []) X.env)).all (fun x => !x.1) && (backToKw cpos (keywordEach [] X.env)).all (fun x => x.1.isSome)
      && decide ((e :: ([] : List Expr)).length + ([] : List Keyword).length + (if ([] : List Keyword).isEmpty then 0 else 1) < 30)) = true := by rfl)
    (hline : (apos.endLine == cpos.line) = true := by rfl) (hs : starEach (e :: []) X.env = (false, eval e X.env) :: starEach [] X.env := by rfl) (hplain : (backTo cpos (starEach [] X.env)).any (·.1) = false := by rfl) :
    PE X (.Call (.Attribute o "append" apos) [e] [] cpos) (tBM X.K "list" rAppend to (tCons te tNil)) :=
  pe_bm PySem.F.plainAttrs_list PySem.F.slot_list_append PySem.F.type_list_append mt_append ho (pa_cons he pa_nil hs) hbase hfew hline hs hplain
end
theorem while_q {c : TT} {tb : TS} {D : Ends} {σ : L2.St} {H : Hp} (Pv : Nat → L2.St → Hp → Prop) (m : Nat) (Post : L2.St → Hp → Prop) (h0 : Pv m σ H)
    (hs : ∀ X : L2.St → Hp → Prop, (∀ σ H, Post σ H → X σ H) → ∀ n σ H, Pv n σ H → c σ H fun b H1 => if b = true then ∃ N : L2.St → Hp → Prop, (∀ σ' H', N σ' H' → ∃ m', m' < n ∧ Pv m' σ' H') ∧ tb { D with nx := N, ct := N, bk := D.nx } σ H1 else X σ H1)
    (hp : ∀ σ H, Post σ H → D.nx σ H) : tWhile c tb D σ H :=
  ⟨Pv, ⟨m, h0⟩, hs D.nx hp⟩
abbrev sBeg : Stmt := top 29
abbrev sMix : Stmt := top 30
abbrev sDrw : Stmt := top 31
abbrev sPck : Stmt := top 32
/-! ### the state of the draws -/
theorem k12 : ¬ (Sum.inr ("great" : Str) : Key) = Sum.inr ("cells" : Str) := by decide +kernel
theorem k13 : ¬ (Sum.inr ("great" : Str) : Key) = Sum.inr ("rest" : Str) := by decide +kernel
theorem k14 : ¬ (Sum.inr ("great" : Str) : Key) = Sum.inr ("turn" : Str) := by decide +kernel
theorem k23 : ¬ (Sum.inr ("cells" : Str) : Key) = Sum.inr ("rest" : Str) := by decide +kernel
theorem k24 : ¬ (Sum.inr ("cells" : Str) : Key) = Sum.inr ("turn" : Str) := by decide +kernel
theorem k34 : ¬ (Sum.inr ("rest" : Str) : Key) = Sum.inr ("turn" : Str) := by decide +kernel
def StKV (g c : Addr) (r t : Int) : List (Key × V) := [(Sum.inr ("great" : Str), V.ref g), (Sum.inr ("cells" : Str), V.ref c), (Sum.inr ("rest" : Str), V.int r), (Sum.inr ("turn" : Str), V.int t)]
section
variable {g c d : Addr} {r t : Int} {H : Hp}
theorem v_great : valV (StKV g c r t) (Sum.inr ("great" : Str)) = some (.ref g) := valV_pos rfl
theorem v_cells : valV (StKV g c r t) (Sum.inr ("cells" : Str)) = some (.ref c) := (valV_neg k12).trans (valV_pos rfl)
theorem v_rest : valV (StKV g c r t) (Sum.inr ("rest" : Str)) = some (.int r) := (valV_neg k13).trans ((valV_neg k23).trans (valV_pos rfl))
theorem v_turn : valV (StKV g c r t) (Sum.inr ("turn" : Str)) = some (.int t) := (valV_neg k14).trans ((valV_neg k24).trans ((valV_neg k34).trans (valV_pos rfl)))
theorem p_rest (x : Int) : putK (StKV g c r t) (Sum.inr ("rest" : Str)) (.int x) = StKV g c x t := by
  unfold putK
  rw [valV_any, v_rest, if_pos (show (some (V.int r)).isSome = true from rfl)]
  unfold StKV
  simp only [List.map_cons, List.map_nil, if_neg k13, if_neg k23, if_pos, if_neg (Ne.symm k34 : ¬ (Sum.inr ("turn" : Str) : Key) = Sum.inr ("rest" : Str))]
theorem p_turn (x : Int) : putK (StKV g c r t) (Sum.inr ("turn" : Str)) (.int x) = StKV g c r x := by
  unfold putK
  rw [valV_any, v_turn, if_pos (show (some (V.int t)).isSome = true from rfl)]
  unfold StKV
  simp only [List.map_cons, List.map_nil, if_neg k14, if_neg k24, if_neg k34, if_pos]
theorem g_great (h : H d = some (.dK (StKV g c r t))) : DGet H d (.str ("great" : Str)) (some (.ref g)) := by
  have e := DGet.k (k := Sum.inr ("great" : Str)) h
  rw [v_great] at e
  exact e
theorem g_cells (h : H d = some (.dK (StKV g c r t))) : DGet H d (.str ("cells" : Str)) (some (.ref c)) := by
  have e := DGet.k (k := Sum.inr ("cells" : Str)) h
  rw [v_cells] at e
  exact e
theorem g_rest (h : H d = some (.dK (StKV g c r t))) : DGet H d (.str ("rest" : Str)) (some (.int r)) := by
  have e := DGet.k (k := Sum.inr ("rest" : Str)) h
  rw [v_rest] at e
  exact e
theorem g_turn (h : H d = some (.dK (StKV g c r t))) : DGet H d (.str ("turn" : Str)) (some (.int t)) := by
  have e := DGet.k (k := Sum.inr ("turn" : Str)) h
  rw [v_turn] at e
  exact e
theorem s_rest (h : H d = some (.dK (StKV g c r t))) (x : Int) : DPut H d (.str ("rest" : Str)) (.int x) (upd H d (.dK (StKV g c x t))) := by
  have e := DPut.k (k := Sum.inr ("rest" : Str)) (v := .int x) h (by rw [sizeLine_eq]; show 4 < _; omega)
  rw [p_rest] at e
  exact e
theorem s_turn (h : H d = some (.dK (StKV g c r t))) (x : Int) : DPut H d (.str ("turn" : Str)) (.int x) (upd H d (.dK (StKV g c r x))) := by
  have e := DPut.k (k := Sum.inr ("turn" : Str)) (v := .int x) h (by rw [sizeLine_eq]; show 4 < _; omega)
  rw [p_turn] at e
  exact e
end
/-- the state at d: great at g, cells at c; at most n turns were made -/
structure StX (H : Hp) (d g c : Addr) (n : Nat) (r t : Int) (gs cs : List Int) : Prop where
  dk : H d = some (.dK (StKV g c r t))
  gl : H g = some (.lst (gs.map V.int))
  cl : H c = some (.lst (cs.map V.int))
  gc : g ≠ c
  r0 : 0 ≤ r
  g0 : ∀ x ∈ gs, 0 ≤ x
  t0 : 0 ≤ t
  tn : t ≤ n
  gn : gs.length ≤ 63
  cn : cs.length ≤ 63
def StA (H : Hp) (d g c : Addr) (n : Nat) : Prop := ∃ r t gs cs, StX H d g c n r t gs cs
theorem StX.dg {H : Hp} {d g c : Addr} {n : Nat} {r t : Int} {gs cs : List Int} (S : StX H d g c n r t gs cs) : d ≠ g := ne_of S.dk S.gl (by intro z; cases z)
theorem StX.dc {H : Hp} {d g c : Addr} {n : Nat} {r t : Int} {gs cs : List Int} (S : StX H d g c n r t gs cs) : d ≠ c := ne_of S.dk S.cl (by intro z; cases z)
theorem StX.keep {H H' : Hp} {d g c : Addr} {n : Nat} {r t : Int} {gs cs : List Int} (S : StX H d g c n r t gs cs) (k : Same H H') : StX H' d g c n r t gs cs :=
  ⟨k _ _ S.dk, k _ _ S.gl, k _ _ S.cl, S.gc, S.r0, S.g0, S.t0, S.tn, S.gn, S.cn⟩
theorem StA.keep {H H' : Hp} {d g c : Addr} {n : Nat} (S : StA H d g c n) (k : Same H H') : StA H' d g c n := by
  obtain ⟨r, t, gs, cs, S⟩ := S
  exact ⟨r, t, gs, cs, S.keep k⟩
theorem StA.mono {H : Hp} {d g c : Addr} {n m : Nat} (S : StA H d g c n) (h : n ≤ m) : StA H d g c m := by
  obtain ⟨r, t, gs, cs, S⟩ := S
  exact ⟨r, t, gs, cs, S.dk, S.gl, S.cl, S.gc, S.r0, S.g0, S.t0, by have := S.tn; omega, S.gn, S.cn⟩
/-- all but the state's dict and great stay -/
def Kp (d g : Addr) (H H' : Hp) : Prop := ∀ b o, H b = some o → b ≠ d → b ≠ g → H' b = some o
theorem Kp.of {d g : Addr} {H H' : Hp} (s : Same H H') : Kp d g H H' := fun b o e _ _ => s b o e
theorem Kp.refl {d g : Addr} (H : Hp) : Kp d g H H := fun _ _ e _ _ => e
theorem Kp.trans {d g : Addr} {H H1 H2 : Hp} (a : Kp d g H H1) (b : Kp d g H1 H2) : Kp d g H H2 := fun c o e h1 h2 => b c o (a c o e h1 h2) h1 h2
theorem Kp.put {d g : Addr} {H : Hp} {o : HO} : Kp d g H (upd H d o) := fun b u e h1 _ => by
  rw [upd_ne h1]
  exact e
theorem Kp.putg {d g : Addr} {H : Hp} {o : HO} : Kp d g H (upd H g o) := fun b u e _ h2 => by
  rw [upd_ne h2]
  exact e
theorem StX.rest {H : Hp} {d g c : Addr} {n : Nat} {r t : Int} {gs cs : List Int} (S : StX H d g c n r t gs cs) {x : Int} (hx : 0 ≤ x) : StX (upd H d (.dK (StKV g c x t))) d g c n x t gs cs :=
  ⟨upd_same, by rw [upd_ne S.dg.symm]; exact S.gl, by rw [upd_ne S.dc.symm]; exact S.cl, S.gc, hx, S.g0, S.t0, S.tn, S.gn, S.cn⟩
theorem StX.turn {H : Hp} {d g c : Addr} {n : Nat} {r t : Int} {gs cs : List Int} (S : StX H d g c n r t gs cs) : StX (upd H d (.dK (StKV g c r (t + 1)))) d g c (n + 1) r (t + 1) gs cs :=
  ⟨upd_same, by rw [upd_ne S.dg.symm]; exact S.gl, by rw [upd_ne S.dc.symm]; exact S.cl, S.gc, S.r0, S.g0, by have := S.t0; omega, by have := S.tn; omega, S.gn, S.cn⟩
theorem dpInts {K : PySem.W.Frag} {H : Hp} : ∀ gs : List Int, DpAll K H (gs.map V.int) (gs.map PyData.int)
  | [] => .nil
  | x :: r => .cons (.int x) (dpInts r)
theorem layInts : ∀ gs : List Int, PyData.canLayAll0 (gs.map PyData.int) = true
  | [] => rfl
  | x :: r => by
    show (true && PyData.canLayAll0 (r.map PyData.int)) = true
    rw [layInts r]
    rfl
theorem depInts : ∀ gs : List Int, PyData.depthAll (gs.map PyData.int) = 0
  | [] => rfl
  | x :: r => by
    show max 0 (PyData.depthAll (r.map PyData.int)) = 0
    rw [depInts r]
    rfl
theorem shInts (gs : List Int) : SeqAt.shaped (.list (gs.map PyData.int)) = true := by
  unfold SeqAt.shaped
  show (PyData.canLayAll0 (gs.map PyData.int) && decide (PyData.depthAll (gs.map PyData.int) + 1 ≤ 64)) = true
  rw [layInts, depInts]
  rfl
def spMix : Sp := fun vs H Q _ => ∃ (d g c : Addr) (n : Nat), vs = [.ref d] ∧ StA H d g c n ∧ n ≤ 1000000000 ∧ ∀ (v : Int) (H' : Hp), 0 ≤ v → StA H' d g c (n + 1) → Kp d g H H' → Q (.int v) H'
def spDrw : Sp := fun vs H Q _ => ∃ (d g c : Addr) (n : Nat) (room : Int), vs = [.ref d, .int room] ∧ StA H d g c n ∧ n ≤ 1000000000 ∧ 0 < room ∧ room < 1073741824 ∧
  ∀ (v : Int) (H' : Hp), 0 ≤ v → v < room → StA H' d g c (n + 1) → Kp d g H H' → Q (.int v) H'
def spPck : Sp := fun vs H Q _ => ∃ (d g c a : Addr) (n : Nat) (xs : List V), vs = [.ref d, .ref a] ∧ StA H d g c n ∧ n ≤ 1000000000 ∧ H a = some (.lst xs) ∧ a ≠ g ∧ xs ≠ [] ∧ xs.length ≤ 1000000 ∧
  ∀ (v : V) (H' : Hp), v ∈ xs → StA H' d g c (n + 1) → Kp d g H H' → Q v H'
structure MgS (K : PySem.W.Frag) (mg : Str → Option Value) (fM fD : Addr) : Prop where
  int : mg "int" = none
  len : mg "len" = none
  mx : mg "_law_mixed" = some (.ref fM)
  kmx : PySem.W.keepIn K (.ref fM) = true
  dr : mg "_law_draw" = some (.ref fD)
  kdr : PySem.W.keepIn K (.ref fD) = true
section
variable {P : Program} {w : World} {K : PySem.W.Frag} {mg : Str → Option Value} {base : Heap}
theorem scMix : FnScope ["state", "turn", "found", "prime", "blend", "cell"] ["state"] (defScope sMix) := ⟨rfl, rfl, rfl, by decide +kernel, rfl, by decide +kernel, by decide +kernel⟩
theorem ok_mix {f fM fD : Addr} {fd : FuncData} (F : Fun K "_law_mixed" "_law_mixed" sMix f fd) (T : MgS K mg fM fD) : FnOk P w K mg base CX0 1 f fd ["state"] spMix := by
  refine F.ok scMix (fun vs H Q E h => ?_) (fun cdv A outer s H vs Q E hr h => ?_)
  · obtain ⟨d, g, c, n, rfl, _⟩ := h
    rfl
  · obtain ⟨d, g, c, n, rfl, ⟨r, t, gs, cs, S⟩, hn, k⟩ := h
    have hu := hu_of hr
    refine ⟨_, pss_cons (ps_par (i := 1) (j := 2) (by rfl) scMix.nd rfl rfl (by decide) rfl rfl (pa_cons (pe_op op_add (pe_dget hu (pv 0) pe_str (fun _ _ => rfl)) pe_int) (pa_cons pe_int pa_nil)) (by rfl))
      (pss_cons (ps_dput hu (pv 0) pe_str (pv 1) rfl)
      (pss_cons (ps_for PassesOwn.never rfl (pi_list (pe_lst (pa_cons pe_int (pa_cons pe_int (pa_cons pe_int (pa_cons pe_int pa_nil)))))) (pg_name (i := 3) scMix.nd rfl (Or.inl rfl))
        (pss_cons (ps_set (i := 4) scMix.nd rfl (Or.inl rfl) (pe_op op_add (pe_op op_mul pe_int (pv 1)) (pe_op op_fdivN (pv 3) pe_int)))
        (pss_cons (ps_for PassesOwn.never rfl (pi_list (pe_dget hu (pv 0) pe_str (fun _ _ => rfl))) (pg_name (i := 5) scMix.nd rfl (Or.inl rfl))
          (pss_one (ps_set (i := 4) scMix.nd rfl (Or.inl rfl) (pe_op op_mod (pe_callTy call_int1 (by rfl) T.int (by decide +kernel) (pa_cons (pe_op op_add (pe_op op_add (pe_op op_mul (pv 4) pe_int) (pv 5)) (pv 1)) pa_nil)) (pv 3)))))
        (pss_one (ps_set (i := 2) scMix.nd rfl (Or.inl rfl) (pe_op op_add (pe_op op_mul (pv 2) pe_int) (pe_op op_mod (pe_callTy call_int1 (by rfl) T.int (by decide +kernel) (pa_cons (pe_op op_pow (pv 4) pe_int) pa_nil)) (pv 3))))))))
      (pss_one (ps_ret (pv 2))))), ?_⟩
    refine ⟨_, rfl, d, _, rfl, g_turn S.dk, _, _, rfl, rfl, ⟨_, _, rfl, ?_⟩⟩
    refine ⟨_, rfl, _, rfl, d, _, rfl, s_turn S.dk _, ?_⟩
    have S1 := S.turn
    have t0 := S.t0
    have tn := S.tn
    refine ⟨(by show 4 ≤ sizeLine; decide), fun l hl => ?_⟩
    have S2 := S1.keep (same_new (o := .lst [V.int 2147483629, V.int 2147483647, V.int 2147483563, V.int 2147483587]) hl)
    have kp : Kp d g H (upd (upd H d (.dK (StKV g c r (t + 1)))) l (.lst [V.int 2147483629, V.int 2147483647, V.int 2147483563, V.int 2147483587])) := Kp.put.trans (Kp.of (same_new hl))
    generalize hH1 : upd (upd H d (.dK (StKV g c r (t + 1)))) l (.lst [V.int 2147483629, V.int 2147483647, V.int 2147483563, V.int 2147483587]) = H1 at S2 kp
    have hl1 : H1 l = some (.lst [V.int 2147483629, V.int 2147483647, V.int 2147483563, V.int 2147483587]) := by rw [← hH1, upd_same]
    refine ⟨l, rfl, ⟨_, SqL.of (by first | exact upd_same | exact hl1)⟩, for_list (K := K) (a := l) (xs := [V.int 2147483629, V.int 2147483647, V.int 2147483563, V.int 2147483587])
      (fun i σ H' => ∃ (fd : Int) (pv bv cv : Option V), σ = [some (.ref d), some (.int (t + 1)), some (.int fd), pv, bv, cv] ∧ 0 ≤ fd ∧ H' = H1) ⟨0, none, none, none, rfl, Int.le_refl _, by first | rfl | exact hH1⟩ (fun i σ H' _ ⟨_, _, _, _, _, _, e⟩ => by rw [e]; exact SqL.of hl1) ?_ ?_⟩
    · rintro i x σ H' hi ⟨fd, pv, bv, cv, rfl, hfd, rfl⟩
      have hm := List.mem_of_getElem? hi
      obtain ⟨pr, rfl, hp0, hp1⟩ : ∃ pr : Int, x = .int pr ∧ 0 < pr ∧ pr < 2147483648 := by
        simp only [List.mem_cons, List.not_mem_nil, or_false] at hm
        rcases hm with rfl | rfl | rfl | rfl
        · exact ⟨_, rfl, by decide, by decide⟩
        · exact ⟨_, rfl, by decide, by decide⟩
        · exact ⟨_, rfl, by decide, by decide⟩
        · exact ⟨_, rfl, by decide, by decide⟩
      have hq : pr.fdiv 41 = pr / 41 := Int.fdiv_eq_ediv_of_nonneg _ (by decide)
      refine ⟨_, rfl, _, _, rfl, rfl, .inl ⟨by decide, by decide⟩, _, rfl, _, _, rfl, rfl, ⟨by decide, by decide⟩, _, _, rfl, rfl, ?_⟩
      refine ⟨_, rfl, d, _, rfl, g_cells S2.dk, c, rfl, ⟨_, SqL.of S2.cl⟩, for_list (K := K) (a := c) (xs := cs.map V.int)
        (fun i σ H'' => ∃ (bl : Int) (cv : Option V), σ = [some (.ref d), some (.int (t + 1)), some (.int fd), some (.int pr), some (.int bl), cv] ∧ -9000000000000000000 < bl ∧ bl < 9000000000000000000 ∧ H'' = H') ⟨_, cv, rfl, by omega, by omega, rfl⟩ (fun i σ H'' _ ⟨_, _, _, _, _, e⟩ => by rw [e]; exact SqL.of S2.cl) ?_ ?_⟩
      · rintro j y σ H'' hj ⟨bl, cv2, rfl, hb1, hb2, rfl⟩
        rw [List.getElem?_map] at hj
        obtain ⟨z, _, rfl⟩ := Option.map_eq_some_iff.mp hj
        refine ⟨_, rfl, _, _, rfl, rfl, .inr ⟨by decide, by decide⟩, _, rfl, _, _, rfl, rfl, _, rfl, _, _, rfl, rfl, .inl ⟨_, rfl, _, rfl, _, _, rfl, rfl, hp0, ?_⟩⟩
        refine ⟨_, _, rfl, ?_, ?_, rfl⟩
        · have := Int.emod_nonneg (bl * 48271 + z + (t + 1)) (Int.ne_of_gt hp0)
          omega
        · have := Int.emod_lt_of_pos (bl * 48271 + z + (t + 1)) hp0
          omega
      · rintro σ H'' ⟨bl, cv2, rfl, hb1, hb2, rfl⟩
        refine ⟨_, rfl, _, _, rfl, rfl, .inr ⟨by decide, by decide⟩, _, rfl, _, _, rfl, rfl, ⟨by decide, by decide, by omega⟩, .inl ⟨_, rfl, _, rfl, _, _, rfl, rfl, hp0, _, _, rfl, rfl, ?_⟩⟩
        refine ⟨_, _, _, _, rfl, ?_, rfl⟩
        have := Int.emod_nonneg (bl ^ (5 : Int).toNat) (Int.ne_of_gt hp0)
        omega
    · rintro σ H' ⟨fd, pv, bv, cv, rfl, hfd, rfl⟩
      refine ⟨_, rfl, k fd H' hfd ⟨_, _, _, _, S2⟩ kp⟩
end
/-- a statement, a word of one's own, the rest -/
def tMid (t u : TS) : TS := fun D σ H => ∃ M : L2.St → Hp → Prop, t { D with nx := M } σ H ∧ ∀ σ1 H1, M σ1 H1 → u D σ1 H1
section
variable {X : Cx} {o e : Expr} {to te : TE} {apos cpos : Pos}
theorem pss_mid {st : Stmt} {rest : List Stmt} {t u : TS} (h1 : PS X st t) (h2 : PSs X rest u) : PSs X (st :: rest) (tMid t u) := by
  constructor
  intro pins s σ H D I h
  obtain ⟨M, ha, hb⟩ := h
  refine wpAny_execs_cons (thn (h1.run pins s σ H { D with nx := M } I ha) ?_)
  intro f s1 q
  match f, q with
  | .next, ⟨σ1, H1, I1, q⟩ => exact h2.run pins s1 σ1 H1 D I1 (hb σ1 H1 q)
  | .ret v, q => exact q
  | .brk, q => exact q
  | .cont, q => exact q
theorem qPopAt (ho : PE X o to) (he : PE X e te) (hbase : attributeBase o "pop" X.env (eval o X.env) = eval o X.env := by rfl)
    (hfew : ((backTo cpos (starEach (e :: []) X.env)).all (fun x => !x.1) && (backToKw cpos (keywordEach [] X.env)).all (fun x => x.1.isSome)
      && decide ((e :: ([] : List Expr)).length + ([] : List Keyword).length + (if ([] : List Keyword).isEmpty then 0 else 1) < 30)) = true := by rfl)
    (hline : (apos.endLine == cpos.line) = true := by rfl) (hs : starEach (e :: []) X.env = (false, eval e X.env) :: starEach [] X.env := by rfl) (hplain : (backTo cpos (starEach [] X.env)).any (·.1) = false := by rfl) :
    PE X (.Call (.Attribute o "pop" apos) [e] [] cpos) (tBM X.K "list" rPopAt to (tCons te tNil)) :=
  pe_bm PySem.F.plainAttrs_list PySem.F.slot_list_pop PySem.F.type_list_pop mt_popAt ho (pa_cons he pa_nil hs) hbase hfew hline hs hplain
end
theorem StX.pop {H : Hp} {d g c : Addr} {n : Nat} {r t x : Int} {gs cs : List Int} (S : StX H d g c n r t (x :: gs) cs) : 0 ≤ x ∧ StX (upd (upd H g (.lst (gs.map V.int))) d (.dK (StKV g c x t))) d g c n x t gs cs := by
  have hx := S.g0 x (List.mem_cons_self ..)
  refine ⟨hx, upd_same, by rw [upd_ne S.dg.symm, upd_same], by rw [upd_ne S.dc.symm, upd_ne S.gc.symm]; exact S.cl, S.gc, hx, fun y hy => S.g0 y (List.mem_cons_of_mem _ hy), S.t0, S.tn, by have := S.gn; simp only [List.length_cons] at this; omega, S.cn⟩
section
variable {P : Program} {w : World} {K : PySem.W.Frag} {mg : Str → Option Value} {base : Heap}
theorem scDrw : FnScope ["state", "room", "found"] ["state", "room"] (defScope sDrw) := ⟨rfl, rfl, rfl, by decide +kernel, rfl, by decide +kernel, by decide +kernel⟩
theorem ok_drw {f fM fD : Addr} {fd fdM : FuncData} (F : Fun K "_law_draw" "_law_draw" sDrw f fd) (T : MgS K mg fM fD) (FM : Fun K "_law_mixed" "_law_mixed" sMix fM fdM) (bM : L2.Binds K fdM ["state"] []) : FnOk P w K mg base CX0 2 f fd ["state", "room"] spDrw := by
  have GM : FnOk P w K mg base CX0 1 fM fdM ["state"] spMix := ok_mix FM T
  refine F.ok scDrw (fun vs H Q E h => ?_) (fun cdv A outer s H vs Q E hr h => ?_)
  · obtain ⟨d, g, c, n, room, rfl, _⟩ := h
    rfl
  · obtain ⟨d, g, c, n, room, rfl, ⟨r, t, gs, cs, S⟩, hn, hr0, hr1, k⟩ := h
    have hu := hu_of hr
    refine ⟨_, pss_mid (ps_if (pt_cmpR op_eq (pe_dget hu (pv 0) pe_str (fun _ _ => rfl)) pe_int (nomark _))
        (pss_one (ps_dput hu (pv 0) pe_str (pe_ifExp (pt_cmpR (op_neD hr.units) (pe_dget hu (pv 0) pe_str (fun _ _ => rfl)) (pe_lst pa_nil) (nomark _))
          (qPopAt (pe_dget hu (pv 0) pe_str (fun _ _ => rfl)) pe_int) (pe_call GM hr (by rfl) T.mx T.kmx bM .nil pass0 (pa_cons (pv 0) pa_nil))) rfl)) pss_nil)
      (pss_cons (ps_set (i := 2) scDrw.nd rfl (Or.inl rfl) (pe_op op_mod (pe_callTy call_int1 (by rfl) T.int (by decide +kernel) (pa_cons (pe_dget hu (pv 0) pe_str (fun _ _ => rfl)) pa_nil)) (pv 1)))
      (pss_cons (ps_dput hu (pv 0) pe_str (pe_op op_fdivN (pe_dget hu (pv 0) pe_str (fun _ _ => rfl)) (pv 1)) rfl)
      (pss_one (ps_ret (pv 2))))), ?_⟩
    refine ⟨fun σ1 H1 => σ1 = [some (.ref d), some (.int room), none] ∧ StA H1 d g c (n + 1) ∧ Kp d g H H1, ?_, ?_⟩
    · refine ⟨_, rfl, d, _, rfl, g_rest S.dk, rfl, _, rfl, ?_⟩
      by_cases h0 : r = 0
      · refine ifT (decide_eq_true (by rw [h0])) ?_
        refine ⟨_, rfl, d, _, rfl, g_great S.dk, Nat.zero_le _, fun l hl => ?_⟩
        have S1 := S.keep (same_new (o := .lst []) hl)
        refine ⟨_, .list [], .lst (SqL.of S1.gl) (dpInts gs), .lst (SqL.of upd_same) .nil, shInts gs, by decide, _, rfl, ?_⟩
        cases gs with
        | nil =>
          refine ifF rfl ?_
          refine ⟨_, rfl, d, g, c, n, rfl, ⟨r, t, [], cs, S1⟩, hn, fun v H' hv S2 kp => ?_⟩
          obtain ⟨r2, t2, gs2, cs2, S2⟩ := S2
          refine ⟨_, rfl, d, _, rfl, s_rest S2.dk v, rfl, ⟨v, t2, gs2, cs2, S2.rest hv⟩, (Kp.of (same_new hl)).trans (kp.trans Kp.put)⟩
        | cons x gs =>
          refine ifT rfl ?_
          obtain ⟨hx, S2⟩ := S1.pop
          refine ⟨_, rfl, d, _, rfl, g_great S1.dk, .inl ⟨rfl, _, SqL.of S1.gl⟩, g, _, 0, 0, .int x, rfl, rfl, S1.gl, (by decide), (by decide), (by first | rfl | (unfold seqIndex?; simp)), rfl, ?_⟩
          refine ⟨_, rfl, d, _, rfl, s_rest (by rw [upd_ne S1.dg]; exact S1.dk) x, rfl, ?_, (Kp.of (same_new hl)).trans (Kp.putg.trans Kp.put)⟩
          exact StA.mono ⟨x, t, gs, cs, S2⟩ (Nat.le_succ _)
      · refine ifF (decide_eq_false (fun h => h0 (by injection h))) ?_
        exact ⟨rfl, StA.mono ⟨r, t, gs, cs, S⟩ (Nat.le_succ _), Kp.refl _⟩
    · rintro σ1 H1 ⟨rfl, ⟨r, t, gs, cs, S⟩, kp⟩
      refine ⟨_, rfl, d, _, rfl, g_rest S.dk, .inl ⟨_, rfl, _, rfl, _, _, rfl, rfl, hr0, ?_⟩⟩
      refine ⟨_, rfl, d, _, rfl, g_rest S.dk, _, rfl, _, _, rfl, rfl, ⟨by omega, by omega⟩, _, rfl, d, _, rfl, s_rest S.dk _, ?_⟩
      have hq : 0 ≤ r.fdiv room := by
        rw [Int.fdiv_eq_ediv_of_nonneg _ (by omega)]
        exact Int.ediv_nonneg S.r0 (by omega)
      exact ⟨_, rfl, k _ _ (Int.emod_nonneg _ (by omega)) (Int.emod_lt_of_pos _ hr0) ⟨_, _, _, _, S.rest hq⟩ (kp.trans Kp.put)⟩
end
theorem merge_st (g c : Addr) : mergeK [] (StKV g c 0 0) = StKV g c 0 0 := by
  have e1 : putK [] (Sum.inr ("great" : Str) : Key) (V.ref g) = [(Sum.inr ("great" : Str), V.ref g)] := by
    rw [putK_new _ valV_nil]
    rfl
  have e2 : putK [((Sum.inr ("great" : Str) : Key), V.ref g)] (Sum.inr ("cells" : Str)) (V.ref c) = [(Sum.inr ("great" : Str), V.ref g), (Sum.inr ("cells" : Str), V.ref c)] := by
    rw [putK_new _ ((valV_neg k12).trans valV_nil)]
    rfl
  have e3 : putK [((Sum.inr ("great" : Str) : Key), V.ref g), (Sum.inr ("cells" : Str), V.ref c)] (Sum.inr ("rest" : Str)) (V.int 0) = [(Sum.inr ("great" : Str), V.ref g), (Sum.inr ("cells" : Str), V.ref c), (Sum.inr ("rest" : Str), V.int 0)] := by
    rw [putK_new _ ((valV_neg k13).trans ((valV_neg k23).trans valV_nil))]
    rfl
  have e4 : putK [((Sum.inr ("great" : Str) : Key), V.ref g), (Sum.inr ("cells" : Str), V.ref c), (Sum.inr ("rest" : Str), V.int 0)] (Sum.inr ("turn" : Str)) (V.int 0) = StKV g c 0 0 := by
    rw [putK_new _ ((valV_neg k14).trans ((valV_neg k24).trans ((valV_neg k34).trans valV_nil)))]
    rfl
  show putK (putK (putK (putK [] (Sum.inr ("great" : Str) : Key) (V.ref g)) (Sum.inr ("cells" : Str)) (V.ref c)) (Sum.inr ("rest" : Str)) (V.int 0)) (Sum.inr ("turn" : Str)) (V.int 0) = _
  rw [e1, e2, e3, e4]
def spBeg (K : PySem.W.Frag) : Sp := fun vs H Q _ => ∃ (a : Addr) (ns : List Int), vs = [.ref a] ∧ SqL K H a (ns.map V.int) ∧ ns.length ≤ 63 ∧
  ∀ (d g c : Addr) (H' : Hp), StA H' d g c 0 → Same H H' → H d = none → H g = none → Q (.ref d) H'
section
variable {P : Program} {w : World} {K : PySem.W.Frag} {mg : Str → Option Value} {base : Heap}
theorem scPck : FnScope ["state", "some"] ["state", "some"] (defScope sPck) := ⟨rfl, rfl, rfl, by decide +kernel, rfl, by decide +kernel, by decide +kernel⟩
theorem ok_pck {f fM fD : Addr} {fd fdM fdD : FuncData} (F : Fun K "_law_pick" "_law_pick" sPck f fd) (T : MgS K mg fM fD) (FM : Fun K "_law_mixed" "_law_mixed" sMix fM fdM) (bM : L2.Binds K fdM ["state"] [])
    (FD : Fun K "_law_draw" "_law_draw" sDrw fD fdD) (bD : L2.Binds K fdD ["state", "room"] []) : FnOk P w K mg base CX0 3 f fd ["state", "some"] spPck := by
  have GD : FnOk P w K mg base CX0 2 fD fdD ["state", "room"] spDrw := ok_drw FD T FM bM
  refine F.ok scPck (fun vs H Q E h => ?_) (fun cdv A outer s H vs Q E hr h => ?_)
  · obtain ⟨d, g, c, a, n, xs, rfl, _⟩ := h
    rfl
  · obtain ⟨d, g, c, a, n, xs, rfl, S, hn, ha, hag, hne, hlen, k⟩ := h
    refine ⟨_, pss_one (ps_ret (pe_ix ix_list (pv 1) (pe_call GD hr (by rfl) T.dr T.kdr bD .nil pass0 (pa_cons (pv 0) (pa_cons (pe_callB call_len_seq (by rfl) T.len PySem.boot_len (pa_cons (pv 1) pa_nil)) pa_nil))) (fun _ _ => rfl))), ?_⟩
    have hpos : 0 < xs.length := List.length_pos_iff.mpr hne
    have had : a ≠ d := by
      obtain ⟨r, t, gs, cs, S⟩ := S
      exact ne_of ha S.dk (by intro z; cases z)
    refine ⟨_, rfl, _, rfl, _, rfl, a, _, rfl, .inl (SqL.of ha), d, g, c, n, (xs.length : Int), rfl, S, hn, by omega, by omega, fun v H' h0 h1 S2 kp => ?_⟩
    have hi : v.toNat < xs.length := by omega
    exact ⟨a, xs, v, xs[v.toNat], rfl, rfl, SqL.of (kp _ _ ha had hag), at_of (j := v.toNat) (by omega) (List.getElem?_eq_getElem hi), k _ _ (List.getElem_mem hi) S2 kp⟩
theorem scBeg : FnScope ["script", "great", "cell"] ["script"] (defScope sBeg) := ⟨rfl, rfl, rfl, by decide +kernel, rfl, by decide +kernel, by decide +kernel⟩
theorem ok_beg {f : Addr} {fd : FuncData} (F : Fun K "_law_begun" "_law_begun" sBeg f fd) (ma : mg "abs" = none) : FnOk P w K mg base CX0 1 f fd ["script"] (spBeg K) := by
  refine F.ok scBeg (fun vs H Q E h => ?_) (fun cdv A outer s H vs Q E hr h => ?_)
  · obtain ⟨a, ns, rfl, _⟩ := h
    rfl
  · obtain ⟨a, ns, rfl, hS, hlen, k⟩ := h
    refine ⟨_, pss_cons (ps_setLc (i := 1) (own := [("cell", 2)]) (g := gName 2) (by rfl) scBeg.nd rfl rfl (sw_true rfl rfl rfl (by decide +kernel)) (pi_list (pv 0)) (blkOk_by (own := [("cell", 2)]) (N := ["script", "great", "cell"]) (sc := defScope sBeg) (by decide +kernel)) (fun _ _ _ _ _ => pg_name (i := 2) scBeg.nd rfl (Or.inl rfl))
        (fun _ _ _ _ _ => pts_one (pt_cmpR op_ge (pe_callB call_abs (by rfl) ma (by decide +kernel) (pa_cons (pv 2) pa_nil)) (pe_op op_pow pe_int pe_int) (nomark _)))
        (fun _ _ _ _ _ => pe_op op_sub (pe_callB call_abs (by rfl) ma (by decide +kernel) (pa_cons (pv 2) pa_nil)) (pe_op op_pow pe_int pe_int)))
      (pss_one (ps_ret (pe_disp (pps_cons pe_str (pv 1) (pps_cons pe_str (pe_lc (own := [("cell", 2)]) (g := gName 2) (tt := tYes) (by rfl) scBeg.nd (pi_list (pv 0)) (blkOk_by (own := [("cell", 2)]) (N := ["script", "great", "cell"]) (sc := defScope sBeg) (by decide +kernel)) (fun _ _ _ _ _ => pg_name (i := 2) scBeg.nd rfl (Or.inl rfl)) (fun _ _ _ _ _ => pts_nil)
        (fun _ _ _ _ _ => pe_callB call_abs (by rfl) ma (by decide +kernel) (pa_cons (pv 2) pa_nil))) (pps_cons pe_str pe_int (pps_cons pe_str pe_int pps_nil)))) (by rfl) (by rfl) (fun z => by cases z) (by decide)))), ?_⟩
    refine ⟨_, rfl, a, rfl, ⟨_, hS⟩, fun g hg => lc_list (K := K) (a := a) (xs := ns.map V.int)
      (fun i H' => ∃ gs : List Int, H' g = some (.lst (gs.map V.int)) ∧ (∀ x ∈ gs, 0 ≤ x) ∧ gs.length ≤ i ∧ Same H H') ⟨[], upd_same, (fun x hx => by cases hx), Nat.le_refl _, same_new hg⟩ (fun i H' _ ⟨_, _, _, _, s1⟩ => s1.seq hS) ?_ ?_⟩
    · rintro i x H' hi ⟨gs, h1, h2, h3, s1⟩
      have hil : i < (ns.map V.int).length := (List.getElem?_eq_some_iff.mp hi).1
      rw [List.length_map] at hil
      rw [List.getElem?_map] at hi
      obtain ⟨z, _, rfl⟩ := Option.map_eq_some_iff.mp hi
      refine ⟨rfl, ?_⟩
      refine ⟨_, rfl, z, rfl, _, _, rfl, rfl, ⟨by decide, by decide, by decide⟩, _, _, rfl, rfl, _, rfl, ?_⟩
      by_cases hz : (10 : Int) ^ (18 : Int).toNat ≤ (if z < 0 then -z else z)
      · refine ifT (decide_eq_true hz) ?_
        refine ⟨_, rfl, z, rfl, _, _, rfl, rfl, ⟨by decide, by decide, by decide⟩, _, _, rfl, rfl, ?_⟩
        refine ⟨gs.map V.int, h1, by rw [List.length_map, sizeLine_eq]; omega, gs ++ [(if z < 0 then -z else z) - (10 : Int) ^ (18 : Int).toNat], ?_, ?_, ?_, ?_⟩
        · rw [upd_same, List.map_append]
          rfl
        · intro x hx
          rcases List.mem_append.mp hx with hx | hx
          · exact h2 x hx
          · rw [List.mem_singleton.mp hx]
            omega
        · rw [List.length_append]
          show gs.length + 1 ≤ i + 1
          omega
        · intro b o e
          rw [upd_ne (ne_of_none e hg)]
          exact s1 _ _ e
      · refine ifF (decide_eq_false hz) ?_
        exact ⟨gs, h1, h2, by omega, s1⟩
    · rw [List.length_map]
      rintro H1 ⟨gs, h1, h2, h3, s1⟩
      refine fun p hp => ?_
      have hgp : g ≠ p := ne_of_none h1 hp
      refine ⟨_, rfl, _, rfl, a, rfl, ⟨_, (s1.trans (same_new hp)).seq hS⟩, fun c hc => lc_list (K := K) (a := a) (xs := ns.map V.int)
        (fun i H' => ∃ cs : List Int, H' c = some (.lst (cs.map V.int)) ∧ cs.length ≤ i ∧ Same (upd H1 p (.dK [])) H') ⟨[], upd_same, Nat.le_refl _, same_new hc⟩ (fun i H' _ ⟨_, _, _, s2⟩ => ((s1.trans (same_new hp)).trans s2).seq hS) ?_ ?_⟩
      · rintro i x H' hi ⟨cs, h4, h5, s2⟩
        have hil : i < (ns.map V.int).length := (List.getElem?_eq_some_iff.mp hi).1
        rw [List.length_map] at hil
        rw [List.getElem?_map] at hi
        obtain ⟨z, _, rfl⟩ := Option.map_eq_some_iff.mp hi
        refine ⟨rfl, ?_⟩
        refine ⟨_, rfl, z, rfl, cs.map V.int, h4, by rw [List.length_map, sizeLine_eq]; omega, cs ++ [if z < 0 then -z else z], ?_, ?_, ?_⟩
        · rw [upd_same, List.map_append]
          rfl
        · rw [List.length_append]
          show cs.length + 1 ≤ i + 1
          omega
        · intro b o e
          rw [upd_ne (ne_of_none e hc)]
          exact s2 _ _ e
      · rw [List.length_map]
        rintro H2 ⟨cs, h4, h5, s2⟩
        have hpc : p ≠ c := ne_of_none upd_same hc
        have hgc : g ≠ c := ne_of_none (by rw [upd_ne hgp]; exact h1) hc
        refine ⟨s2 _ _ upd_same, StKV g c 0 0, rfl, (by show 4 ≤ 15; decide), ?_⟩
        rw [merge_st]
        refine k p g c _ ⟨0, 0, gs, cs, upd_same, ?_, ?_, hgc, Int.le_refl _, h2, Int.le_refl _, Int.le_refl _, by omega, by omega⟩ ?_ (s1.free hp) hg
        · rw [upd_ne hgp]
          exact s2 _ _ (by rw [upd_ne hgp]; exact h1)
        · rw [upd_ne hpc.symm]
          exact h4
        · intro b o e
          have hbp : b ≠ p := ne_of_none (s1 _ _ e) hp
          rw [upd_ne hbp]
          exact s2 _ _ (by rw [upd_ne hbp]; exact s1 _ _ e)
end
end K66

set_option Elab.async false
set_option linter.all false
set_option pp.maxSteps 700
set_option maxRecDepth 100000
set_option maxHeartbeats 2000000
namespace K66
open PySem PySem.Spec PyProof.Rows L2
open TL (tl)
open LamX (GivesTo CodeO Tabs TabS TabB tLam pe_lamcall lamCx lamEnv lamS_by ExtN)
abbrev sCgt : Stmt := top 34
/-! ### an error that was caught and is kept -/
def exh (a : Addr) (cls : Value) (d : Option Addr) : HO := .ext fun h => ∃ (oe : Obj) (vs : Array Value), h.get? a = some oe ∧ Zc cls d oe ∧ oe.data = .fields vs
theorem exh_ok {P : Program} {w : World} {H : Hp} {h : Heap} {a : Addr} {cls : Value} {d : Option Addr} {oe : Obj} {vs : Array Value} (e : h.get? a = some oe) (z : Zc cls d oe) (hd : oe.data = .fields vs) : ObjOk P w H h a (exh a cls d) :=
  ⟨⟨oe, vs, e, z, hd⟩, ⟨oe, e⟩, fun h1 h2 x k => by
    obtain ⟨o1, v1, e1, z1, d1⟩ := x
    exact ⟨o1, v1, k _ e1, z1, d1⟩⟩
theorem exh_at {P : Program} {w : World} {H : Hp} {h : Heap} {a : Addr} {cls : Value} {d : Option Addr} (hok : HOk P w H h) (e : H a = some (exh a cls d)) : ∃ (oe : Obj) (vs : Array Value), h.get? a = some oe ∧ Zc cls d oe ∧ oe.data = .fields vs := by
  have x : ObjOk P w H h a (.ext fun h => ∃ (oe : Obj) (vs : Array Value), h.get? a = some oe ∧ Zc cls d oe ∧ oe.data = .fields vs) := hok a _ e
  exact x.1
section
variable {X : Cx} {pins : List (Addr × Obj)} {σ : L2.St} {H : Hp} {s : Shared}
theorem inv_track {a : Addr} {oe : Obj} {vs : Array Value} {cls : Value} {d : Option Addr} (I : Inv X pins σ H s) (ha : s.heap.get? a = some oe) (hz : Zc cls d oe) (hd : oe.data = .fields vs) (na : H a = none)
    (n0 : X.s_0.heap.get? a = none) (nL : a ≠ X.env.locals) (np : ∀ p ∈ X.pn ++ pins, p.1 ≠ a) : Inv X pins σ (upd H a (exh a cls d)) s := by
  have nH : ∀ {b : Addr} {o : HO}, H b = some o → b ≠ a := fun {b o} e => ne_of_none e na
  refine ⟨I.ok, I.os, I.bare, ⟨I.base.keep, I.base.slot, ?_, I.base.there, ?_, ?_, ?_⟩, I.loc, I.cell, ?_, ?_, ?_, ?_, I.len⟩
  · intro b o q n hx
    have : b ≠ a := fun z => by rw [z, n0] at q; cases q
    rw [upd_ne this]
    exact I.base.free b o q n hx
  · intro b xs q
    have q1 := I.base.tups b xs q
    rw [upd_ne (nH q1)]
    exact q1
  · intro b o u q
    have q1 := I.base.frzs b o u q
    rw [upd_ne (nH q1)]
    exact q1
  · intro b ps q
    obtain ⟨more, q1⟩ := I.base.tbls b ps q
    exact ⟨more, by rw [upd_ne (nH q1)]; exact q1⟩
  · rw [upd_ne nL.symm]
    exact I.free
  · intro x c e
    obtain ⟨v, o, h1, h2⟩ := I.cell x c e
    have : c ≠ a := fun z => by
      rw [z, ha] at h1
      cases h1
      rw [hd] at h2
      cases h2
    rw [upd_ne this]
    exact I.freeC x c e
  · intro p hp
    obtain ⟨p1, p2, p3, p4, p5⟩ := I.pin p hp
    exact ⟨p1, by rw [upd_ne (np p hp)]; exact p2, p3, p4, p5⟩
  · intro b o e
    by_cases hb : b = a
    · subst hb
      rw [upd_same] at e
      cases e
      exact exh_ok ha hz hd
    · rw [upd_ne hb] at e
      exact (I.hok b o e).stay (fun c v _ q => q) (fun c q => by rw [upd_ne (nH q)]; exact q) fun c xs q => by rw [upd_ne (nH q)]; exact q
end
/-- try .. except x as n: the error stays known behind the suite -/
def wKp (K : PySem.W.Frag) (c : Value) (i : Nat) (ts : Addr → Value → Option Addr → TS) (Wout : WX) (D : Ends) : WX := fun cls d σ H =>
  ∃ b, PySem.W.exmOne K cls c = some b ∧ (b = true → ∀ a, H a = none → ts a cls d { nx := fun σ' H' => D.nx (σ'.set i none) (upd H' a (exh a cls d)), rt := fun v H' => D.rt v (upd H' a (exh a cls d)), bk := fun σ' H' => D.bk (σ'.set i none) (upd H' a (exh a cls d)), ct := fun σ' H' => D.ct (σ'.set i none) (upd H' a (exh a cls d)) } (σ.set i (some (.ref a))) H) ∧ (b = false → Wout cls d σ H)
section
variable {X : Cx} {x n : Str} {c : Value} {i : Nat} {body suite : List Stmt} {b₀ : Stmt} {np pos pos' : Pos} {tb : WX → TS} {ts : Addr → Value → Option Addr → TS} {Wout : WX}
theorem ps_try_keep (hs : X.stack = X.env :: X.outer) (hf : X.env.frame = some X.env.locals) (hex : X.ex = []) (hN : X.N.Nodup) (hi : X.N[i]? = some n) (hln : X.env.kindOf n = some .local) (hc : Names X x c) (tk : Takes X Wout)
    (hb : ∀ (W : WX) (pn : List (Addr × Obj)) (xe : Value → Shared → Prop), Takes (X.tr pn xe) W → PassesOwn (model X.prog X.w) X.A X.env xe → PSs (X.tr pn xe) body (tb W))
    (hsu : ∀ (a : Addr) (oe : Obj) (cls : Value) (d : Option Addr) (pn : List (Addr × Obj)), Zc cls d oe → (∃ vs, oe.data = .fields vs) → PSs (X.suite a ((a, oe) :: pn)) (b₀ :: suite) (ts a cls d)) :
    PS X (.Try body [.ExceptHandler (some (.Name x np)) (some n) (b₀ :: suite) pos'] [] [] pos) (fun D σ H => tb (wKp X.K c i ts Wout D) D σ H) := by
  refine ⟨fun pins s σ H D I h => ?_⟩
  have ok := I.ok
  have hfr : X.A.frames = some (X.env :: X.outer) := by rw [ok.frames, hs]
  have hloc : Loc X.env.scope n := .inl hln
  refine wpAny_Try_except ?_
  refine wpAny_mono ((hb (wKp X.K c i ts Wout D) (X.pn ++ pins) (fun e s₁ => wpAny (model X.prog X.w) X.A (noteFrame e X.env) (fun _ s₂ => wpAny (model X.prog X.w) X.A (setFlight e none) (fun _ s₃ =>
    wpAny (model X.prog X.w) X.A (handleBy e X.env [.ExceptHandler (some (.Name x np)) (some n) (b₀ :: suite) pos']) (SP X pins D) X.xe s₃) X.xe s₂) X.xe s₁) (fun u s' xx => ?_) PassesOwn.looking).run [] s σ H D (I.toTry _) h) (fun f s1 hsp => ?_) (fun e s1 he => he)
  · obtain ⟨a, B, sI, pins', σ', H', cls, d, rfl, J', nb, up, sky, na, os, ag, b, hb1, hyes, hno⟩ := xx
    have J : Inv X pins σ' H' sI := J'.ofTry ok
    have sky' : Sky B (X.env :: X.outer) a (Zc cls d) X.env.locals s'.heap := by rw [← hs]; exact sky
    show wpAny (model X.prog X.w) X.A (noteFrame (.ref a) X.env) _ _ _
    refine Sky.land Zc.steady hfr hf sky' fun h3 fl3 up3 => ?_
    have J3 : Inv X pins σ' H' { s' with heap := h3 } := J.landed nb fl3.1 (up.trans up3) os ag
    obtain ⟨oe3, vs3, he3, hz3, hd3⟩ := fl3.there
    have nfr : a ∉ frs (X.env :: X.outer) := fun hm => by
      obtain ⟨_, o', e', hnf⟩ := fl3.2.2.1.mem hm
      rw [he3] at e'; cases e'
      exact hnf _ hd3
    have nL : a ≠ X.env.locals := fun z => nfr (List.mem_filterMap.mpr ⟨X.env, List.mem_cons_self, by rw [hf, z]⟩)
    have nF : a ∉ X.fs := fun hm => by
      obtain ⟨e, he, q⟩ := List.mem_filterMap.mp hm
      exact nfr (List.mem_filterMap.mpr ⟨e, List.mem_cons_of_mem _ he, q⟩)
    have ba : B.get? a = none := fl3.2.1
    have nS : a ∉ frs X.stack := by rw [hs]; exact nfr
    -- the error is newer than the def's entry, and than all that is pinned
    have nI : sI.heap.get? a = none := by
      cases e : sI.heap.get? a with
      | none => rfl
      | some o =>
        have := nb a o e nS
        rw [ba] at this
        cases this
    have n0 : X.s_0.heap.get? a = none := by
      cases e : X.s_0.heap.get? a with
      | none => rfl
      | some o =>
        obtain ⟨o', e'⟩ := J.base.there a o e (by rw [hex]; exact List.not_mem_nil)
        rw [nI] at e'
        cases e'
    have npn : ∀ p ∈ X.pn ++ pins, p.1 ≠ a := fun p hp z => by
      have := (J.pin p hp).1
      rw [z, nI] at this
      cases this
    have S3 := J3.suite he3 hd3 na nL nF
    refine wpAny_handleBy_cons (codeAny_handlers_test ?_) (by intro q; cases q)
    have LT : PySem.W.Looks (model X.prog X.w) h3 (typeOf (.ref a)) cls := fun A Q E s k q => wpAny_typeOf_ref (k _ _ he3) (by rw [hz3.1]; exact q)
    have LM := PySem.W.exm_one (M := model X.prog X.w) (J3.kIn) LT hb1
    have test : ∀ {Q : Value → Shared → Prop} {E : Value → Shared → Prop}, Q c { s' with heap := h3 } → wpAny (model X.prog X.w) (X.A.mark (some (.ref a))) (eval (.Name x np) X.env) Q E { s' with heap := h3 } := fun {Q E} q => by
      obtain ⟨hg, hdbg, hm | ⟨hm, hv, hnn⟩⟩ := hc
      · exact ld_glob (X := X.suite a ((a, oe3) :: (X.pn ++ pins))) S3 hg hm q hdbg
      · exact ld_blt (X := X.suite a ((a, oe3) :: (X.pn ++ pins))) S3 hg hm hv q hnn hdbg
    refine test (LM.here ?_)
    cases b with
    | true =>
      refine codeAny_handlers_suite_as ?_
      refine HandSPX.lands_againZ fl3 fun h4 fl4 up4 => ?_
      have J4 : Inv X pins σ' H' { s' with heap := h4 } := J.landed nb fl4.1 ((up.trans up3).trans up4) os ag
      obtain ⟨oe4, vs4, he4, hz4, hd4⟩ := fl4.there
      have S4 := J4.suite he4 hd4 na nL nF
      refine store_ok (X := X.suite a ((a, oe4) :: (X.pn ++ pins))) (v := .ref a) S4 hN hi hloc rfl (fun s5 S5 => ?_) (.inr hln)
      refine wpAny_mono ((hsu a oe4 cls d (X.pn ++ pins) hz4 ⟨_, hd4⟩).run [] s5 _ H' _ S5 (hyes rfl a na)) (fun f s6 hsp => ?_) (fun _ _ z => False.elim z)
      have end_ : ∀ {σ6 : L2.St} {H6 : Hp} {Q : Shared → Prop}, Inv (X.suite a ((a, oe4) :: (X.pn ++ pins))) [] σ6 H6 s6 → (∀ s7, Inv X pins (σ6.set i none) (upd H6 a (exh a cls d)) s7 → Q s7) →
          wpAny (model X.prog X.w) X.A (do bindName X.env n .none; unbindBehindTheSuite X.env n pos') (fun _ s7 => Q s7) X.xe s6 := fun {σ6 H6 Q} S6 hq => by
        obtain ⟨g1, g2, _, _, _⟩ := S6.pin (a, oe4) (List.mem_append_left _ List.mem_cons_self)
        exact gone_ok (inv_track (S6.unsuite ok) g1 hz4 hd4 g2 n0 nL npn) hN hi hln hq
      cases f with
      | next =>
        obtain ⟨σ6, H6, S6, q6⟩ := hsp
        exact end_ S6 fun s7 J7 => ⟨_, _, J7, q6⟩
      | brk =>
        obtain ⟨σ6, H6, S6, q6⟩ := hsp
        exact end_ S6 fun s7 J7 => ⟨_, _, J7, q6⟩
      | cont =>
        obtain ⟨σ6, H6, S6, q6⟩ := hsp
        exact end_ S6 fun s7 J7 => ⟨_, _, J7, q6⟩
      | ret u =>
        obtain ⟨v6, σ6, H6, S6, r6, q6⟩ := hsp
        exact end_ S6 fun s7 J7 => ⟨_, _, _, J7, r6, q6⟩
    | false =>
      show wpAny _ X.A (handleBy (.ref a) X.env []) _ _ _
      refine wpAny_handleBy_nil ?_
      obtain ⟨k1, k2, k3, oe, vs, T, oT, ts', he, hz, hd, h1, hr⟩ := id fl3
      unfold PySem.passOn
      refine wpAny_bind (wpAny_field he hd h1 ?_)
      rw [if_neg (show ¬ ((Value.ref T == Value.none) = true) from by simp)]
      have fin : wpAny (model X.prog X.w) X.A (setFlight (.ref a) X.env.frame) (fun _ s4 => wpAny (model X.prog X.w) X.A (throw (.ref a) : Sem Flow) (SP X pins D) X.xe s4) X.xe { s' with heap := h3 } := by
        rw [hf]
        refine HandSPX.setFlight_upZ fl3 fun h4 hh4 up4 => wpAny_throw (tk _ _ ?_)
        exact ⟨a, B, sI, pins, σ', H', cls, d, rfl, J, nb, (up.trans up3).trans up4, .inr (.inr (by rw [hs]; exact hh4)), na, os, ag, hno rfl⟩
      first
        | exact wpAny_bind (wpAny_pure (wpAny_bind fin))
        | exact wpAny_bind fin
  · cases f with
    | next =>
      obtain ⟨σ', H', J', q⟩ := hsp
      exact wpAny_execs_nil ⟨σ', H', J'.ofTry ok, q⟩
    | brk =>
      obtain ⟨σ', H', J', q⟩ := hsp
      exact ⟨σ', H', J'.ofTry ok, q⟩
    | cont =>
      obtain ⟨σ', H', J', q⟩ := hsp
      exact ⟨σ', H', J'.ofTry ok, q⟩
    | ret u =>
      obtain ⟨v, σ', H', J', r, q⟩ := hsp
      exact ⟨v, σ', H', J'.ofTry ok, r, q⟩
end
/-! ### what is asked of a kept error -/
theorem exh_inst {X : Cx} {pins : List (Addr × Obj)} {σ : L2.St} {H : Hp} {s : Shared} {a D dd : Addr} {fs : List (Str × V)} (I : Inv X pins σ H s) (h1 : H a = some (exh a (.ref D) (some dd))) (h2 : H dd = some (.xd fs)) :
    ∃ (oe od : Obj) (mA : Str → Option Value), PySem.W.InstAt s.heap a oe D (some od) ∧ (∀ f, RelO (fs.lookup f) (mA f)) ∧ ∀ n, PySem.W.lookIn n od = some (mA n) := by
  obtain ⟨oe, vs, ha, hz, hd⟩ := exh_at I.hok h1
  have hx : ObjOk X.prog X.w H s.heap dd (.xd fs) := I.hok dd _ h2
  obtain ⟨mA, hns, hr⟩ := hx
  obtain ⟨od, ho, hl⟩ := lookIn_ns hns
  exact ⟨oe, od, mA, ⟨ha, hz.1, by unfold PySem.W.notCls; rw [hd] <;> rfl, by rw [hz.2]; exact ho⟩, hr, hl⟩
/-- isinstance(e, c), e a kept error of the class at D -/
def rIsH (K : PySem.W.Frag) (D : Addr) : List V → Hp → VK → Prop := fun xs H Q => ∃ (a dd : Addr) (fs : List (Str × V)) (c : V) (cv : Value) (b : Bool), xs = [.ref a, c] ∧ (∀ u, RelV c u → u = cv) ∧ H a = some (exh a (.ref D) (some dd)) ∧ H dd = some (.xd fs) ∧
  PySem.W.kitOne K (.ref D) cv = some b ∧ Q (.bl b) H
theorem call_isH {X : Cx} {D : Addr} (C : ExcC X.K D) : CallR X (.builtin "isinstance") (rIsH X.K D) := by
  intro pins s σ H xs us Q I r h
  obtain ⟨a, dd, fs, c, cv, b, rfl, hcv, h1, h2, e, q⟩ := h
  obtain ⟨u1, u2, rfl, r1, r2⟩ := vals2 r
  cases r1
  have ec := hcv _ r2
  subst ec
  obtain ⟨oe, od, mA, J, _, _⟩ := exh_inst I h1 h2
  have hcl : (PySem.W.clsIn X.K D).isSome = true := by
    obtain ⟨cd, hc, _⟩ := PySem.W.any_some C.hd
    rw [hc]
    rfl
  exact PySem.W.kia_one (PySem.W.kitx_exc hcl C.hg C.hk C.hs C.ha C.hn C.ht C.hm) I.kIn J e (fun z => nomatch z) fun tk => ⟨.bl b, H, I.kept (t' := tk) fun _ _ z => z, rfl, q⟩
theorem pss_len {X : Cx} {body : List Stmt} {t : TS} {n : Nat} (h : PSs X body t) (hn : X.N.length = n) : PSs X body (fun D σ H => σ.length = n → t D σ H) :=
  ⟨fun pins s σ H D I hh => h.run pins s σ H D I (hh (I.len.trans hn))⟩
theorem pe_weak {X : Cx} {e : Expr} {te : TE} (he : PE X e te) : PE X e (fun σ H Q => ∃ Qc : VK, te σ H Qc ∧ ∀ v H1, Qc v H1 → Q v H1) := by
  refine ⟨fun pins s σ H Q I h => ?_⟩
  obtain ⟨Qc, h, k⟩ := h
  exact thn (he.run pins s σ H Qc I h) fun u s1 ⟨v, H1, I1, r, q⟩ => ⟨v, H1, I1, r, k v H1 q⟩
/-- f(k = v, ..) -/
theorem pe_callK0 {X : Cx} {CX : CXT} {k : Nat} {f : Addr} {fd : FuncData} {ps ks : List Str} {sp : Sp} {E : XK} {x : Str} {p pos : Pos} {kws : List Keyword} {tk : TA} {g : List Value → List Value → List Value} {gV : List V → List V → List V}
    (F : FnOk X.prog X.w X.K X.mg X.base CX k f fd ps sp) (hr : Room k X.A) (hg : Gl X x) (hm : X.mg x = some (.ref f)) (hk : PySem.W.keepIn X.K (.ref f) = true) (hb : KBinds X.K fd ps ks g gV) (hx : Passes CX X E)
    (hkw : PK X kws tk) (hall : (backToKw pos (keywordEach kws X.env)).all (·.1.isSome) = true := by rfl) (hks : (backToKw pos (keywordEach kws X.env)).filterMap (·.1) = ks := by rfl)
    (hdb : (x == ("__debug__" : Str)) = false := by decide) (hpl : ((backTo pos (starEach [] X.env)).any (·.1) || (backToKw pos (keywordEach kws X.env)).any (·.1.isNone)) = false := by rfl) :
    PE X (.Call (.Name x p) [] kws pos) (fun σ H Q => tk σ H fun zs H2 => sp (gV [] zs) H2 Q E) := by
  refine ⟨fun pins s σ H Q I h => ?_⟩
  refine wpAny_Call_Name_kw (ld_glob I hg hm ?_ hdb)
  refine PySem.W.callWith_KW0 (h₀ := X.base) I.ok.mod.kin hk hall ?_ hpl
  refine thn (hkw.run pos pins s σ H _ I h) fun ws s2 ⟨zs, H2, I2, rz, q2⟩ => ⟨I2.kIn, ?_⟩
  rw [hks]
  exact run_fnk F hr hb hx I2 .nil rz q2
/-- _law_caught(action): what the call raises, kept; or None -/
def TTc (K : PySem.W.Frag) (CE : Addr) : (XK → Hp → VK → Prop) → Hp → VK → Prop := fun tl H Q =>
  tl (fun cls d H1 => ∃ b, PySem.W.exmOne K cls (.ref CE) = some b ∧ (b = true → ∀ a, H1 a = none → Q (.ref a) (upd H1 a (exh a cls d))) ∧ (b = false → False)) H (fun _ H1 => Q .non H1)
abbrev NC : List Str := ["action", "found", "error"]
theorem scC : FnScope NC ["action"] (defScope sCgt) := ⟨rfl, rfl, rfl, by decide +kernel, rfl, by decide +kernel, by decide +kernel⟩
theorem caught_gives {X : Cx} {CE g : Addr} {cdg : Value} {q : Str} (hme : X.mg "ClockError" = some (.ref CE)) : GivesTo X NC "_law_caught" (defScope sCgt) g cdg (defBody sCgt) "action" q (TTc X.K CE) := by
  intro f c' s H Q tl act hc h
  refine ⟨_, pss_cons (ps_set (i := 1) scC.nd rfl (Or.inl rfl) pe_non)
    (pss_cons (ps_try_keep (X := (cxOf C8.CX0 X.prog X.w X.K X.mg X.base NC "_law_caught" (defScope sCgt) g cdg X.A X.stack s H C8.E0).nox) (c := .ref CE) (i := 2)
      (tb := fun W D σ H => ∃ (Ech : XK) (Qc : VK), (∀ cls d σ' H', Ech cls d H' → W cls d σ' H') ∧ σ[0]? = some (some (.ref f)) ∧ H c' = some (CodeO c' q) ∧ tl Ech H Qc ∧ ∀ v H1, Qc v H1 → D.nx σ H1)
      rfl rfl rfl scC.nd rfl rfl ⟨rfl, rfl, .inl hme⟩ takes0 (fun W pn xe tk _ => ?_) (fun a oe cls d pn _ _ => pss_len (X := Cx.suite (cxOf C8.CX0 X.prog X.w X.K X.mg X.base NC "_law_caught" (defScope sCgt) g cdg X.A X.stack s H C8.E0).nox a ((a, oe) :: pn)) (n := 3) (pss_one (ps_set (i := 1) scC.nd rfl (Or.inl rfl) (pv 2))) rfl))
    (pss_one (ps_ret (pv 1)))), ?_⟩
  · refine ⟨fun pins s' σ H' D I h' => ?_⟩
    obtain ⟨Ech, Qc, hW, h1, h2, h3, h4⟩ := h'
    have hp := fun p1 p2 => act W pn xe Ech p1 p2 tk hW
    exact (pss_one (ps_expr (pe_weak (hp _ _)))).run pins s' σ H' D I ⟨Qc, ⟨h1, h2, h3⟩, h4⟩
  · refine ⟨_, _, ?_, rfl, hc, h, fun v H1 q => ⟨_, rfl, q⟩⟩
    rintro cls d σ' H' ⟨b, e1, e2, e3⟩
    refine ⟨b, e1, fun hb a ha hl => ?_, fun hb => (e3 hb).elim⟩
    match σ', hl with
    | [x, y, z], _ => exact ⟨_, rfl, _, rfl, e2 hb a ha⟩
    | [], hl => simp at hl
    | [_], hl => simp at hl
    | [_, _], hl => simp at hl
    | _ :: _ :: _ :: _ :: _, hl => simp at hl
end K66

set_option Elab.async false
set_option linter.all false
set_option pp.maxSteps 700
set_option maxRecDepth 100000
set_option maxHeartbeats 2000000
namespace K66
open PySem PySem.Spec PyProof.Rows L2
open TL (tl)
/-! ### any value that the law makes, as data -/
inductive Dt where
  | non | bl (b : Bool) | int (i : Int) | str (s : Str) | lst (l : List Dt) | tup (l : List Dt) | dic
mutual
inductive DV (g : Addr) (H : Hp) : V → Dt → Prop
  | non : DV g H .non .non
  | bl (b : Bool) : DV g H (.bl b) (.bl b)
  | int (i : Int) : DV g H (.int i) (.int i)
  | str {s : Str} (h : s.length ≤ 10000) : DV g H (.str s) (.str s)
  | lst {a : Addr} {xs : List V} {ds : List Dt} (e : H a = some (.lst xs)) (n : a ≠ g) (h : ds.length ≤ 20000) (r : DVs g H xs ds) : DV g H (.ref a) (.lst ds)
  | tup {a : Addr} {xs : List V} {ds : List Dt} (e : H a = some (.tup xs)) (h : ds.length ≤ 20000) (r : DVs g H xs ds) : DV g H (.ref a) (.tup ds)
  | dic {a : Addr} (e : H a = some (.dK [])) : DV g H (.ref a) .dic
inductive DVs (g : Addr) (H : Hp) : List V → List Dt → Prop
  | nil : DVs g H [] []
  | cons {v : V} {vs : List V} {d : Dt} {ds : List Dt} (h : DV g H v d) (r : DVs g H vs ds) : DVs g H (v :: vs) (d :: ds)
end
structure Kv (g : Addr) (H H' : Hp) : Prop where
  lst : ∀ b xs, H b = some (.lst xs) → b ≠ g → H' b = some (.lst xs)
  tup : ∀ b xs, H b = some (.tup xs) → H' b = some (.tup xs)
  dic : ∀ b, H b = some (.dK []) → H' b = some (.dK [])
theorem Kv.of {g : Addr} {H H' : Hp} (s : Same H H') : Kv g H H' := ⟨fun b xs e _ => s _ _ e, fun b xs e => s _ _ e, fun b e => s _ _ e⟩
theorem Kv.trans {g : Addr} {H H1 H2 : Hp} (a : Kv g H H1) (b : Kv g H1 H2) : Kv g H H2 := ⟨fun c xs e n => b.lst _ _ (a.lst _ _ e n) n, fun c xs e => b.tup _ _ (a.tup _ _ e), fun c e => b.dic _ (a.dic _ e)⟩
theorem Kv.kp {g d c : Addr} {H H' : Hp} {n : Nat} (S : StA H d g c n) (k : Kp d g H H') : Kv g H H' := by
  obtain ⟨r, t, gs, cs, S⟩ := S
  refine ⟨fun b xs e n => k _ _ e (fun z => ?_) n, fun b xs e => k _ _ e (fun z => ?_) (fun z => ?_), fun b e => k _ _ e (fun z => ?_) (fun z => ?_)⟩
  · rw [z, S.dk] at e
    cases e
  · rw [z, S.dk] at e
    cases e
  · rw [z, S.gl] at e
    cases e
  · rw [z, S.dk] at e
    have q := Option.some.inj e
    unfold StKV at q
    cases q
  · rw [z, S.gl] at e
    cases e
mutual
theorem DV.keep {g : Addr} {H H' : Hp} (k : Kv g H H') : ∀ {v : V} {d : Dt}, DV g H v d → DV g H' v d
  | _, _, .non => .non
  | _, _, .bl b => .bl b
  | _, _, .int i => .int i
  | _, _, .str h => .str h
  | _, _, .lst e n h r => .lst (k.lst _ _ e n) n h (DVs.keep k r)
  | _, _, .tup e h r => .tup (k.tup _ _ e) h (DVs.keep k r)
  | _, _, .dic e => .dic (k.dic _ e)
theorem DVs.keep {g : Addr} {H H' : Hp} (k : Kv g H H') : ∀ {v : List V} {d : List Dt}, DVs g H v d → DVs g H' v d
  | _, _, .nil => .nil
  | _, _, .cons h r => .cons (DV.keep k h) (DVs.keep k r)
end
theorem DVs.len {g : Addr} {H : Hp} : ∀ {xs : List V} {ds : List Dt}, DVs g H xs ds → xs.length = ds.length
  | _, _, .nil => rfl
  | _, _, .cons _ r => congrArg (· + 1) r.len
theorem DVs.at_ {g : Addr} {H : Hp} : ∀ {xs : List V} {ds : List Dt}, DVs g H xs ds → ∀ {i : Nat} {v : V}, xs[i]? = some v → ∃ d, ds[i]? = some d ∧ DV g H v d
  | _, _, .nil, _, _, e => by cases e
  | _, _, .cons h r, 0, _, e => by
    obtain rfl := Option.some.inj e
    exact ⟨_, rfl, h⟩
  | _, _, .cons h r, i + 1, _, e => r.at_ (i := i) e
theorem DVs.at' {g : Addr} {H : Hp} : ∀ {xs : List V} {ds : List Dt}, DVs g H xs ds → ∀ {i : Nat} {d : Dt}, ds[i]? = some d → ∃ v, xs[i]? = some v ∧ DV g H v d
  | _, _, .nil, _, _, e => by cases e
  | _, _, .cons h r, 0, _, e => by
    obtain rfl := Option.some.inj e
    exact ⟨_, rfl, h⟩
  | _, _, .cons h r, i + 1, _, e => r.at' (i := i) e
theorem DVs.app {g : Addr} {H : Hp} : ∀ {xs ys : List V} {ds es : List Dt}, DVs g H xs ds → DVs g H ys es → DVs g H (xs ++ ys) (ds ++ es)
  | _, _, _, _, .nil, q => q
  | _, _, _, _, .cons h r, q => .cons h (r.app q)
def isStr : Dt → Bool | .str _ => true | _ => false
def isTup : Dt → Bool | .tup _ => true | _ => false
def isBl : Dt → Bool | .bl _ => true | _ => false
def isInt : Dt → Bool | .int _ => true | _ => false
theorem DV.ty {K : PySem.W.Frag} {g : Addr} {H : Hp} {v : V} {d : Dt} (h : DV g H v d) : ∃ t, TyX K H v t ∧ PySem.W.kitOne K t (.type "str") = some (isStr d) ∧ PySem.W.kitOne K t (.type "tuple") = some (isTup d) ∧
    PySem.W.kitOne K t (.type "bool") = some (isBl d) ∧ PySem.W.kitOne K t (.type "int") = some (isInt d || isBl d) := by
  cases h with
  | non => exact ⟨_, .base .non, kit_ty (show kitB "NoneType" "str" = some false by decide +kernel), kit_ty (show kitB "NoneType" "tuple" = some false by decide +kernel), kit_ty (show kitB "NoneType" "bool" = some false by decide +kernel), kit_ty (show kitB "NoneType" "int" = some false by decide +kernel)⟩
  | bl b => exact ⟨_, .base (.bl _), kit_ty (show kitB "bool" "str" = some false by decide +kernel), kit_ty (show kitB "bool" "tuple" = some false by decide +kernel), kit_ty (show kitB "bool" "bool" = some true by decide +kernel), kit_ty (show kitB "bool" "int" = some true by decide +kernel)⟩
  | int i => exact ⟨_, .base (.int _), kit_ty (show kitB "int" "str" = some false by decide +kernel), kit_ty (show kitB "int" "tuple" = some false by decide +kernel), kit_ty (show kitB "int" "bool" = some false by decide +kernel), kit_ty (show kitB "int" "int" = some true by decide +kernel)⟩
  | str h => exact ⟨_, .base (.str _), kit_ty (show kitB "str" "str" = some true by decide +kernel), kit_ty (show kitB "str" "tuple" = some false by decide +kernel), kit_ty (show kitB "str" "bool" = some false by decide +kernel), kit_ty (show kitB "str" "int" = some false by decide +kernel)⟩
  | lst e n h r => exact ⟨_, .base (.lst e), kit_ty (show kitB "list" "str" = some false by decide +kernel), kit_ty (show kitB "list" "tuple" = some false by decide +kernel), kit_ty (show kitB "list" "bool" = some false by decide +kernel), kit_ty (show kitB "list" "int" = some false by decide +kernel)⟩
  | tup e h r => exact ⟨_, .base (.tup e), kit_ty (show kitB "tuple" "str" = some false by decide +kernel), kit_ty (show kitB "tuple" "tuple" = some true by decide +kernel), kit_ty (show kitB "tuple" "bool" = some false by decide +kernel), kit_ty (show kitB "tuple" "int" = some false by decide +kernel)⟩
  | dic e => exact ⟨_, .base (.dK e), kit_ty (show kitB "dict" "str" = some false by decide +kernel), kit_ty (show kitB "dict" "tuple" = some false by decide +kernel), kit_ty (show kitB "dict" "bool" = some false by decide +kernel), kit_ty (show kitB "dict" "int" = some false by decide +kernel)⟩
/-! ### any value == a text -/
section
open PySem.SeqAt
variable {s : Shared}
theorem dict_eq_str_no (l : Addr) (c : Value) (es : Array DictEntry) (n : Nat) (dd : Option Addr) (sl : Array (Option Value)) (b : Str) (u : PySem.Tok) :
    Meets (Builtin.«dict.__eq__» ⟨[.ref l, .str b u], []⟩) (fun _ R s => c = .type "dict" ∧ s.heap.get? l = some { cls := c, dict := dd, data := .dict es n, slots := sl } ∧ R (.ok (.ret .notImplemented)) s) :=
  .of_wp fun prog w A R s h => by obtain ⟨hp, g, d, tk, os⟩ := s; obtain ⟨rfl, ho, h⟩ := h; have f1 := PySem.F.sub_str_dict; wp_walk using wpAny_loadPart' ho; exact ⟨_, rfl, h⟩
theorem str_eq_dict_no (b : Str) (u : PySem.Tok) (l : Addr) (c : Value) (es : Array DictEntry) (n : Nat) (dd : Option Addr) (sl : Array (Option Value)) :
    Meets (Builtin.«str.__eq__» ⟨[.str b u, .ref l], []⟩) (fun _ R s => s.heap.get? l = some { cls := c, dict := dd, data := .dict es n, slots := sl } ∧ R (.ok (.ret .notImplemented)) s) :=
  .of_wp fun prog w A R s h => by obtain ⟨hp, g, d, tk, os⟩ := s; obtain ⟨ho, h⟩ := h; wp_walk using wpAny_loadPart' ho, wpAny_load ho; exact ⟨_, rfl, h⟩
theorem rc_dict_str {A : Around} {l : Addr} {c : Value} {es : Array DictEntry} {n : Nat} {dd : Option Addr} {sl : Array (Option Value)} (b : Str) (u : PySem.Tok) (hc : c = .type "dict") (ho : s.heap.get? l = some { cls := c, dict := dd, data := .dict es n, slots := sl }) (hu : A.units < cLine) :
    RcAt A s (.ref l) (.str b u) false := by
  intro prog w E Q h
  exact rc_eq_decline_or (k := false) ⟨_, ho, hc⟩ (typeIs_str s b u) (by decide) PySem.F.sub_str_dict PySem.F.slot_dict_eq PySem.F.slot_str_eq_refl
    (fun _ q => call_meets PySem.F.slot_dict_eq ⟨_, ho, hc⟩ PySem.F.entry_dict_eq (PySem.F.args_dict_eq_2 _ _) (dict_eq_str_no l c es n dd sl b u) ⟨hc, ho, q⟩)
    (fun _ q => call_meets PySem.F.slot_str_eq_refl (typeIs_str s b u) PySem.F.entry_str_eq (PySem.F.args_str_eq_2 _ _) (str_eq_dict_no b u l c es n dd sl) ⟨ho, q⟩)
    (fun _ q => wpAny_of_eq (rfl : isSame (.ref l) (.str b u) = pure false) q) (.inr hu) h
end
def eqS (d : Dt) (z : Str) : Bool := match d with
  | .str s => s == z
  | _ => false
section
variable {X : Cx}
theorem op_eqS (hu : X.A.units + 64 < cLine) : OpR X (compareOp .Eq) (fun x y H Q => ∃ (g : Addr) (d : Dt) (z : Str), y = .str z ∧ DV g H x d ∧ Q (.bl (eqS d z)) H) := by
  intro pins s σ H x y v u Q I rx ry h
  obtain ⟨g, d, z, rfl, hd, q⟩ := h
  obtain ⟨tz, rfl⟩ := (show ∃ t, u = Value.str z t from ry)
  have hu' : X.A.units < cLine := by omega
  cases hd with
  | non =>
    cases (show v = Value.none from rx)
    exact SeqAt.RcAt.none_str z tz _ _ _ _ (fin_bl I q rfl)
  | bl b =>
    cases (show v = Value.bool b from rx)
    exact SeqAt.RcAt.bool_str b z tz _ _ _ _ (fin_bl I q rfl)
  | int i =>
    obtain ⟨ti, rfl⟩ := (show ∃ t, v = Value.int i t from rx)
    exact SeqAt.RcAt.int_str i ti z tz _ _ _ _ (fin_bl I q rfl)
  | @str b hb =>
    obtain ⟨ti, rfl⟩ := (show ∃ t, v = Value.str b t from rx)
    exact SeqAt.RcAt.str_str b ti z tz _ _ _ _ (fin_bl I q rfl)
  | @lst a xs ds e n h r =>
    cases (show v = Value.ref a from rx)
    obtain ⟨us, r1, p1, _⟩ := I.list (SqL.of e : SqL X.K H a xs)
    exact SeqAt.RcAt.list_str z tz p1.isList hu' _ _ _ _ (fin_bl I q rfl)
  | @tup a xs ds e h r =>
    cases (show v = Value.ref a from rx)
    obtain ⟨us, r1, p1, _⟩ := I.tuple (SqT.of e : SqT X.K H a xs)
    exact SeqAt.RcAt.tuple_str z tz p1 hu' _ _ _ _ (fin_bl I q rfl)
  | @dic a e =>
    cases (show v = Value.ref a from rx)
    obtain ⟨_, _, _, _, o, es, ep, ho, hx, hd, _⟩ := (show ObjOk X.prog X.w H s.heap a (.dK []) from I.hok a _ e)
    obtain ⟨oc, od, odt, osl⟩ := o
    cases (show odt = .dict es ep from hd)
    exact rc_dict_str z tz hx.1 ho hu' _ _ _ _ (fin_bl I q rfl)
end
end K66

set_option Elab.async false
set_option linter.all false
set_option pp.maxSteps 700
set_option maxRecDepth 100000
set_option maxHeartbeats 2000000
namespace K66
open PySem PySem.Spec PyProof.Rows L2
open TL (tl)
abbrev sWhl : Stmt := top 5
abbrev sWin : Stmt := top 6
abbrev sTof : Stmt := top 8
abbrev sTin : Stmt := top 9



def lenIs (n : Nat) : Dt → Bool | .tup l => decide (l.length = n) | _ => false
def lenIn (lo hi : Int) : Dt → Bool | .tup l => decide (lo ≤ (l.length : Int)) && decide ((l.length : Int) ≤ hi) | _ => false
def intIn (lo hi : Int) : Dt → Bool | .int i => decide (lo ≤ i) && decide (i ≤ hi) | _ => false
/-- a question about any value -/
def spAsk (f : Dt → Bool) : Sp := fun vs H Q _ => ∃ (g : Addr) (v : V) (d : Dt), vs = [v] ∧ DV g H v d ∧ ∀ H', Same H H' → Q (.bl (f d)) H'
def spWin : Sp := fun vs H Q _ => ∃ (g : Addr) (v : V) (d : Dt) (lo hi : Int), vs = [v, .int lo, .int hi] ∧ DV g H v d ∧ ∀ H', Same H H' → Q (.bl (intIn lo hi d)) H'
def spTof : Sp := fun vs H Q _ => ∃ (g : Addr) (v : V) (d : Dt) (n : Nat), vs = [v, .int (n : Nat)] ∧ DV g H v d ∧ ∀ H', Same H H' → Q (.bl (lenIs n d)) H'
def spTin : Sp := fun vs H Q _ => ∃ (g : Addr) (v : V) (d : Dt) (lo hi : Int), vs = [v, .int lo, .int hi] ∧ DV g H v d ∧ ∀ H', Same H H' → Q (.bl (lenIn lo hi d)) H'
structure MgP (K : PySem.W.Frag) (mg : Str → Option Value) (fWhl : Addr) : Prop where
  whl : mg "is_whole" = some (.ref fWhl)
  kwhl : PySem.W.keepIn K (.ref fWhl) = true
  isi : mg "isinstance" = none
  len : mg "len" = none
  int : mg "int" = none
  bol : mg "bool" = none
  tpl : mg "tuple" = none
section
variable {P : Program} {w : World} {K : PySem.W.Frag} {mg : Str → Option Value} {base : Heap}
theorem scWhl : FnScope ["value"] ["value"] (defScope sWhl) := ⟨rfl, rfl, rfl, by decide +kernel, rfl, by decide +kernel, by decide +kernel⟩
theorem ok_whl {f fW : Addr} {fd : FuncData} (F : Fun K "is_whole" "is_whole" sWhl f fd) (T : MgP K mg fW) : FnOk P w K mg base CX0 1 f fd ["value"] (spAsk isInt) := by
  refine F.ok scWhl (fun vs H Q E h => ?_) (fun cdv A outer s H vs Q E hr h => ?_)
  · obtain ⟨g, v, d, rfl, _⟩ := h
    rfl
  · obtain ⟨g, v, d, rfl, hd, k⟩ := h
    obtain ⟨t, ht, k1, k2, k3, k4⟩ := hd.ty (K := K)
    refine ⟨_, pss_one (ps_ret (pe_and (pe_callB call_isi (by rfl) T.isi (by decide +kernel) (pa_cons (pv 0) (pa_cons (pe_bltn (v := .ty "int") (by rfl) T.int boot_int rfl) pa_nil)))
      (pe_one (pe_not (pe_callB call_isi (by rfl) T.isi (by decide +kernel) (pa_cons (pv 0) (pa_cons (pe_bltn (v := .ty "bool") (by rfl) T.bol boot_bool rfl) pa_nil))))))), ?_⟩
    refine ⟨_, rfl, _, _, _, _, _, rfl, .ty "int", ht, k4, _, rfl, ?_⟩
    cases d with
    | int i => exact iteT ⟨_, rfl, _, _, _, _, _, rfl, .ty "bool", ht, k3, _, rfl, k H (Same.refl H)⟩
    | bl b => exact iteT ⟨_, rfl, _, _, _, _, _, rfl, .ty "bool", ht, k3, _, rfl, k H (Same.refl H)⟩
    | non => exact iteF (k H (Same.refl H))
    | str s => exact iteF (k H (Same.refl H))
    | lst l => exact iteF (k H (Same.refl H))
    | tup l => exact iteF (k H (Same.refl H))
    | dic => exact iteF (k H (Same.refl H))
theorem scWin : FnScope ["value", "low", "high"] ["value", "low", "high"] (defScope sWin) := ⟨rfl, rfl, rfl, by decide +kernel, rfl, by decide +kernel, by decide +kernel⟩
theorem ok_win {f fW : Addr} {fd fdW : FuncData} (F : Fun K "is_within" "is_within" sWin f fd) (T : MgP K mg fW) (FW : Fun K "is_whole" "is_whole" sWhl fW fdW) (bW : L2.Binds K fdW ["value"] []) : FnOk P w K mg base CX0 2 f fd ["value", "low", "high"] spWin := by
  have GW : FnOk P w K mg base CX0 1 fW fdW ["value"] (spAsk isInt) := ok_whl FW T
  refine F.ok scWin (fun vs H Q E h => ?_) (fun cdv A outer s H vs Q E hr h => ?_)
  · obtain ⟨g, v, d, lo, hi, rfl, _⟩ := h
    rfl
  · obtain ⟨g, v, d, lo, hi, rfl, hd, k⟩ := h
    refine ⟨_, pss_one (ps_ret (pe_and (pe_call GW hr (by rfl) T.whl T.kwhl bW .nil pass0 (pa_cons (pv 0) pa_nil)) (pe_one (pe_chain op_le op_le (pv 1) (pv 0) (pv 2))))), ?_⟩
    refine ⟨_, rfl, g, v, d, rfl, hd, fun H' s => ⟨_, rfl, ?_⟩⟩
    cases hd with
    | int i =>
      refine iteT ⟨_, rfl, _, rfl, _, _, rfl, rfl, _, rfl, ?_⟩
      have e : intIn lo hi (.int i) = (decide (lo ≤ i) && decide (i ≤ hi)) := rfl
      by_cases h1 : lo ≤ i
      · rw [decide_eq_true h1] at e ⊢
        refine iteT ⟨_, rfl, _, _, rfl, rfl, ?_⟩
        have q := k H' s
        rw [e] at q
        exact q
      · rw [decide_eq_false h1] at e ⊢
        refine iteF ?_
        have q := k H' s
        rw [e] at q
        exact q
    | bl b => exact iteF (k H' s)
    | non => exact iteF (k H' s)
    | str z => exact iteF (k H' s)
    | lst _ _ _ _ => exact iteF (k H' s)
    | tup _ _ _ => exact iteF (k H' s)
    | dic _ => exact iteF (k H' s)
theorem scTof : FnScope ["value", "many"] ["value", "many"] (defScope sTof) := ⟨rfl, rfl, rfl, by decide +kernel, rfl, by decide +kernel, by decide +kernel⟩
theorem ok_tof {f fW : Addr} {fd : FuncData} (F : Fun K "is_tuple_of" "is_tuple_of" sTof f fd) (T : MgP K mg fW) : FnOk P w K mg base CX0 1 f fd ["value", "many"] spTof := by
  refine F.ok scTof (fun vs H Q E h => ?_) (fun cdv A outer s H vs Q E hr h => ?_)
  · obtain ⟨g, v, d, n, rfl, _⟩ := h
    rfl
  · obtain ⟨g, v, d, n, rfl, hd, k⟩ := h
    obtain ⟨t, ht, k1, k2, k3, k4⟩ := hd.ty (K := K)
    refine ⟨_, pss_one (ps_ret (pe_and (pe_callB call_isi (by rfl) T.isi (by decide +kernel) (pa_cons (pv 0) (pa_cons (pe_bltn (v := .ty "tuple") (by rfl) T.tpl boot_tuple rfl) pa_nil)))
      (pe_one (pe_cmpR op_eq (pe_callB call_len_seq (by rfl) T.len PySem.boot_len (pa_cons (pv 0) pa_nil)) (pv 1) (nomark _))))), ?_⟩
    refine ⟨_, rfl, _, _, _, _, _, rfl, .ty "tuple", ht, k2, _, rfl, ?_⟩
    cases hd with
    | @tup a xs ds e h r =>
      refine iteT ⟨_, rfl, a, xs, rfl, .inr (SqT.of e), _, rfl, rfl, ?_⟩
      have q := k H (Same.refl H)
      have e2 : decide (V.int (xs.length : Nat) = V.int (n : Nat)) = lenIs n (.tup ds) := by
        rw [r.len]
        show _ = decide (ds.length = n)
        rw [decide_eq_decide]
        exact ⟨fun z => by injection z with z; omega, fun z => by rw [z]⟩
      rw [e2]
      exact q
    | int i => exact iteF (k H (Same.refl H))
    | bl b => exact iteF (k H (Same.refl H))
    | non => exact iteF (k H (Same.refl H))
    | str z => exact iteF (k H (Same.refl H))
    | lst _ _ _ _ => exact iteF (k H (Same.refl H))
    | dic _ => exact iteF (k H (Same.refl H))
theorem scTin : FnScope ["value", "low", "high"] ["value", "low", "high"] (defScope sTin) := ⟨rfl, rfl, rfl, by decide +kernel, rfl, by decide +kernel, by decide +kernel⟩
theorem ok_tin {f fW : Addr} {fd : FuncData} (F : Fun K "is_tuple_within" "is_tuple_within" sTin f fd) (T : MgP K mg fW) : FnOk P w K mg base CX0 1 f fd ["value", "low", "high"] spTin := by
  refine F.ok scTin (fun vs H Q E h => ?_) (fun cdv A outer s H vs Q E hr h => ?_)
  · obtain ⟨g, v, d, lo, hi, rfl, _⟩ := h
    rfl
  · obtain ⟨g, v, d, lo, hi, rfl, hd, k⟩ := h
    obtain ⟨t, ht, k1, k2, k3, k4⟩ := hd.ty (K := K)
    refine ⟨_, pss_one (ps_ret (pe_and (pe_callB call_isi (by rfl) T.isi (by decide +kernel) (pa_cons (pv 0) (pa_cons (pe_bltn (v := .ty "tuple") (by rfl) T.tpl boot_tuple rfl) pa_nil)))
      (pe_one (pe_chain op_le op_le (pv 1) (pe_callB call_len_seq (by rfl) T.len PySem.boot_len (pa_cons (pv 0) pa_nil)) (pv 2))))), ?_⟩
    refine ⟨_, rfl, _, _, _, _, _, rfl, .ty "tuple", ht, k2, _, rfl, ?_⟩
    cases hd with
    | @tup a xs ds e h r =>
      refine iteT ⟨_, rfl, _, rfl, a, xs, rfl, .inr (SqT.of e), _, _, rfl, rfl, _, rfl, ?_⟩
      have q := k H (Same.refl H)
      have e2 : lenIn lo hi (.tup ds) = (decide (lo ≤ (xs.length : Int)) && decide ((xs.length : Int) ≤ hi)) := by
        rw [r.len]
        rfl
      rw [e2] at q
      by_cases h1 : lo ≤ (xs.length : Int)
      · rw [decide_eq_true h1] at q ⊢
        exact iteT ⟨_, rfl, _, _, rfl, rfl, q⟩
      · rw [decide_eq_false h1] at q ⊢
        exact iteF q
    | int i => exact iteF (k H (Same.refl H))
    | bl b => exact iteF (k H (Same.refl H))
    | non => exact iteF (k H (Same.refl H))
    | str z => exact iteF (k H (Same.refl H))
    | lst _ _ _ _ => exact iteF (k H (Same.refl H))
    | dic _ => exact iteF (k H (Same.refl H))
end
end K66

set_option Elab.async false
set_option linter.all false
set_option pp.maxSteps 700
set_option maxRecDepth 100000
set_option maxHeartbeats 2000000
namespace K66
open PySem PySem.Spec PyProof.Rows L2
open TL (tl)
theorem freshF {H H1 : Hp} {o : Addr} {u : HO} (ho : H o = none) (e : upd H o u = H1) : Same H H1 ∧ H1 o = some u := by
  subst e
  exact ⟨same_new ho, upd_same⟩

theorem dpStrs {K : PySem.W.Frag} {H : Hp} : ∀ gs : List Str, DpAll K H (gs.map V.str) (gs.map PyData.str)
  | [] => .nil
  | x :: r => .cons (.str x) (dpStrs r)
theorem layStrs : ∀ gs : List Str, (∀ x ∈ gs, PyData.strOk x = true) → PyData.canLayAll0 (gs.map PyData.str) = true
  | [], _ => rfl
  | x :: r, h => by
    show (PyData.strOk x && PyData.canLayAll0 (r.map PyData.str)) = true
    rw [layStrs r fun y hy => h y (List.mem_cons_of_mem _ hy), h x List.mem_cons_self]
    rfl
theorem depStrs : ∀ gs : List Str, PyData.depthAll (gs.map PyData.str) = 0
  | [] => rfl
  | x :: r => by
    show max 0 (PyData.depthAll (r.map PyData.str)) = 0
    rw [depStrs r]
    rfl
theorem shStrs (gs : List Str) (h : ∀ x ∈ gs, PyData.strOk x = true) : SeqAt.shaped (.list (gs.map PyData.str)) = true := by
  unfold SeqAt.shaped
  show (PyData.canLayAll0 (gs.map PyData.str) && decide (PyData.depthAll (gs.map PyData.str) + 1 ≤ 64)) = true
  rw [layStrs gs h, depStrs]
  rfl
/-! ### data without lists -/
mutual
def pur : Dt → Bool
  | .tup l => purs l
  | .lst _ => false
  | .dic => false
  | .str s => PyData.strOk s
  | _ => true
def purs : List Dt → Bool
  | [] => true
  | d :: l => pur d && purs l
end
mutual
def dep : Dt → Nat
  | .tup l => deps l + 1
  | _ => 0
def deps : List Dt → Nat
  | [] => 0
  | d :: l => max (dep d) (deps l)
end
theorem deps_mem {l : List Dt} {d : Dt} : d ∈ l → dep d ≤ deps l := by
  induction l with
  | nil => intro h; cases h
  | cons x l ih =>
    intro h
    rcases List.mem_cons.mp h with rfl | h
    · exact Nat.le_max_left _ _
    · exact Nat.le_trans (ih h) (Nat.le_max_right _ _)
theorem deps_le {l : List Dt} {k : Nat} : (∀ d ∈ l, dep d ≤ k) → deps l ≤ k := by
  induction l with
  | nil => intro h; exact Nat.zero_le _
  | cons x l ih => exact fun h => Nat.max_le.mpr ⟨h x List.mem_cons_self, ih fun d hd => h d (List.mem_cons_of_mem _ hd)⟩
theorem purs_all {l : List Dt} : purs l = l.all pur := by
  induction l with
  | nil => rfl
  | cons x l ih => rw [List.all_cons, ← ih]; rfl
theorem purs_mem {l : List Dt} {d : Dt} (h : purs l = true) (m : d ∈ l) : pur d = true := by
  rw [purs_all] at h
  exact List.all_eq_true.mp h d m
/-- tuples stay -/
def Kt (H H' : Hp) : Prop := ∀ b xs, H b = some (.tup xs) → H' b = some (.tup xs)
theorem Kt.of {H H' : Hp} (s : Same H H') : Kt H H' := fun b xs e => s _ _ e
theorem Kt.put {H : Hp} {p : Addr} {o : HO} {l : List V} (h : H p = some (.lst l)) : Kt H (upd H p o) := fun b xs e => by
  rw [upd_ne (fun z => by rw [z, h] at e; cases e)]
  exact e
theorem Kt.kp {g d c : Addr} {H H' : Hp} {n : Nat} (S : StA H d g c n) (k : Kp d g H H') : Kt H H' := (Kv.kp S k).tup
mutual
theorem DV.keepP {g g' : Addr} {H H' : Hp} (k : Kt H H') : ∀ {v : V} {d : Dt}, pur d = true → DV g H v d → DV g' H' v d
  | _, _, _, .non => .non
  | _, _, _, .bl b => .bl b
  | _, _, _, .int i => .int i
  | _, _, _, .str h => .str h
  | _, _, p, .lst e n h r => by cases p
  | _, _, p, .tup e h r => .tup (k _ _ e) h (DVs.keepP k (by exact p) r)
  | _, _, p, .dic e => by cases p
theorem DVs.keepP {g g' : Addr} {H H' : Hp} (k : Kt H H') : ∀ {v : List V} {d : List Dt}, purs d = true → DVs g H v d → DVs g' H' v d
  | _, _, _, .nil => .nil
  | _, _, p, .cons h r => by
    have p : (pur _ && purs _) = true := p
    rw [Bool.and_eq_true] at p
    exact .cons (DV.keepP k p.1 h) (DVs.keepP k p.2 r)
end
theorem Kp.upF {d g p : Addr} {H H' : Hp} {o : HO} (k : Kp d g H H') (hp : H p = none) : Kp d g H (upd H' p o) := fun b u e h1 h2 => by
  rw [upd_ne (ne_of_none e hp)]
  exact k b u e h1 h2
theorem StA.upF {H : Hp} {d g c p : Addr} {n : Nat} {o : HO} (S : StA H d g c n) (h1 : p ≠ d) (h2 : p ≠ g) (h3 : p ≠ c) : StA (upd H p o) d g c n := by
  obtain ⟨r, tt, gs, cs, S⟩ := S
  exact ⟨r, tt, gs, cs, { S with dk := by rw [upd_ne h1.symm]; exact S.dk, gl := by rw [upd_ne h2.symm]; exact S.gl, cl := by rw [upd_ne h3.symm]; exact S.cl }⟩
theorem StA.free {H : Hp} {d g c : Addr} {n : Nat} (S : StA H d g c n) {p : Addr} (hp : H p = none) : p ≠ d ∧ p ≠ g ∧ p ≠ c := by
  obtain ⟨r, tt, gs, cs, S⟩ := S
  exact ⟨(ne_of_none S.dk hp).symm, (ne_of_none S.gl hp).symm, (ne_of_none S.cl hp).symm⟩
/-! ### values as data to be compared -/
mutual
def toPy : Dt → PyData
  | .non => .none
  | .bl b => .bool b
  | .int i => .int i
  | .str s => .str s
  | .lst l => .list (toPys l)
  | .tup l => .tuple (toPys l)
  | .dic => .dict []
def toPys : List Dt → List PyData
  | [] => []
  | d :: l => toPy d :: toPys l
end
theorem toPys_map {l : List Dt} : toPys l = l.map toPy := by
  induction l with
  | nil => rfl
  | cons x l ih => rw [List.map_cons, ← ih]; rfl
mutual
theorem dv_dp {K : PySem.W.Frag} {g : Addr} {H : Hp} : ∀ {v : V} {d : Dt}, pur d = true → DV g H v d → Dp K H v (toPy d)
  | _, _, _, .non => .non
  | _, _, _, .bl b => .bl b
  | _, _, _, .int i => .int i
  | _, _, _, .str h => .str _
  | _, _, p, .lst e n h r => by cases p
  | _, _, p, .tup e h r => .tup (SqT.of e) (dvs_dp (by exact p) r)
  | _, _, p, .dic e => by cases p
theorem dvs_dp {K : PySem.W.Frag} {g : Addr} {H : Hp} : ∀ {v : List V} {d : List Dt}, purs d = true → DVs g H v d → DpAll K H v (toPys d)
  | _, _, _, .nil => .nil
  | _, _, p, .cons h r => by
    have p : (pur _ && purs _) = true := p
    rw [Bool.and_eq_true] at p
    exact .cons (dv_dp p.1 h) (dvs_dp p.2 r)
end
mutual
theorem pur_lay : ∀ {d : Dt}, pur d = true → (toPy d).canLay0 = true ∧ (toPy d).depth = dep d
  | .non, _ => ⟨rfl, rfl⟩
  | .bl _, _ => ⟨rfl, rfl⟩
  | .int _, _ => ⟨rfl, rfl⟩
  | .str s, p => ⟨p, rfl⟩
  | .lst _, p => by cases p
  | .tup l, p => by
    obtain ⟨a, b⟩ := purs_lay (l := l) p
    refine ⟨a, ?_⟩
    show PyData.depthAll (toPys l) + 1 = deps l + 1
    rw [b]
  | .dic, p => by cases p
theorem purs_lay : ∀ {l : List Dt}, purs l = true → PyData.canLayAll0 (toPys l) = true ∧ PyData.depthAll (toPys l) = deps l
  | [], _ => ⟨rfl, rfl⟩
  | d :: l, p => by
    have p : (pur d && purs l) = true := p
    rw [Bool.and_eq_true] at p
    obtain ⟨a, b⟩ := pur_lay p.1
    obtain ⟨c, e⟩ := purs_lay p.2
    refine ⟨?_, ?_⟩
    · show ((toPy d).canLay0 && PyData.canLayAll0 (toPys l)) = true
      rw [a, c]
      rfl
    · show max (toPy d).depth (PyData.depthAll (toPys l)) = max (dep d) (deps l)
      rw [b, e]
end
theorem shaped_of {d : Dt} (p : pur d = true) (h : dep d ≤ 64) : SeqAt.shaped (toPy d) = true := by
  obtain ⟨a, b⟩ := pur_lay p
  unfold SeqAt.shaped
  rw [a, b, decide_eq_true h]
  rfl
theorem shaped_lst {l : List Dt} (p : purs l = true) (h : deps l ≤ 63) : SeqAt.shaped (.list (toPys l)) = true := by
  obtain ⟨a, b⟩ := purs_lay p
  unfold SeqAt.shaped
  show (PyData.canLayAll0 (toPys l) && decide (PyData.depthAll (toPys l) + 1 ≤ 64)) = true
  rw [a, b, decide_eq_true (by omega)]
  rfl
theorem eqv_self {d : Dt} (p : pur d = true) : PyData.eqv (toPy d) (toPy d) = true := PySem.SeqAt.eqv_refl _ (pur_lay p).1
theorem eqv_lst {l : List Dt} (p : purs l = true) : PyData.eqv (.list (toPys l)) (.list (toPys l)) = true := PySem.SeqAt.eqv_refl _ (purs_lay p).1
end K66

set_option Elab.async false
set_option linter.all false
set_option pp.maxSteps 900
set_option maxRecDepth 100000
set_option maxHeartbeats 4000000
namespace K66
open PySem PySem.Spec PyProof.Rows L2
open TL (tl)
abbrev sLs : Stmt := top 7




/-- a def that keeps its promise, and where it stands -/
def ClX (CX : CXT) (P : Program) (w : World) (K : PySem.W.Frag) (mg : Str → Option Value) (base : Heap) (x : Str) (ps : List Str) (k : Nat) (sp : Sp) : Prop :=
  ∃ f fd, FnOk P w K mg base CX k f fd ps sp ∧ mg x = some (.ref f) ∧ PySem.W.keepIn K (.ref f) = true ∧ L2.Binds K fd ps []
abbrev Cl (P : Program) (w : World) (K : PySem.W.Frag) (mg : Str → Option Value) (base : Heap) (x : Str) (ps : List Str) (k : Nat) (sp : Sp) : Prop := ClX CX0 P w K mg base x ps k sp
/-- the built-in names -/
structure Bn (mg : Str → Option Value) : Prop where
  isi : mg "isinstance" = none
  len : mg "len" = none
  str : mg "str" = none
  int : mg "int" = none
  bol : mg "bool" = none
  tpl : mg "tuple" = none
  lst : mg "list" = none
  all : mg "all" = none
  rng : mg "range" = none
  min : mg "min" = none
  zip : mg "zip" = none
  enu : mg "enumerate" = none
section
variable {g : Addr} {H : Hp} {v : V}
theorem DV.str_inv {s : Str} (h : DV g H v (.str s)) : v = .str s ∧ s.length ≤ 10000 := by
  cases h with
  | str h => exact ⟨rfl, h⟩
theorem DV.int_inv {i : Int} (h : DV g H v (.int i)) : v = .int i := by
  cases h with
  | int i => rfl
theorem DV.tup_inv {l : List Dt} (h : DV g H v (.tup l)) : ∃ b xs, v = .ref b ∧ H b = some (.tup xs) ∧ l.length ≤ 20000 ∧ DVs g H xs l := by
  cases h with
  | tup e h r => exact ⟨_, _, rfl, e, h, r⟩
theorem DV.tup2 {x y : Dt} (h : DV g H v (.tup [x, y])) : ∃ b vx vy, v = .ref b ∧ H b = some (.tup [vx, vy]) ∧ DV g H vx x ∧ DV g H vy y := by
  obtain ⟨b, xs, rfl, e, _, r⟩ := h.tup_inv
  cases r with
  | cons hx r =>
    cases r with
    | cons hy r =>
      cases r
      exact ⟨b, _, _, rfl, e, hx, hy⟩
theorem DV.tup3 {x y z : Dt} (h : DV g H v (.tup [x, y, z])) : ∃ b vx vy vz, v = .ref b ∧ H b = some (.tup [vx, vy, vz]) ∧ DV g H vx x ∧ DV g H vy y ∧ DV g H vz z := by
  obtain ⟨b, xs, rfl, e, _, r⟩ := h.tup_inv
  cases r with
  | cons hx r =>
    cases r with
    | cons hy r =>
      cases r with
      | cons hz r =>
        cases r
        exact ⟨b, _, _, _, rfl, e, hx, hy, hz⟩
end
section
variable {K : PySem.W.Frag}
/-- [f(x) for x in a tuple], f a question -/
theorem lc_tupB {g : Addr} {a : Addr} {xs : List V} {ds : List Dt} {f : Dt → Bool} {te : TE} {i : Nat} {vs : List Nat} {σ : L2.St} {H1 : Hp} {Q : Addr → Hp → Prop} (r : DVs g H1 xs ds) (e : H1 a = some (.tup xs)) (hl : ds.length ≤ 20000)
    (hw : ∀ x, wipe (List.set (wipe σ vs) i (some x)) vs = wipe σ vs)
    (step : ∀ (x : V) (d : Dt) (H2 : Hp) (R : VK), d ∈ ds → DV g H2 x d → Same H1 H2 → (∀ H3, Same H2 H3 → R (.bl (f d)) H3) → te (List.set (wipe σ vs) i (some x)) H2 R)
    (fin : ∀ (D : Addr) (H2 : Hp), Same H1 H2 → H2 D = some (.lst (ds.map fun d => V.bl (f d))) → Q D H2) :
    ∀ (D : Addr), H1 D = none → ∃ W : Nat → Nat → Hp → Prop, (∃ m, W 0 m (upd H1 D (HO.lst []))) ∧ ∀ (i' m : Nat) (H : Hp), W i' m H →
      (Itt K a).stop i' H ∧ Q D H ∨ (Itt K a).go i' H ∧ ∃ Nx : Hp → Prop, (∀ H', Nx H' → ∃ m', m' < m ∧ W (i' + 1) m' H') ∧ ∀ (x : V) (H' : Hp), (Itt K a).yld i' H x H' →
        gName i x (wipe σ vs) H' fun σ2 H2 => wipe σ2 vs = wipe σ vs ∧ tYes σ2 H2 fun b H3 => if b = true then te σ2 H3 fun y H4 => ∃ acc, H4 D = some (HO.lst acc) ∧ acc.length < sizeLine ∧ Nx (upd H4 D (HO.lst (acc ++ [y]))) else Nx H3 := by
  intro D hD
  have hlen := r.len
  refine lc_it (walk_tup (K := K) (a := a) (xs := xs)) (fun i H' => H' D = some (.lst ((ds.take i).map fun d => V.bl (f d))) ∧ Same H1 H') ⟨upd_same, same_new hD⟩ (fun _ _ _ h => SqT.of (h.2 _ _ e)) ?_ ?_
  · rintro j x H2 H2' hj ⟨h4, s1⟩ ⟨rfl, hx⟩
    obtain ⟨d, hd, hx2⟩ := r.at_ hx
    refine ⟨hw x, ?_⟩
    refine step x d _ _ (List.mem_of_getElem? hd) (hx2.keep (Kv.of s1)) s1 fun H3 s3 => ?_
    refine ⟨_, s3 _ _ h4, ?_, ?_, ?_⟩
    · rw [List.length_map, List.length_take, sizeLine_eq]
      omega
    · rw [upd_same, List.take_succ, hd, List.map_append]
      rfl
    · intro b o eb
      rw [upd_ne (ne_of_none eb hD)]
      exact s3 _ _ (s1 _ _ eb)
  · rintro H2 ⟨h4, s1⟩
    rw [hlen, List.take_length] at h4
    exact fin D H2 s1 h4
theorem all_bl {l : List Bool} : l.all id = true ↔ ∀ b ∈ l, b = true := by simp [List.all_eq_true]
theorem all_map {ds : List Dt} {f : Dt → Bool} : ((ds.map f).all id) = ds.all f := by
  induction ds with
  | nil => rfl
  | cons d ds ih => rw [List.map_cons, List.all_cons, List.all_cons, ih] <;> rfl
theorem sql_bl {H : Hp} {D : Addr} {ds : List Dt} {f : Dt → Bool} (h : H D = some (.lst (ds.map fun d => V.bl (f d)))) : SqL K H D ((ds.map f).map V.bl) := SqL.of (by rw [List.map_map]; exact h)
end
def isLst : Dt → Bool
  | .lst _ => true
  | .tup _ => true
  | _ => false
theorem len1 {d : Dt} (h : lenIs 1 d = true) : ∃ p, d = .tup [p] := by
  cases d with
  | tup l =>
    have e : l.length = 1 := of_decide_eq_true h
    match l, e with
    | [p], _ => exact ⟨p, rfl⟩
  | _ => cases h
theorem len2 {d : Dt} (h : lenIs 2 d = true) : ∃ p q, d = .tup [p, q] := by
  cases d with
  | tup l =>
    have e : l.length = 2 := of_decide_eq_true h
    match l, e with
    | [p, q], _ => exact ⟨p, q, rfl⟩
  | _ => cases h
theorem DV.tyL {K : PySem.W.Frag} {g : Addr} {H : Hp} {v : V} {d : Dt} (h : DV g H v d) : ∃ t, TyX K H v t ∧ PySem.W.kitAny K t [.type "list", .type "tuple"] = some (isLst d) := by
  have go : ∀ {t : Value} {a b : Bool}, PySem.W.kitOne K t (.type "list") = some a → PySem.W.kitOne K t (.type "tuple") = some b → PySem.W.kitAny K t [.type "list", .type "tuple"] = some (a || b) := by
    intro t a b h1 h2
    unfold PySem.W.kitAny
    rw [h1]
    cases a with
    | true => rfl
    | false =>
      show PySem.W.kitAny K t [.type "tuple"] = _
      unfold PySem.W.kitAny
      rw [h2]
      cases b <;> rfl
  cases h with
  | non => exact ⟨_, .base .non, go (kit_ty (show kitB "NoneType" "list" = some false by decide +kernel)) (kit_ty (show kitB "NoneType" "tuple" = some false by decide +kernel))⟩
  | bl b => exact ⟨_, .base (.bl _), go (kit_ty (show kitB "bool" "list" = some false by decide +kernel)) (kit_ty (show kitB "bool" "tuple" = some false by decide +kernel))⟩
  | int i => exact ⟨_, .base (.int _), go (kit_ty (show kitB "int" "list" = some false by decide +kernel)) (kit_ty (show kitB "int" "tuple" = some false by decide +kernel))⟩
  | str h => exact ⟨_, .base (.str _), go (kit_ty (show kitB "str" "list" = some false by decide +kernel)) (kit_ty (show kitB "str" "tuple" = some false by decide +kernel))⟩
  | lst e n h r => exact ⟨_, .base (.lst e), go (kit_ty (show kitB "list" "list" = some true by decide +kernel)) (kit_ty (show kitB "list" "tuple" = some false by decide +kernel))⟩
  | tup e h r => exact ⟨_, .base (.tup e), go (kit_ty (show kitB "tuple" "list" = some false by decide +kernel)) (kit_ty (show kitB "tuple" "tuple" = some true by decide +kernel))⟩
  | dic e => exact ⟨_, .base (.dK e), go (kit_ty (show kitB "dict" "list" = some false by decide +kernel)) (kit_ty (show kitB "dict" "tuple" = some false by decide +kernel))⟩
section
variable {P : Program} {w : World} {K : PySem.W.Frag} {mg : Str → Option Value} {base : Heap}
theorem scLs : FnScope ["value"] ["value"] (defScope sLs) := ⟨rfl, rfl, rfl, by decide +kernel, rfl, by decide +kernel, by decide +kernel⟩
theorem ok_ls {f : Addr} {fd : FuncData} (F : Fun K "is_list" "is_list" sLs f fd) (T : Bn mg) : FnOk P w K mg base CX0 1 f fd ["value"] (spAsk isLst) := by
  refine F.ok scLs (fun vs H Q E h => ?_) (fun cdv A outer s H vs Q E hr h => ?_)
  · obtain ⟨g, v, d, rfl, _⟩ := h
    rfl
  · obtain ⟨g, v, d, rfl, hd, k⟩ := h
    refine ⟨_, (pss_one (ps_ret (pe_callB call_isiT (by rfl) T.isi (by decide +kernel) (pa_cons (pv 0) (pa_cons (pe_tup (pa_cons (pe_bltn (v := .ty "list") (by rfl) T.lst boot_list rfl) (pa_cons (pe_bltn (v := .ty "tuple") (by rfl) T.tpl boot_tuple rfl) pa_nil))) pa_nil))))), ?_⟩
    refine ⟨_, rfl, (by show 2 ≤ sizeLine; decide), fun c hc => ?_⟩
    generalize hH1 : upd H c _ = H1
    obtain ⟨sc, ec⟩ := freshF hc hH1
    obtain ⟨t, ht, k1⟩ := (hd.keep (Kv.of sc)).tyL (K := K)
    exact ⟨_, c, _, t, _, _, rfl, ec, .cons (.ty "list") (.cons (.ty "tuple") .nil), ht, k1, k H1 sc⟩
end
end K66

set_option Elab.async false
set_option linter.all false
set_option pp.maxSteps 900
set_option maxRecDepth 100000
set_option maxHeartbeats 4000000
namespace K66
open PySem PySem.Spec PyProof.Rows L2
open TL (tl)
abbrev sWeb : Stmt := top 17
abbrev sHd : Stmt := top 18
abbrev sEd : Stmt := top 19
abbrev sNeed : Stmt := top 20
def rLenQ (K : PySem.W.Frag) : List V → Hp → VK → Prop := fun xs H Q => ∃ p ys, xs = [.ref p] ∧ (SqL K H p ys ∨ SqT K H p ys) ∧ Q (.int (ys.length : Nat)) H
/-! ### webs, judged -/
def posI : Dt → Bool
  | .int i => decide (1 ≤ i)
  | _ => false
def headB : Dt → Bool
  | .tup [a, b] => posI a && isTup b
  | _ => false
def callB (nets : Int) : Dt → Bool
  | .non => true
  | d => intIn 0 (nets - 1) d
def toldB (labels : Int) : Dt → Bool
  | .tup ks => decide (ks.length ≤ 8) && ks.all (intIn 0 (labels - 1))
  | _ => false
def edgeB (places nets labels : Int) : Dt → Bool
  | .tup [p, t, c, b, l] => (intIn 0 (places - 2) p && intIn 0 (places - 1) t) && ((callB nets c && intIn (-1000000000) 1000000000 b) && toldB labels l)
  | _ => false
def spEd : Sp := fun vs H Q _ => ∃ (g : Addr) (v : V) (d : Dt) (places nets labels : Int), vs = [v, .int places, .int nets, .int labels] ∧ DV g H v d ∧ ∀ H', Same H H' → Q (.bl (edgeB places nets labels d)) H'
theorem len5 {d : Dt} (h : lenIs 5 d = true) : ∃ p q r s t, d = .tup [p, q, r, s, t] := by
  cases d with
  | tup l =>
    match l, h with
    | [p, q, r, s, t], _ => exact ⟨p, q, r, s, t, rfl⟩
    | [], h | [_], h | [_, _], h | [_, _, _], h | [_, _, _, _], h | _ :: _ :: _ :: _ :: _ :: _ :: _, h => simp [lenIs] at h
  | _ => cases h
theorem edge_no {p n l : Int} {d : Dt} (h : lenIs 5 d = false) : edgeB p n l d = false := by
  cases d with
  | tup xs =>
    match xs, h with
    | [_, _, _, _, _], h => cases h
    | [], _ | [_], _ | [_, _], _ | [_, _, _], _ | [_, _, _, _], _ | _ :: _ :: _ :: _ :: _ :: _ :: _, _ => rfl
  | _ => rfl
theorem head_no {d : Dt} (h : lenIs 2 d = false) : headB d = false := by
  cases d with
  | tup xs =>
    match xs, h with
    | [_, _], h => cases h
    | [], _ | [_], _ | _ :: _ :: _ :: _, _ => rfl
  | _ => rfl
section
variable {g : Addr} {H : Hp} {v : V}
theorem DV.tup5 {p q r s t : Dt} (h : DV g H v (.tup [p, q, r, s, t])) : ∃ b vp vq vr vs vt, v = .ref b ∧ H b = some (.tup [vp, vq, vr, vs, vt]) ∧ DV g H vp p ∧ DV g H vq q ∧ DV g H vr r ∧ DV g H vs s ∧ DV g H vt t := by
  obtain ⟨b, xs, rfl, e, _, h1⟩ := h.tup_inv
  cases h1 with
  | cons hp r =>
  cases r with
  | cons hq r =>
  cases r with
  | cons hr r =>
  cases r with
  | cons hs r =>
  cases r with
  | cons ht r =>
  cases r
  exact ⟨b, _, _, _, _, _, rfl, e, hp, hq, hr, hs, ht⟩
end
section
variable {P : Program} {w : World} {K : PySem.W.Frag} {mg : Str → Option Value} {base : Heap}
theorem scHd : FnScope ["value"] ["value"] (defScope sHd) := ⟨rfl, rfl, rfl, by decide +kernel, rfl, by decide +kernel, by decide +kernel⟩
theorem ok_hd {f : Addr} {fd : FuncData} (F : Fun K "_is_head" "_is_head" sHd f fd) (T : Bn mg) (cTof : Cl P w K mg base "is_tuple_of" ["value", "many"] 1 spTof) (cWhl : Cl P w K mg base "is_whole" ["value"] 1 (spAsk isInt)) : FnOk P w K mg base CX0 2 f fd ["value"] (spAsk headB) := by
  obtain ⟨fTof, fdTof, GTof, mTof, kTof, bTof⟩ := cTof
  obtain ⟨fWhl, fdWhl, GWhl, mWhl, kWhl, bWhl⟩ := cWhl
  refine F.ok scHd (fun vs H Q E h => ?_) (fun cdv A outer s H vs Q E hr h => ?_)
  · obtain ⟨g, v, d, rfl, _⟩ := h
    rfl
  · obtain ⟨g, v, d, rfl, hd, k⟩ := h
    refine ⟨_, (pss_one (ps_ret (pe_and (pe_call GTof hr (by rfl) mTof kTof bTof .nil pass0 (pa_cons (pv 0) (pa_cons pe_int pa_nil))) (pe_and (pe_call GWhl hr (by rfl) mWhl kWhl bWhl .nil pass0 (pa_cons (pe_ix ix_tup (pv 0) pe_int (fun _ _ => rfl)) pa_nil)) (pe_and (pe_cmpR op_ge (pe_ix ix_tup (pv 0) pe_int (fun _ _ => rfl)) pe_int (nomark _)) (pe_one (pe_callB call_isi (by rfl) T.isi (by decide +kernel) (pa_cons (pe_ix ix_tup (pv 0) pe_int (fun _ _ => rfl)) (pa_cons (pe_bltn (v := .ty "tuple") (by rfl) T.tpl boot_tuple rfl) pa_nil))))))))), ?_⟩
    refine ⟨_, rfl, g, v, d, 2, rfl, hd, fun H1 s1 => ⟨_, rfl, ?_⟩⟩
    cases h2 : lenIs 2 d with
    | false =>
      refine ifF rfl ?_
      have := k H1 s1
      rw [head_no h2] at this
      exact this
    | true =>
      refine ifT rfl ?_
      obtain ⟨x, y, rfl⟩ := len2 h2
      have hd1 := hd.keep (Kv.of s1)
      obtain ⟨b, vx, vy, rfl, eb, hx, hy⟩ := hd1.tup2
      refine ⟨_, rfl, b, _, 0, _, rfl, rfl, SqT.of eb, atI_nat (j := 0) rfl, g, vx, x, rfl, hx, fun H2 s2 => ⟨_, rfl, ?_⟩⟩
      have hy2 := hy.keep (Kv.of s2)
      have eb2 := s2 _ _ eb
      have s12 := s1.trans s2
      cases x with
      | int i =>
        obtain rfl := hx.int_inv
        refine ifT rfl ?_
        refine ⟨_, rfl, b, _, 0, _, rfl, rfl, SqT.of eb2, atI_nat (j := 0) rfl, _, _, rfl, rfl, _, rfl, ?_⟩
        have e0 : headB (.tup [.int i, y]) = (decide (1 ≤ i) && isTup y) := rfl
        rw [e0] at k
        cases h1 : decide (1 ≤ i) with
        | false =>
          rw [h1] at k
          exact ifF rfl (k H2 s12)
        | true =>
          rw [h1] at k
          refine ifT rfl ?_
          obtain ⟨t, ht, q1, q2, q3, q4⟩ := hy2.ty (K := K)
          exact ⟨_, rfl, b, _, 1, _, rfl, rfl, SqT.of eb2, atI_nat (j := 1) rfl, _, _, _, _, _, rfl, .ty "tuple", ht, q2, k H2 s12⟩
      | _ =>
        refine ifF rfl ?_
        exact k H2 s12
theorem scEd : FnScope ["value", "places", "nets", "labels", "place", "to", "call", "beats", "told", "k"] ["value", "places", "nets", "labels"] (defScope sEd) := ⟨rfl, rfl, rfl, by decide +kernel, rfl, by decide +kernel, by decide +kernel⟩
theorem ok_ed {f : Addr} {fd : FuncData} (F : Fun K "_is_edge" "_is_edge" sEd f fd) (T : Bn mg) (cTof : Cl P w K mg base "is_tuple_of" ["value", "many"] 1 spTof) (cTin : Cl P w K mg base "is_tuple_within" ["value", "low", "high"] 1 spTin)
    (cWin : Cl P w K mg base "is_within" ["value", "low", "high"] 2 spWin) (gB : ∃ t, mg "MOST_BEATS" = some (.int 1000000000 t)) (gE : ∃ t, mg "MOST_EDGE_LABELS" = some (.int 8 t)) : FnOk P w K mg base CX0 3 f fd ["value", "places", "nets", "labels"] spEd := by
  obtain ⟨fTof, fdTof, GTof, mTof, kTof, bTof⟩ := cTof
  obtain ⟨fTin, fdTin, GTin, mTin, kTin, bTin⟩ := cTin
  obtain ⟨fWin, fdWin, GWin, mWin, kWin, bWin⟩ := cWin
  obtain ⟨tB, eB⟩ := gB
  obtain ⟨tE, eE⟩ := gE
  refine F.ok scEd (fun vs H Q E h => ?_) (fun cdv A outer s H vs Q E hr h => ?_)
  · obtain ⟨g, v, d, p, n, l, rfl, _⟩ := h
    rfl
  · obtain ⟨g, v, d, pl, nt, lb, rfl, hd, k⟩ := h
    have hr1 : Room 1 _ := hr.mono (by decide)
    refine ⟨_, (pss_cons (ps_if (pt_not (pt_val (pe_call GTof hr1 (by rfl) mTof kTof bTof .nil pass0 (pa_cons (pv 0) (pa_cons pe_int pa_nil))))) (pss_one (ps_ret pe_bl)) pss_nil)
      (pss_cons (ps_asg (pv 0) (pg_tup (by rfl) (pgs_cons (pg_name (i := 4) scEd.nd rfl (Or.inl rfl)) (pgs_cons (pg_name (i := 5) scEd.nd rfl (Or.inl rfl)) (pgs_cons (pg_name (i := 6) scEd.nd rfl (Or.inl rfl)) (pgs_cons (pg_name (i := 7) scEd.nd rfl (Or.inl rfl)) (pgs_cons (pg_name (i := 8) scEd.nd rfl (Or.inl rfl)) pgs_nil)))))))
      (pss_cons (ps_if (PW.pt (pw_or (pt_not (pt_val (pe_call GWin hr (by rfl) mWin kWin bWin .nil pass0 (pa_cons (pv 4) (pa_cons pe_int (pa_cons (pe_op op_sub (pv 1) pe_int) pa_nil)))))) (pw_or1 (pt_not (pt_val (pe_call GWin hr (by rfl) mWin kWin bWin .nil pass0 (pa_cons (pv 5) (pa_cons pe_int (pa_cons (pe_op op_sub (pv 1) pe_int) pa_nil))))))))) (pss_one (ps_ret pe_bl)) pss_nil)
      (pss_cons (ps_if (PW.pt (pw_or (PW.pt (pw_and (pt_cmpR op_notN (pv 6) pe_non (nomark _)) (pw_and1 (pt_not (pt_val (pe_call GWin hr (by rfl) mWin kWin bWin .nil pass0 (pa_cons (pv 6) (pa_cons pe_int (pa_cons (pe_op op_sub (pv 2) pe_int) pa_nil))))))))) (pw_or1 (pt_not (pt_val (pe_call GWin hr (by rfl) mWin kWin bWin .nil pass0 (pa_cons (pv 7) (pa_cons (pe_un un_neg (pe_glob (v := .int 1000000000) (by rfl) eB ⟨_, rfl⟩)) (pa_cons (pe_glob (v := .int 1000000000) (by rfl) eB ⟨_, rfl⟩) pa_nil))))))))) (pss_one (ps_ret pe_bl)) pss_nil)
      (pss_one (ps_ret (pe_and (pe_call GTin hr1 (by rfl) mTin kTin bTin .nil pass0 (pa_cons (pv 8) (pa_cons pe_int (pa_cons (pe_glob (v := .int 8) (by rfl) eE ⟨_, rfl⟩) pa_nil)))) (pe_one (pe_callB (cr_all rfl) (by rfl) T.all (by decide +kernel) (pa_cons (pe_lc (own := [("k", 9)]) (g := gName 9) (tt := tYes) (by rfl) scEd.nd (pi_tup (pv 8)) (blkOk_by (own := [("k", 9)]) (N := ["value", "places", "nets", "labels", "place", "to", "call", "beats", "told", "k"]) (sc := defScope sEd) (by decide +kernel)) (fun _ _ _ _ _ => (pg_name (i := 9) scEd.nd rfl (Or.inl rfl))) (fun _ _ _ _ _ => pts_nil) (fun _ _ _ _ _ => (pe_call GWin hr (by rfl) mWin kWin bWin .nil pass0 (pa_cons (pv 9) (pa_cons pe_int (pa_cons (pe_op op_sub (pv 3) pe_int) pa_nil)))))) pa_nil)))))))))), ?_⟩
    refine ⟨_, rfl, g, v, d, 5, rfl, hd, fun H1 s1 => ⟨_, rfl, ?_⟩⟩
    cases h5 : lenIs 5 d with
    | false =>
      rw [edge_no h5] at k
      exact iteT (k H1 s1)
    | true =>
      obtain ⟨p, t, c, b, l, rfl⟩ := len5 h5
      obtain ⟨a, vp, vt, vc, vb, vl, rfl, ea, hp, ht, hc, hb, hl⟩ := (hd.keep (Kv.of s1)).tup5
      refine iteF ⟨_, rfl, a, _, rfl, SqT.of ea, rfl, _, _, rfl, _, _, rfl, _, _, rfl, _, _, rfl, _, _, rfl, rfl, ?_⟩
      have e0 : edgeB pl nt lb (.tup [p, t, c, b, l]) = ((intIn 0 (pl - 2) p && intIn 0 (pl - 1) t) && ((callB nt c && intIn (-1000000000) 1000000000 b) && toldB lb l)) := rfl
      rw [e0] at k
      refine ⟨_, rfl, _, rfl, _, _, rfl, rfl, g, vp, p, 0, _, rfl, hp, fun H2 s2 => ⟨_, rfl, ?_⟩⟩
      have s12 := s1.trans s2
      cases n1 : intIn 0 (pl - 2) p with
      | false =>
        rw [n1] at k
        exact iteT (k H2 s12)
      | true =>
      rw [n1] at k
      refine iteF ?_
      refine ⟨_, rfl, _, rfl, _, _, rfl, rfl, g, vt, t, 0, _, rfl, ht.keep (Kv.of s2), fun H3 s3 => ⟨_, rfl, ?_⟩⟩
      have s13 := s12.trans s3
      have s23 := s2.trans s3
      cases n2 : intIn 0 (pl - 1) t with
      | false =>
        rw [n2] at k
        exact iteT (k H3 s13)
      | true =>
      rw [n2] at k
      refine iteF ?_
      have hc3 := hc.keep (Kv.of s23)
      have hb3 := hb.keep (Kv.of s23)
      have hl3 := hl.keep (Kv.of s23)
      by_cases hn : vc = V.non
      · subst hn
        cases hc3
        refine ⟨_, rfl, rfl, _, rfl, ifF rfl ?_⟩
        refine ⟨_, rfl, _, rfl, g, vb, b, -1000000000, 1000000000, rfl, hb3, fun H5 s5 => ⟨_, rfl, ?_⟩⟩
        have s15 := s13.trans s5
        cases n4 : intIn (-1000000000) 1000000000 b with
        | false =>
          rw [n4] at k
          exact iteT (k H5 s15)
        | true =>
          rw [n4] at k
          refine iteF ?_
          refine ⟨_, rfl, g, vl, l, 0, 8, rfl, hl3.keep (Kv.of s5), fun H6 s6 => ⟨_, rfl, ?_⟩⟩
          have s16 := s15.trans s6
          have hl6 := (hl3.keep (Kv.of s5)).keep (Kv.of s6)
          have k' : ∀ H', Same H H' → Q (.bl (toldB lb l)) H' := k
          cases l with
          | tup ks =>
            have e1 : lenIn 0 8 (.tup ks) = decide (ks.length ≤ 8) := by
              show (decide ((0 : Int) ≤ (ks.length : Int)) && decide ((ks.length : Int) ≤ 8)) = _
              rw [decide_eq_true (show (0 : Int) ≤ (ks.length : Int) by omega), Bool.true_and, decide_eq_decide]
              omega
            have e2 : toldB lb (.tup ks) = (decide (ks.length ≤ 8) && ks.all (intIn 0 (lb - 1))) := rfl
            rw [e2] at k'
            rw [e1]
            cases n5 : decide (ks.length ≤ 8) with
            | false =>
              rw [n5] at k'
              exact iteF (k' H6 s16)
            | true =>
              rw [n5] at k'
              obtain ⟨al, xs, rfl, eal, hxl, rr⟩ := hl6.tup_inv
              refine iteT ⟨_, rfl, al, rfl, ⟨_, SqT.of eal⟩, ?_⟩
              refine lc_tupB (K := K) (f := intIn 0 (lb - 1)) (i := 9) (vs := [9]) rr eal hxl ?_ ?_ ?_
              · exact fun x => rfl
              · intro x d H2' R hm hx s2 hR
                exact ⟨_, rfl, _, rfl, _, _, rfl, rfl, g, x, d, 0, _, rfl, hx, hR⟩
              · intro D H7 s7 hD
                refine ⟨D, ks.map (intIn 0 (lb - 1)), rfl, sql_bl hD, ?_⟩
                rw [all_map]
                exact k' H7 (s16.trans s7)
          | _ => exact iteF (k' H6 s16)
      · have hcB : callB nt c = intIn 0 (nt - 1) c := by
          cases hc3 with
          | non => exact absurd rfl hn
          | _ => rfl
        rw [hcB] at k
        refine ⟨_, rfl, rfl, _, rfl, ifT (by rw [decide_eq_false hn]; rfl) ?_⟩
        refine ⟨_, rfl, _, rfl, _, _, rfl, rfl, g, vc, c, 0, _, rfl, hc3, fun H4 s4 => ⟨_, rfl, ?_⟩⟩
        have s14 := s13.trans s4
        have hb4 := hb3.keep (Kv.of s4)
        have hl4 := hl3.keep (Kv.of s4)
        cases n3 : intIn 0 (nt - 1) c with
        | false =>
          rw [n3] at k
          exact iteT (k H4 s14)
        | true =>
        rw [n3] at k
        refine iteF ?_
        refine ⟨_, rfl, _, rfl, g, vb, b, -1000000000, 1000000000, rfl, hb4, fun H5 s5 => ⟨_, rfl, ?_⟩⟩
        have s15 := s14.trans s5
        cases n4 : intIn (-1000000000) 1000000000 b with
        | false =>
          rw [n4] at k
          exact iteT (k H5 s15)
        | true =>
          rw [n4] at k
          refine iteF ?_
          refine ⟨_, rfl, g, vl, l, 0, 8, rfl, hl4.keep (Kv.of s5), fun H6 s6 => ⟨_, rfl, ?_⟩⟩
          have s16 := s15.trans s6
          have hl6 := (hl4.keep (Kv.of s5)).keep (Kv.of s6)
          have k' : ∀ H', Same H H' → Q (.bl (toldB lb l)) H' := k
          cases l with
          | tup ks =>
            have e1 : lenIn 0 8 (.tup ks) = decide (ks.length ≤ 8) := by
              show (decide ((0 : Int) ≤ (ks.length : Int)) && decide ((ks.length : Int) ≤ 8)) = _
              rw [decide_eq_true (show (0 : Int) ≤ (ks.length : Int) by omega), Bool.true_and, decide_eq_decide]
              omega
            have e2 : toldB lb (.tup ks) = (decide (ks.length ≤ 8) && ks.all (intIn 0 (lb - 1))) := rfl
            rw [e2] at k'
            rw [e1]
            cases n5 : decide (ks.length ≤ 8) with
            | false =>
              rw [n5] at k'
              exact iteF (k' H6 s16)
            | true =>
              rw [n5] at k'
              obtain ⟨al, xs, rfl, eal, hxl, rr⟩ := hl6.tup_inv
              refine iteT ⟨_, rfl, al, rfl, ⟨_, SqT.of eal⟩, ?_⟩
              refine lc_tupB (K := K) (f := intIn 0 (lb - 1)) (i := 9) (vs := [9]) rr eal hxl ?_ ?_ ?_
              · exact fun x => rfl
              · intro x d H2' R hm hx s2 hR
                exact ⟨_, rfl, _, rfl, _, _, rfl, rfl, g, x, d, 0, _, rfl, hx, hR⟩
              · intro D H7 s7 hD
                refine ⟨D, ks.map (intIn 0 (lb - 1)), rfl, sql_bl hD, ?_⟩
                rw [all_map]
                exact k' H7 (s16.trans s7)
          | _ => exact iteF (k' H6 s16)
end
end K66

set_option Elab.async false
set_option linter.all false
set_option pp.maxSteps 900
set_option maxRecDepth 100000
set_option maxHeartbeats 4000000
namespace K66
open PySem PySem.Spec PyProof.Rows L2
open TL (tl)
/-! ### comprehensions over a tuple -/
theorem lc_tupG {K : PySem.W.Frag} {g : Addr} {a : Addr} {xs : List V} {ds : List Dt} {f : Dt → V} {te : TE} {i : Nat} {vs : List Nat} {σ : L2.St} {H1 : Hp} {Q : Addr → Hp → Prop} (r : DVs g H1 xs ds) (e : H1 a = some (.tup xs)) (hl : ds.length ≤ 20000)
    (hw : ∀ x, wipe (List.set (wipe σ vs) i (some x)) vs = wipe σ vs)
    (step : ∀ (x : V) (d : Dt) (H2 : Hp) (R : VK), d ∈ ds → DV g H2 x d → Same H1 H2 → (∀ H3, Same H2 H3 → R (f d) H3) → te (List.set (wipe σ vs) i (some x)) H2 R)
    (fin : ∀ (D : Addr) (H2 : Hp), Same H1 H2 → H1 D = none → H2 D = some (.lst (ds.map f)) → Q D H2) :
    ∀ (D : Addr), H1 D = none → ∃ W : Nat → Nat → Hp → Prop, (∃ m, W 0 m (upd H1 D (HO.lst []))) ∧ ∀ (i' m : Nat) (H : Hp), W i' m H →
      (Itt K a).stop i' H ∧ Q D H ∨ (Itt K a).go i' H ∧ ∃ Nx : Hp → Prop, (∀ H', Nx H' → ∃ m', m' < m ∧ W (i' + 1) m' H') ∧ ∀ (x : V) (H' : Hp), (Itt K a).yld i' H x H' →
        gName i x (wipe σ vs) H' fun σ2 H2 => wipe σ2 vs = wipe σ vs ∧ tYes σ2 H2 fun b H3 => if b = true then te σ2 H3 fun y H4 => ∃ acc, H4 D = some (HO.lst acc) ∧ acc.length < sizeLine ∧ Nx (upd H4 D (HO.lst (acc ++ [y]))) else Nx H3 := by
  intro D hD
  have hlen := r.len
  refine lc_it (walk_tup (K := K) (a := a) (xs := xs)) (fun i H' => H' D = some (.lst ((ds.take i).map f)) ∧ Same H1 H') ⟨upd_same, same_new hD⟩ (fun _ _ _ h => SqT.of (h.2 _ _ e)) ?_ ?_
  · rintro j x H2 H2' hj ⟨h4, s1⟩ ⟨rfl, hx⟩
    obtain ⟨d, hd, hx2⟩ := r.at_ hx
    refine ⟨hw x, ?_⟩
    refine step x d _ _ (List.mem_of_getElem? hd) (hx2.keep (Kv.of s1)) s1 fun H3 s3 => ?_
    refine ⟨_, s3 _ _ h4, ?_, ?_, ?_⟩
    · rw [List.length_map, List.length_take, sizeLine_eq]
      omega
    · rw [upd_same, List.take_succ, hd, List.map_append]
      rfl
    · intro b o eb
      rw [upd_ne (ne_of_none eb hD)]
      exact s3 _ _ (s1 _ _ eb)
  · rintro H2 ⟨h4, s1⟩
    rw [hlen, List.take_length] at h4
    exact fin D H2 s1 hD h4
theorem it_gen {J : It} {n : Nat} {G : Hp → Prop} {Y : Nat → Hp → V → Hp → Prop} (w : Walk J n G Y) {Body : V → Hp → (Hp → Prop) → Prop} {H0 : Hp} {Qd : Hp → Prop} (Pv : Nat → Hp → Prop) (h0 : Pv 0 H0) (hG : ∀ i H, i ≤ n → Pv i H → G H)
    (hs : ∀ i x H H', i < n → Pv i H → Y i H x H' → Body x H' (Pv (i + 1))) (hd : ∀ H, Pv n H → Qd H) :
    ∃ W : Nat → Nat → Hp → Prop, (∃ m, W 0 m H0) ∧ ∀ i m H, W i m H →
      (J.stop i H ∧ Qd H) ∨ (J.go i H ∧ ∃ Nx : Hp → Prop, (∀ H', Nx H' → ∃ m', m' < m ∧ W (i + 1) m' H') ∧ ∀ x H', J.yld i H x H' → Body x H' Nx) := by
  refine ⟨fun i m H => m = n - i ∧ i ≤ n ∧ Pv i H, ⟨n, by simp, Nat.zero_le _, h0⟩, ?_⟩
  rintro i m H ⟨rfl, hi, p⟩
  have q := hG i H hi p
  by_cases hlt : i < n
  · exact .inr ⟨w.goes i H hlt q, Pv (i + 1), fun H' p' => ⟨n - (i + 1), by omega, rfl, hlt, p'⟩, fun x H' y => hs i x H H' hlt p (w.yields i H x H' hlt q y)⟩
  · have e : i = n := by omega
    subst e
    exact .inl ⟨w.stops H q, hd H p⟩
/-! ### a whole web, judged -/
def net0 : Dt → Int
  | .tup [.int i, _] => i
  | _ => 0
def netEs : Dt → List Dt
  | .tup [_, .tup es] => es
  | _ => []
def intOf : Dt → Int
  | .int i => i
  | _ => 0
def netsB (lb : Int) : Dt → Bool
  | .tup ns => (lenIn 1 400 (.tup ns) && ns.all headB) && ((decide ((ns.map net0).sum ≤ 4000) && decide ((ns.map fun n => ((netEs n).length : Int)).sum ≤ 8000)) && ns.all fun n => (netEs n).all (edgeB (net0 n) ns.length lb))
  | _ => false
def webB : Dt → Bool
  | .tup [a, b] => intIn 0 4000 a && netsB (intOf a) b
  | _ => false
theorem web_no {d : Dt} (h : lenIs 2 d = false) : webB d = false := by
  cases d with
  | tup xs =>
    match xs, h with
    | [_, _], h => cases h
    | [], _ | [_], _ | _ :: _ :: _ :: _, _ => rfl
  | _ => rfl
theorem head_of {d : Dt} (h : headB d = true) : ∃ i es, d = .tup [.int i, .tup es] ∧ 1 ≤ i := by
  cases d with
  | tup xs =>
    match xs, h with
    | [a, b], h =>
      have h : (posI a && isTup b) = true := h
      rw [Bool.and_eq_true] at h
      obtain ⟨h1, h2⟩ := h
      cases a with
      | int i =>
        cases b with
        | tup es => exact ⟨i, es, rfl, of_decide_eq_true h1⟩
        | _ => cases h2
      | _ => cases h1
    | [], h | [_], h | _ :: _ :: _ :: _, h => cases h
  | _ => cases h
section
variable {P : Program} {w : World} {K : PySem.W.Frag} {mg : Str → Option Value} {base : Heap}
theorem scWeb : FnScope ["value", "labels", "nets", "net", "edge"] ["value"] (defScope sWeb) := ⟨rfl, rfl, rfl, by decide +kernel, rfl, by decide +kernel, by decide +kernel⟩
theorem ok_web {f : Addr} {fd : FuncData} (F : Fun K "is_web" "is_web" sWeb f fd) (T : Bn mg) (hsum : mg "sum" = none) (cTof : Cl P w K mg base "is_tuple_of" ["value", "many"] 1 spTof) (cTin : Cl P w K mg base "is_tuple_within" ["value", "low", "high"] 1 spTin)
    (cWin : Cl P w K mg base "is_within" ["value", "low", "high"] 2 spWin) (cHd : Cl P w K mg base "_is_head" ["value"] 2 (spAsk headB)) (cEd : Cl P w K mg base "_is_edge" ["value", "places", "nets", "labels"] 3 spEd)
    (gL : ∃ t, mg "MOST_LABELS" = some (.int 4000 t)) (gN : ∃ t, mg "MOST_NETS" = some (.int 400 t)) (gP : ∃ t, mg "MOST_PLACES" = some (.int 4000 t)) (gE : ∃ t, mg "MOST_EDGES" = some (.int 8000 t)) :
    FnOk P w K mg base CX0 4 f fd ["value"] (spAsk webB) := by
  obtain ⟨fTof, fdTof, GTof, mTof, kTof, bTof⟩ := cTof
  obtain ⟨fTin, fdTin, GTin, mTin, kTin, bTin⟩ := cTin
  obtain ⟨fWin, fdWin, GWin, mWin, kWin, bWin⟩ := cWin
  obtain ⟨fHd, fdHd, GHd, mHd, kHd, bHd⟩ := cHd
  obtain ⟨fEd, fdEd, GEd, mEd, kEd, bEd⟩ := cEd
  obtain ⟨tL, eL⟩ := gL
  obtain ⟨tN, eN⟩ := gN
  obtain ⟨tP, eP⟩ := gP
  obtain ⟨tE, eE⟩ := gE
  refine F.ok scWeb (fun vs H Q E h => ?_) (fun cdv A outer s H vs Q E hr h => ?_)
  · obtain ⟨g, v, d, rfl, _⟩ := h
    rfl
  · obtain ⟨g, v, d, rfl, hd, k⟩ := h
    have hr1 : Room 1 _ := hr.mono (by decide)
    have hr2 : Room 2 _ := hr.mono (by decide)
    refine ⟨_, (pss_cons (ps_if (PW.pt (pw_or (pt_not (pt_val (pe_call GTof hr1 (by rfl) mTof kTof bTof .nil pass0 (pa_cons (pv 0) (pa_cons pe_int pa_nil))))) (pw_or1 (pt_not (pt_val (pe_call GWin hr2 (by rfl) mWin kWin bWin .nil pass0 (pa_cons (pe_ix ix_tup (pv 0) pe_int (fun _ _ => rfl)) (pa_cons pe_int (pa_cons (pe_glob (v := .int 4000) (by rfl) eL ⟨_, rfl⟩) pa_nil))))))))) (pss_one (ps_ret pe_bl)) pss_nil)
      (pss_cons (ps_asg (pv 0) (pg_tup (by rfl) (pgs_cons (pg_name (i := 1) scWeb.nd rfl (Or.inr rfl)) (pgs_cons (pg_name (i := 2) scWeb.nd rfl (Or.inr rfl)) pgs_nil))))
      (pss_cons (ps_if (PW.pt (pw_or (pt_not (pt_val (pe_call GTin hr1 (by rfl) mTin kTin bTin .nil pass0 (pa_cons (pv 2) (pa_cons pe_int (pa_cons (pe_glob (v := .int 400) (by rfl) eN ⟨_, rfl⟩) pa_nil)))))) (pw_or1 (pt_not (pt_val (pe_callB (cr_all rfl) (by rfl) T.all (by decide +kernel) (pa_cons (pe_lc (own := [("net", 3)]) (g := gName 3) (tt := tYes) (by rfl) scWeb.nd (pi_tup (pv 2)) (blkOk_by (own := [("net", 3)]) (N := ["value", "labels", "nets", "net", "edge"]) (sc := defScope sWeb) (by decide +kernel)) (fun _ _ _ _ _ => (pg_name (i := 3) scWeb.nd rfl (Or.inl rfl))) (fun _ _ _ _ _ => pts_nil) (fun _ _ _ _ _ => (pe_call GHd hr2 (by rfl) mHd kHd bHd .nil pass0 (pa_cons (pv 3) pa_nil)))) pa_nil))))))) (pss_one (ps_ret pe_bl)) pss_nil)
      (pss_cons (ps_if (PW.pt (pw_or (pt_cmpR op_gt (pe_callB (cr_sum rfl) (by rfl) hsum (by decide +kernel) (pa_cons (pe_lc (own := [("net", 3)]) (g := gName 3) (tt := tYes) (by rfl) scWeb.nd (pi_tup (pv 2)) (blkOk_by (own := [("net", 3)]) (N := ["value", "labels", "nets", "net", "edge"]) (sc := defScope sWeb) (by decide +kernel)) (fun _ _ _ _ _ => (pg_name (i := 3) scWeb.nd rfl (Or.inl rfl))) (fun _ _ _ _ _ => pts_nil) (fun _ _ _ _ _ => (pe_ix (show IxR _ (rIxT K) from ix_tup) (pv 3) pe_int (fun _ _ => rfl)))) pa_nil)) (pe_glob (v := .int 4000) (by rfl) eP ⟨_, rfl⟩) (nomark _)) (pw_or1 (pt_cmpR op_gt (pe_callB (cr_sum rfl) (by rfl) hsum (by decide +kernel) (pa_cons (pe_lc (own := [("net", 3)]) (g := gName 3) (tt := tYes) (by rfl) scWeb.nd (pi_tup (pv 2)) (blkOk_by (own := [("net", 3)]) (N := ["value", "labels", "nets", "net", "edge"]) (sc := defScope sWeb) (by decide +kernel)) (fun _ _ _ _ _ => (pg_name (i := 3) scWeb.nd rfl (Or.inl rfl))) (fun _ _ _ _ _ => pts_nil) (fun _ _ _ _ _ => (pe_callB (show CallR _ _ (rLenQ K) from call_len_seq) (by rfl) T.len PySem.boot_len (pa_cons (pe_ix (show IxR _ (rIxT K) from ix_tup) (pv 3) pe_int (fun _ _ => rfl)) pa_nil)))) pa_nil)) (pe_glob (v := .int 8000) (by rfl) eE ⟨_, rfl⟩) (nomark _))))) (pss_one (ps_ret pe_bl)) pss_nil)
      (pss_one (ps_ret (pe_callB (cr_all rfl) (by rfl) T.all (by decide +kernel) (pa_cons (pe_lc2 (own := [("net", 3), ("edge", 4)]) (vs1 := [4]) (g := gName 3) (g1 := gName 4) (tt := tYes) (tt1 := tYes) (by rfl) scWeb.nd (pi_tup (pv 2)) (blkOk_by (own := [("net", 3), ("edge", 4)]) (N := ["value", "labels", "nets", "net", "edge"]) (sc := defScope sWeb) (by decide +kernel)) (by decide) (fun _ _ _ _ _ => (pg_name (i := 3) scWeb.nd rfl (Or.inl rfl))) (fun _ _ _ _ _ => pts_nil) (fun _ _ _ _ _ => (show PI _ _ _ (iTup K _) from (pi_tup (pe_ix (show IxR _ (rIxT K) from ix_tup) (pv 3) pe_int (fun _ _ => rfl))))) (fun _ _ _ _ _ => (pg_name (i := 4) scWeb.nd rfl (Or.inl rfl))) (fun _ _ _ _ _ => pts_nil) (fun _ _ _ _ _ => (pe_call GEd hr (by rfl) mEd kEd bEd .nil pass0 (pa_cons (pv 4) (pa_cons (pe_ix (show IxR _ (rIxT K) from ix_tup) (pv 3) pe_int (fun _ _ => rfl)) (pa_cons (pe_callB (show CallR _ _ (rLenQ K) from call_len_seq) (by rfl) T.len PySem.boot_len (pa_cons (pv 2) pa_nil)) (pa_cons (pv 1) pa_nil))))))) pa_nil)))))))), ?_⟩
    refine ⟨_, rfl, g, v, d, 2, rfl, hd, fun H1 s1 => ⟨_, rfl, ?_⟩⟩
    cases h2 : lenIs 2 d with
    | false =>
      rw [web_no h2] at k
      exact iteT (k H1 s1)
    | true =>
    obtain ⟨x, y, rfl⟩ := len2 h2
    obtain ⟨b, vx, vy, rfl, eb, hx, hy⟩ := (hd.keep (Kv.of s1)).tup2
    have e0 : webB (.tup [x, y]) = (intIn 0 4000 x && netsB (intOf x) y) := rfl
    rw [e0] at k
    refine iteF ⟨_, rfl, b, _, 0, _, rfl, rfl, SqT.of eb, atI_nat (j := 0) rfl, g, vx, x, 0, 4000, rfl, hx, fun H2 s2 => ⟨_, rfl, ?_⟩⟩
    have s12 := s1.trans s2
    cases n1 : intIn 0 4000 x with
    | false =>
      rw [n1] at k
      exact iteT (k H2 s12)
    | true =>
    rw [n1] at k
    have k : ∀ H', Same H H' → Q (.bl (netsB (intOf x) y)) H' := k
    obtain ⟨lb, rfl⟩ : ∃ i, x = .int i := by
      cases x with
      | int i => exact ⟨i, rfl⟩
      | _ => cases n1
    obtain rfl := hx.int_inv
    refine iteF ⟨_, rfl, b, _, rfl, SqT.of (s2 _ _ eb), rfl, _, _, rfl, _, _, rfl, rfl, ?_⟩
    refine ⟨_, rfl, g, vy, y, 1, 400, rfl, hy.keep (Kv.of s2), fun H3 s3 => ⟨_, rfl, ?_⟩⟩
    have s13 := s12.trans s3
    have hy3 := hy.keep (Kv.of (s2.trans s3))
    -- the heads
    cases y with
    | tup ns =>
      have e1 : netsB (intOf (.int lb)) (.tup ns) = ((lenIn 1 400 (.tup ns) && ns.all headB) && ((decide ((ns.map net0).sum ≤ 4000) && decide ((ns.map fun n => ((netEs n).length : Int)).sum ≤ 8000)) && ns.all fun n => (netEs n).all (edgeB (net0 n) ns.length lb))) := rfl
      rw [e1] at k
      cases n2 : lenIn 1 400 (.tup ns) with
      | false =>
        rw [n2] at k
        exact iteT (k H3 s13)
      | true =>
      rw [n2] at k
      obtain ⟨c, xs, rfl, ec, hxl, rr⟩ := hy3.tup_inv
      refine iteF ⟨_, rfl, c, rfl, ⟨_, SqT.of ec⟩, ?_⟩
      refine lc_tupB (K := K) (f := headB) (i := 3) (vs := [3]) rr ec hxl (fun x => rfl) ?_ ?_
      · intro x d H2' R hm hx s2 hR
        exact ⟨_, rfl, g, x, d, rfl, hx, hR⟩
      intro D H4 s4 hD
      refine ⟨D, ns.map headB, rfl, sql_bl hD, _, rfl, ?_⟩
      rw [all_map]
      have s14 := s13.trans s4
      cases n3 : ns.all headB with
      | false =>
        rw [n3] at k
        exact iteT (k H4 s14)
      | true =>
      rw [n3] at k
      refine iteF ?_
      have hh : ∀ d ∈ ns, headB d = true := fun d hd => List.all_eq_true.mp n3 d hd
      have ec4 := s4 _ _ ec
      have rr4 := rr.keep (Kv.of s4)
      -- the places
      refine ⟨_, rfl, c, rfl, ⟨_, SqT.of ec4⟩, ?_⟩
      refine lc_tupG (K := K) (f := fun d => V.int (net0 d)) (i := 3) (vs := [3]) rr4 ec4 hxl (fun x => rfl) ?_ ?_
      · intro x d H2' R hm hx s2 hR
        obtain ⟨i, es, rfl, _⟩ := head_of (hh d hm)
        obtain ⟨b', vx', vy', rfl, eb', hx', _⟩ := hx.tup2
        obtain rfl := hx'.int_inv
        exact ⟨_, rfl, b', _, 0, _, rfl, rfl, SqT.of eb', atI_nat (j := 0) rfl, hR _ (Same.refl _)⟩
      intro D5 H5 s5 _ hD5
      refine ⟨D5, ns.map net0, rfl, SqL.of (by rw [List.map_map]; exact hD5), _, _, rfl, rfl, _, rfl, ?_⟩
      have s15 := s14.trans s5
      by_cases h4 : (ns.map net0).sum ≤ 4000
      rotate_left
      · rw [decide_eq_false h4] at k
        exact ifT (decide_eq_true (by omega)) (k H5 s15)
      rw [decide_eq_true h4] at k
      refine ifF (decide_eq_false (by omega)) ?_
      have ec5 := s5 _ _ ec4
      have rr5 := rr4.keep (Kv.of s5)
      -- the edges
      refine ⟨_, rfl, c, rfl, ⟨_, SqT.of ec5⟩, ?_⟩
      refine lc_tupG (K := K) (f := fun d => V.int ((netEs d).length : Int)) (i := 3) (vs := [3]) rr5 ec5 hxl (fun x => rfl) ?_ ?_
      · intro x d H2' R hm hx s2 hR
        obtain ⟨i, es, rfl, _⟩ := head_of (hh d hm)
        obtain ⟨b', vx', vy', rfl, eb', _, hy'⟩ := hx.tup2
        obtain ⟨ce, xe, rfl, ece, _, re⟩ := hy'.tup_inv
        refine ⟨_, rfl, b', _, 1, _, rfl, rfl, SqT.of eb', atI_nat (j := 1) rfl, ce, xe, rfl, .inr (SqT.of ece), ?_⟩
        have := hR H2' (Same.refl _)
        rw [show (netEs (.tup [.int i, .tup es])) = es from rfl, ← re.len] at this
        exact this
      intro D6 H6 s6 _ hD6
      refine ⟨D6, ns.map fun n => ((netEs n).length : Int), rfl, SqL.of (by rw [List.map_map]; exact hD6), _, _, rfl, rfl, _, rfl, ?_⟩
      have s16 := s15.trans s6
      by_cases h5 : (ns.map fun n => ((netEs n).length : Int)).sum ≤ 8000
      rotate_left
      · rw [decide_eq_false h5] at k
        exact ifT (decide_eq_true (by omega)) (k H6 s16)
      rw [decide_eq_true h5] at k
      refine ifF (decide_eq_false (by omega)) ?_
      have k : ∀ H', Same H H' → Q (.bl (ns.all fun n => (netEs n).all (edgeB (net0 n) ns.length lb))) H' := k
      have ec6 := s6 _ _ ec5
      have rr6 := rr5.keep (Kv.of s6)
      have hlen := rr.len
      -- each edge
      have bnd : ∀ m : List Dt, (∀ d ∈ m, headB d = true) → ((m.flatMap fun n => (netEs n).map (edgeB (net0 n) ns.length lb)).length : Int) = (m.map fun n => ((netEs n).length : Int)).sum := by
        intro m
        induction m with
        | nil => intro _; rfl
        | cons d m ih =>
          intro hm
          rw [List.flatMap_cons, List.length_append, List.length_map, List.map_cons, List.sum_cons, ← ih fun d hd => hm d (List.mem_cons_of_mem _ hd)]
          omega
      refine ⟨_, rfl, c, rfl, ⟨_, SqT.of ec6⟩, fun D7 hD7 => it_gen (walk_tup (K := K) (a := c) (xs := xs))
        (fun i H' => H' D7 = some (.lst (((ns.take i).flatMap fun n => (netEs n).map (edgeB (net0 n) ns.length lb)).map V.bl)) ∧ Same H6 H') ⟨upd_same, same_new hD7⟩ (fun i H' _ h => SqT.of (h.2 _ _ ec6)) ?_ ?_⟩
      · rintro i x _ H7 hi ⟨h7, s7⟩ ⟨rfl, hxi⟩
        obtain ⟨d, hd, hx7⟩ := rr6.at_ hxi
        have hm := List.mem_of_getElem? hd
        obtain ⟨pl, es, rfl, _⟩ := head_of (hh d hm)
        obtain ⟨b', vx', vy', rfl, eb', hx', hy'⟩ := hx7.tup2
        obtain rfl := hx'.int_inv
        obtain ⟨ce, xe, rfl, ece, hle, re⟩ := hy'.tup_inv
        refine ⟨rfl, ?_⟩
        refine ⟨_, rfl, b', _, 1, _, rfl, rfl, SqT.of (s7 _ _ eb'), atI_nat (j := 1) rfl, ce, rfl, ⟨_, SqT.of (s7 _ _ ece)⟩, it_gen (walk_tup (K := K) (a := ce) (xs := xe))
          (fun j H' => H' D7 = some (.lst ((((ns.take i).flatMap fun n => (netEs n).map (edgeB (net0 n) ns.length lb)) ++ (es.take j).map (edgeB pl ns.length lb)).map V.bl)) ∧ Same H6 H') ⟨by rw [List.take_zero, List.map_nil, List.append_nil]; exact h7, s7⟩ (fun j H' _ h => SqT.of (h.2 _ _ ece)) ?_ ?_⟩
        · rintro j y _ H8 hj ⟨h8, s8⟩ ⟨rfl, hyj⟩
          obtain ⟨e, he, hy8⟩ := re.at_ hyj
          refine ⟨rfl, ?_⟩
          refine ⟨_, rfl, _, rfl, b', _, 0, _, rfl, rfl, SqT.of (s8 _ _ eb'), atI_nat (j := 0) rfl, _, rfl, c, xs, rfl, .inr (SqT.of (s8 _ _ ec6)), _, rfl, ?_⟩
          rw [hlen]
          refine ⟨g, y, e, pl, ns.length, lb, rfl, hy8.keep (Kv.of s8), fun H9 s9 => ⟨_, s9 _ _ h8, ?_, ?_, ?_⟩⟩
          · have hb := bnd (ns.take i) fun d hd => hh d (List.mem_of_mem_take hd)
            have hall := bnd ns hh
            have hsplit : ns = ns.take i ++ ns.drop i := (List.take_append_drop i ns).symm
            rw [List.length_map, List.length_append, List.length_map, List.length_take, sizeLine_eq]
            have h9 : (((ns.take i).flatMap fun n => (netEs n).map (edgeB (net0 n) ns.length lb)).length : Int) ≤ ((ns.flatMap fun n => (netEs n).map (edgeB (net0 n) ns.length lb)).length : Int) := by
              have hq : (ns.flatMap fun n => (netEs n).map (edgeB (net0 n) ns.length lb)).length = ((ns.take i).flatMap fun n => (netEs n).map (edgeB (net0 n) ns.length lb)).length + ((ns.drop i).flatMap fun n => (netEs n).map (edgeB (net0 n) ns.length lb)).length := by
                rw [← List.length_append, ← List.flatMap_append, List.take_append_drop]
              omega
            omega
          · rw [upd_same, List.take_succ, he, List.map_append, List.map_append, List.map_append, List.map_append]
            show some (HO.lst (_ ++ _ ++ [V.bl (edgeB pl ns.length lb e)])) = _
            rw [List.append_assoc]
            rfl
          · intro b o eb
            rw [upd_ne (ne_of_none eb hD7)]
            exact s9 _ _ (s8 _ _ eb)
        · rintro H8 ⟨h8, s8⟩
          refine ⟨?_, s8⟩
          rw [h8, List.take_succ, hd, List.flatMap_append, re.len, List.take_length]
          simp [netEs, net0]
      · rintro H7 ⟨h7, s7⟩
        rw [hlen, List.take_length] at h7
        refine ⟨D7, _, rfl, SqL.of h7, ?_⟩
        have hall : (ns.flatMap fun n => (netEs n).map (edgeB (net0 n) ns.length lb)).all id = ns.all fun n => (netEs n).all (edgeB (net0 n) ns.length lb) := by
          rw [List.all_flatMap]
          congr 1
          funext n
          exact all_map
        rw [hall]
        exact k H7 (s16.trans s7)
    | _ => exact iteT (k H3 s13)
end
end K66

set_option Elab.async false
set_option linter.all false
set_option pp.maxSteps 3000
set_option maxRecDepth 100000
set_option maxHeartbeats 4000000
namespace K66
open PySem PySem.Spec PyProof.Rows L2
/-! enumerate(a tuple) -/
section
variable {P : Program} {w : World}
theorem draws_tup {A : Around} (hh : A.handled = none) (it l : Addr) (ne : l ≠ it) (items : Array Value) : Draws P w A it [it, l] items.size (fun i v => items[i]? = some v) (fun i h => h.IsTupleIter it l i ∧ h.IsTuple l items) := by
  refine ⟨fun i h ⟨⟨o, ho, _⟩, _⟩ => ⟨o, ho⟩, fun i h h' ⟨⟨o, ho, r⟩, ⟨o2, ho2, r2⟩⟩ k => ⟨⟨o, k it (by simp) o ho, r⟩, ⟨o2, k l (by simp) o2 ho2, r2⟩⟩, ?_, ?_⟩
  · intro i s Q E hi ⟨z1, z2⟩ q
    refine RZ.nextOf_tuple_item z1 z2 (Array.getElem?_eq_getElem hi) fun h' z3 sb => ?_
    refine q _ h' s.toks (Array.getElem?_eq_getElem hi) ⟨z3, ?_⟩ sb
    obtain ⟨o2, ho2, r2⟩ := z2
    exact ⟨o2, by rw [sb.2 l ne]; exact ho2, r2⟩
  · intro s Q E ⟨z1, z2⟩ q
    exact RZ.nextOf_tuple_end hh z1 z2 (by simp) q
theorem draws_end {A : Around} (hh : A.handled = none) (it l : Addr) (items : Array Value) (i : Nat) (hi : items.size ≤ i) : Draws P w A it [it, l] i (fun _ _ => True) (fun j h => j = i ∧ h.IsTupleIter it l i ∧ h.IsTuple l items) := by
  refine ⟨fun j h ⟨_, ⟨o, ho, _⟩, _⟩ => ⟨o, ho⟩, fun j h h' ⟨e, ⟨o, ho, r⟩, ⟨o2, ho2, r2⟩⟩ k => ⟨e, ⟨o, k it (by simp) o ho, r⟩, ⟨o2, k l (by simp) o2 ho2, r2⟩⟩, ?_, ?_⟩
  · intro j s Q E hj ⟨e, _⟩ q
    omega
  · intro s Q E ⟨_, z1, z2⟩ q
    exact RZ.nextOf_tuple_end hh z1 z2 (by simpa using hi) q
theorem enum_new {A : Around} {E : Value → Shared → Prop} {s : Shared} {l : Addr} {items : Array Value} {Q : Value → Shared → Prop} (hl : s.heap.IsTuple l items)
    (h : ∀ h' : Heap, IsEnum h' (s.heap.objs.size + 1) s.heap.objs.size 0 .none → h'.IsTupleIter s.heap.objs.size l 0 → h'.objs.size = s.heap.objs.size + 2 → (∀ b o, s.heap.get? b = some o → h'.get? b = some o) → Q (.ref (s.heap.objs.size + 1)) { s with heap := h' }) :
    wpAny (model P w) A (call (.type "enumerate") [.ref l]) Q E s := by
  have M : Meets (Builtin.«enumerate.__new__» { pos := [Value.type "enumerate", Value.ref l] }) fun x R s => ∃ items, s.heap.IsTuple l items ∧ R (.ok (.ret (.ref (s.heap.push { cls := .type "tuple_iterator", data := .fields #[.ref l, .int 0 0] }).objs.size)))
      { s with heap := (s.heap.push { cls := .type "tuple_iterator", data := .fields #[.ref l, .int 0 0] }).push { cls := .type "enumerate", data := .fields #[.none, .bool false, .ref s.heap.objs.size, rawInt 0, .none, .none] } } := by
    refine Meets.of_wp fun P w A R s hR => ?_
    obtain ⟨items, hl, hR⟩ := hR
    have s1 := PySem.sub_enumerate
    unfold Builtin.«enumerate.__new__»
    generalize hPI : pyIter = PI
    wp_walk
    refine wpAny_stack_any fun st => thn (Q := fun (_ : Bool) s' => s' = s) (wpAny_pure rfl) fun short s' hs => ?_
    subst hs
    cases short with
    | true =>
      wp_walk
      subst hPI
      refine wpAny_pyIter_tuple hl ?_
      wp_walk
      exact ⟨_, rfl, hR⟩
    | false =>
      wp_walk
      subst hPI
      refine wpAny_pyIter_tuple hl ?_
      wp_walk
      exact ⟨_, rfl, hR⟩
  refine callType_new PySem.F.called_enumerate (by decide) (PySem.F.typeCall_enumerate_1 _) (PySem.F.newCall_enumerate_1 _) (fun obj => PySem.F.args_object_init_2 _ _) PySem.F.entry_enumerate_new M ?_
  have sz1 : (s.heap.push { cls := .type "tuple_iterator", data := .fields #[.ref l, .int 0 0] }).objs.size = s.heap.objs.size + 1 := Heap.size_push ..
  refine ⟨items, hl, ?_⟩
  have g2 : ((s.heap.push { cls := .type "tuple_iterator", data := .fields #[.ref l, .int 0 0] }).push { cls := .type "enumerate", data := .fields #[.none, .bool false, .ref s.heap.objs.size, rawInt 0, .none, .none] }).get? (s.heap.objs.size + 1) = some { cls := .type "enumerate", data := .fields #[.none, .bool false, .ref s.heap.objs.size, rawInt 0, .none, .none] } := by
    rw [← sz1]
    exact Heap.get?_push_size _ rfl
  have g1 : ((s.heap.push { cls := .type "tuple_iterator", data := .fields #[.ref l, .int 0 0] }).push { cls := .type "enumerate", data := .fields #[.none, .bool false, .ref s.heap.objs.size, rawInt 0, .none, .none] }).get? s.heap.objs.size = some { cls := .type "tuple_iterator", data := .fields #[.ref l, .int 0 0] } := Heap.get?_push_of_some _ (Heap.get?_push_size _ rfl)
  rw [sz1]
  refine ⟨⟨_, g2, rfl⟩, h _ g2 ⟨_, g1, rfl, rfl⟩ ?_ fun b o e => Heap.get?_push_of_some _ (Heap.get?_push_of_some _ e)⟩
  rw [Heap.size_push, sz1]
def IteT (K : PySem.W.Frag) (a : Addr) : It :=
  { go := fun i H => ∃ xs x, SqT K H a xs ∧ xs[i]? = some x
    yld := fun i H v H' => ∃ T x, v = V.ref T ∧ H T = none ∧ H' = upd H T (HO.tup [V.int (i : Nat), x]) ∧ ∀ (xs : List V), SqT K H a xs → xs[i]? = some x
    stop := fun i H => ∃ xs, SqT K H a xs ∧ xs.length ≤ i }
theorem turn_enumT {K : PySem.W.Frag} {elts : List Expr} {kk : Nat} {tpos : Pos} (a e it : Addr) : Turn P w K (.Tuple elts kk tpos) (IteT K a) [e, it] e (fun i h => (∃ old, IsEnum h e it (i : Nat) old) ∧ h.IsTupleIter it a i ∧ e ≠ it) := by
  refine ⟨by simp, ?_, ?_, ?_, ?_, ?_⟩
  · rintro i h ⟨⟨old, h1⟩, ⟨o, h2, _, h3⟩, ne⟩ b hb
    simp only [List.mem_cons, List.not_mem_nil, or_false] at hb
    rcases hb with rfl | rfl
    · exact ⟨_, h1, fun v z => by cases z⟩
    · exact ⟨_, h2, fun v z => by rw [h3] at z; cases z⟩
  · rintro i h h' ⟨⟨old, h1⟩, ⟨o, h2, h3⟩, ne⟩ k
    exact ⟨⟨old, k e (by simp) _ h1⟩, ⟨o, k it (by simp) _ h2, h3⟩, ne⟩
  · rintro X rfl rfl rfl hc i pins s σ H E I fp ⟨⟨old, h1⟩, h2, ne⟩ ⟨xs, x, hq, hx⟩
    obtain ⟨its, rv, tp, hz⟩ := I.tuple hq
    obtain ⟨oa, hoa, hca, na, hda⟩ := tp
    have nea : a ≠ e := fun z => by
      rw [z, h1] at hoa
      cases hoa
      exact absurd (show Value.type "enumerate" = Value.type "tuple" from hca) (by decide)
    have neit : a ≠ it := fun z => by
      obtain ⟨o, h3, h4, _⟩ := h2
      rw [z, h3] at hoa
      cases hoa
      rw [h4] at hca
      exact absurd hca (by decide)
    have hh : X.A.in1.handled = none := I.ok.hd hc
    have W := WalksT.enumerateD (draws_tup (P := X.prog) (w := X.w) hh it a neit its.toArray) e ne (by simp only [List.mem_cons, List.not_mem_nil, or_false, not_or]; exact ⟨ne, fun z => nea z.symm⟩) (by simp)
    have hi : i < its.toArray.size := by
      have := (List.getElem?_eq_some_iff.mp hx).1
      rw [rv.length] at this
      simpa using this
    refine W.item i s _ _ hi ⟨⟨old, h1⟩, h2, ⟨oa, hoa, hca, na, hda⟩⟩ fun T vals h' tk hp hT htup hmid hk => ⟨_, rfl, ?_⟩
    obtain ⟨t, y, hy, rfl⟩ := hp
    have apT := W.apart i T h' hmid
    refine W.go elts kk tpos i T _ _ _ hmid fun h'' hst hk2 => ?_
    obtain ⟨⟨old2, k1⟩, k2, _⟩ := hst
    have hT0 : H T = none := HOk.fresh I.hok hT
    obtain ⟨y', hy', ry⟩ := rv.get hx
    have ey : y' = y := by
      rw [← Array.getElem?_toList] at hy
      have hy : its[i]? = some y := by simpa using hy
      rw [hy'] at hy
      exact Option.some.inj hy
    subst ey
    obtain ⟨oT, hoT, hcT, nT, hdT⟩ := htup
    have tupT : IsTup h'' T #[Value.int (i : Nat) t, y'] := ⟨oT, hk2 T _ apT hoT, hcT, nT, hdT⟩
    refine ⟨.ref T, upd H T (.tup [.int (i : Nat), x]), ?_, rfl, ⟨T, x, rfl, hT0, rfl, fun ys hys => ?_⟩, ⟨⟨old2, k1⟩, k2, ne⟩, fun b hb => ?_⟩
    · refine I.turnedNew (ch := [e, it]) (fun b o nb eb => hk2 b o nb (hk b o nb eb)) fp hT ?_
      refine ⟨by rw [sizeLine_eq]; show 2 ≤ 16777216; decide, [Value.int (i : Nat) t, y'], .cons ⟨t, rfl⟩ (.cons ry .nil), tupT⟩
    · rw [I.tuple_inj hys hq]
      exact hx
    · rw [upd_ne]
      · exact (fp b hb).1
      · intro z
        have hb2 := fun o (ho : s.heap.get? b = some o) => Heap.lt_size ho
        simp only [List.mem_cons, List.not_mem_nil, or_false] at hb
        rcases hb with rfl | rfl
        · exact absurd (hb2 _ h1) (Nat.not_lt.mpr (z ▸ hT))
        · obtain ⟨o, h3, _⟩ := h2
          exact absurd (hb2 _ h3) (Nat.not_lt.mpr (z ▸ hT))
  · rintro X rfl rfl rfl hc i pins s σ H E I fp ⟨⟨old, h1⟩, h2, ne⟩ ⟨xs, hq, hx⟩
    obtain ⟨its, rv, tp, hz⟩ := I.tuple hq
    obtain ⟨oa, hoa, hca, na, hda⟩ := tp
    have hlen := rv.length
    have nea : a ≠ e := fun z => by
      rw [z, h1] at hoa
      cases hoa
      exact absurd (show Value.type "enumerate" = Value.type "tuple" from hca) (by decide)
    have hh : X.A.in1.handled = none := I.ok.hd hc
    have D := draws_end (P := X.prog) (w := X.w) hh it a its.toArray i (by simp; omega)
    have W := WalksT.enumerateD D e ne (by simp only [List.mem_cons, List.not_mem_nil, or_false, not_or]; exact ⟨ne, fun z => nea z.symm⟩) (by simp)
    refine W.done s _ _ ⟨⟨old, h1⟩, rfl, h2, ⟨oa, hoa, hca, na, hda⟩⟩ fun h' tk hk => ⟨rfl, ?_⟩
    exact I.turnedL (ch := [e, it]) (fun b o nb eb => hk b o nb eb) fp
  · rintro A i s Q E ⟨⟨old, h1⟩, _, _⟩ q
    exact wpAny_pyIter_enum h1 q
end
def iEnumT (K : PySem.W.Frag) (ta : TA) : TI := fun σ H R => ta σ H fun vs H1 => ∃ a xs, vs = [.ref a] ∧ SqT K H1 a xs ∧ R (IteT K a) H1
theorem pi_enumT {X : Cx} {e : Expr} {ta : TA} {p pos tpos : Pos} {elts : List Expr} {kk : Nat} (hg : Gl X "enumerate") (hm : X.mg "enumerate" = none) (ha : PA X [e] ta) (na : starEach [e] X.env = [(false, eval e X.env)] := by rfl) :
    PI X (.Tuple elts kk tpos) (.Call (.Name "enumerate" p) [e] [] pos) (iEnumT X.K ta) := by
  constructor
  intro pins s σ H R I h
  refine Call_ (ld_blt I hg hm boot_enumerate (PyProof.Rows.callWith_type1 (thn (ha.run _ pins s σ H _ I h) fun us s1 hv => ?_) (by rw [na] <;> rfl) rfl))
  obtain ⟨vs, H1, I1, rv, a, xs, rfl, hq, hR⟩ := hv
  cases rv with
  | cons r0 r1 =>
    cases r1
    rename_i u
    obtain rfl : u = Value.ref a := r0
    obtain ⟨its, r, tp, hz⟩ := I1.tuple hq
    refine enum_new tp fun h' k1 k2 k3 k4 => ?_
    refine wpAny_pyIter_enum k1 ?_
    have I2 : Inv X pins σ H1 { s1 with heap := h' } := I1.kept (t' := s1.toks) k4
    refine ⟨s1.heap.objs.size + 1, [s1.heap.objs.size + 1, s1.heap.objs.size], _, IteT X.K a, H1, rfl, I2, turn_enumT a (s1.heap.objs.size + 1) s1.heap.objs.size, ⟨⟨_, k1⟩, k2, Nat.succ_ne_self _⟩, fun b hb => ?_, hR⟩
    have hb' : s1.heap.objs.size ≤ b := by
      simp only [List.mem_cons, List.not_mem_nil, or_false] at hb
      rcases hb with rfl | rfl
      · exact Nat.le_succ _
      · exact Nat.le_refl _
    exact I1.fpOk hb' (HOk.fresh I1.hok hb')
theorem walk_enumT {K : PySem.W.Frag} {a : Addr} {xs : List V} : Walk (IteT K a) xs.length (fun H => SqT K H a xs) (YPair (fun i => some (.int (i : Nat))) (fun i => xs[i]?)) := by
  refine ⟨fun i H hi hq => ⟨xs, xs[i], hq, List.getElem?_eq_getElem hi⟩, fun H hq => ⟨xs, hq, Nat.le_refl _⟩, fun i H x H' hi hq hy => ?_⟩
  obtain ⟨T, y, rfl, hT, rfl, k⟩ := hy
  exact ⟨T, _, y, rfl, hT, rfl, rfl, k xs hq⟩
theorem pi_or {X : Cx} {tg e : Expr} {w1 w2 : TI} (h1 : PI X tg e w1) (h2 : PI X tg e w2) : PI X tg e (fun σ H R => w1 σ H R ∨ w2 σ H R) :=
  ⟨fun pins s σ H R I h => h.elim (fun h => h1.run pins s σ H R I h) (fun h => h2.run pins s σ H R I h)⟩
structure Er (K : PySem.W.Frag) (mg : Str → Option Value) (x : Str) (C : Addr) : Prop where
  mC : mg x = some (.ref C)
  exI : PySem.W.excIn K C [.type "ValueError", .type "Exception", .type "BaseException", .type "object"] "ValueError.__new__" = true
  kC : PySem.W.keepIn K (.ref C) = true
  sub : PySem.W.subIn K (.ref C) (.type "BaseException") = some true
  ty : PySem.W.typeIn K (.ref C) = some (.type "type")
end K66

set_option Elab.async false
set_option linter.all false
set_option pp.maxSteps 900
set_option maxRecDepth 100000
set_option maxHeartbeats 4000000
namespace K66
open PySem PySem.Spec PyProof.Rows L2
open TL (tl)
/-! ### webs -/
structure Ed where
  p : Int
  t : Int
  c : Option Int
  b : Int
  l : List Int
def oI : Option Int → Dt
  | none => .non
  | some i => .int i
def oIV : Option Int → V
  | none => .non
  | some i => .int i
def edD (e : Ed) : Dt := .tup [.int e.p, .int e.t, oI e.c, .int e.b, .tup (e.l.map Dt.int)]
def ntD (n : Int × List Ed) : Dt := .tup [.int n.1, .tup (n.2.map edD)]
structure Web where
  lb : Int
  ns : List (Int × List Ed)
def wbD (W : Web) : Dt := .tup [.int W.lb, .tup (W.ns.map ntD)]
structure OkE (places nets labels : Int) (e : Ed) : Prop where
  p : 0 ≤ e.p ∧ e.p ≤ places - 2
  t : 0 ≤ e.t ∧ e.t ≤ places - 1
  c : ∀ i, e.c = some i → 0 ≤ i ∧ i ≤ nets - 1
  b : -1000000000 ≤ e.b ∧ e.b ≤ 1000000000
  l : e.l.length ≤ 8
  k : ∀ i ∈ e.l, 0 ≤ i ∧ i ≤ labels - 1
structure OkW (W : Web) : Prop where
  lb : 0 ≤ W.lb ∧ W.lb ≤ 4000
  n1 : 1 ≤ W.ns.length
  n4 : W.ns.length ≤ 400
  pos : ∀ n ∈ W.ns, 1 ≤ n.1
  sp : (W.ns.map (·.1)).sum ≤ 4000
  se : (W.ns.map fun n => (n.2.length : Int)).sum ≤ 8000
  ed : ∀ n ∈ W.ns, ∀ e ∈ n.2, OkE n.1 W.ns.length W.lb e
theorem int_in {lo hi : Int} {d : Dt} : intIn lo hi d = true ↔ ∃ i, d = .int i ∧ lo ≤ i ∧ i ≤ hi := by
  cases d with
  | int i =>
    show (decide (lo ≤ i) && decide (i ≤ hi)) = true ↔ _
    rw [Bool.and_eq_true, decide_eq_true_iff, decide_eq_true_iff]
    constructor
    · intro h
      exact ⟨i, rfl, h⟩
    · rintro ⟨j, e, h⟩
      injection e with e
      subst e
      exact h
  | _ =>
    refine ⟨(fun h => by cases h), ?_⟩
    rintro ⟨_, e, _⟩
    cases e
theorem map_dec {α : Type} {f : α → Dt} {p : α → Prop} : ∀ {ds : List Dt}, (∀ d ∈ ds, ∃ a, d = f a ∧ p a) → ∃ l : List α, ds = l.map f ∧ ∀ a ∈ l, p a
  | [], _ => ⟨[], rfl, fun a h => by cases h⟩
  | d :: ds, h => by
    obtain ⟨a, rfl, ha⟩ := h d List.mem_cons_self
    obtain ⟨l, rfl, hl⟩ := map_dec fun d hd => h d (List.mem_cons_of_mem _ hd)
    refine ⟨a :: l, rfl, fun b hb => ?_⟩
    rcases List.mem_cons.mp hb with rfl | hb
    · exact ha
    · exact hl b hb
theorem ed_dec {pl nt lb : Int} {d : Dt} (h : edgeB pl nt lb d = true) : ∃ e, d = edD e ∧ OkE pl nt lb e := by
  cases h5 : lenIs 5 d with
  | false =>
    rw [edge_no h5] at h
    cases h
  | true =>
    obtain ⟨p, t, c, b, l, rfl⟩ := len5 h5
    have h : ((intIn 0 (pl - 2) p && intIn 0 (pl - 1) t) && ((callB nt c && intIn (-1000000000) 1000000000 b) && toldB lb l)) = true := h
    simp only [Bool.and_eq_true] at h
    obtain ⟨⟨h1, h2⟩, ⟨h3, h4⟩, h6⟩ := h
    obtain ⟨p, rfl, hp⟩ := int_in.mp h1
    obtain ⟨t, rfl, ht⟩ := int_in.mp h2
    obtain ⟨b, rfl, hb⟩ := int_in.mp h4
    obtain ⟨c', rfl, hc⟩ : ∃ c', c = oI c' ∧ ∀ i, c' = some i → 0 ≤ i ∧ i ≤ nt - 1 := by
      cases c with
      | non => exact ⟨none, rfl, fun i e => by cases e⟩
      | int i =>
        obtain ⟨j, e, hj⟩ := int_in.mp (show intIn 0 (nt - 1) (.int i) = true from h3)
        injection e with e
        subst e
        exact ⟨some i, rfl, fun k e => by injection e with e; rw [← e]; exact hj⟩
      | _ => cases h3
    cases l with
    | tup ks =>
      have h6 : (decide (ks.length ≤ 8) && ks.all (intIn 0 (lb - 1))) = true := h6
      rw [Bool.and_eq_true, decide_eq_true_iff, List.all_eq_true] at h6
      obtain ⟨l, rfl, hl⟩ := map_dec (f := Dt.int) (p := fun i => 0 ≤ i ∧ i ≤ lb - 1) (ds := ks) fun d hd => int_in.mp (h6.2 d hd)
      rw [List.length_map] at h6
      exact ⟨⟨p, t, c', b, l⟩, rfl, hp, ht, hc, hb, h6.1, hl⟩
    | _ => cases h6
theorem web_dec {d : Dt} (h : webB d = true) : ∃ W, d = wbD W ∧ OkW W := by
  cases h2 : lenIs 2 d with
  | false =>
    rw [web_no h2] at h
    cases h
  | true =>
    obtain ⟨x, y, rfl⟩ := len2 h2
    have h : (intIn 0 4000 x && netsB (intOf x) y) = true := h
    rw [Bool.and_eq_true] at h
    obtain ⟨lb, rfl, hlb⟩ := int_in.mp h.1
    cases y with
    | tup ns =>
      have h := h.2
      have h : ((lenIn 1 400 (.tup ns) && ns.all headB) && ((decide ((ns.map net0).sum ≤ 4000) && decide ((ns.map fun n => ((netEs n).length : Int)).sum ≤ 8000)) && ns.all fun n => (netEs n).all (edgeB (net0 n) ns.length lb))) = true := h
      simp only [Bool.and_eq_true, decide_eq_true_iff] at h
      obtain ⟨⟨h1, h3⟩, ⟨h4, h5⟩, h6⟩ := h
      have h1 : (decide ((1 : Int) ≤ (ns.length : Int)) && decide ((ns.length : Int) ≤ 400)) = true := h1
      rw [Bool.and_eq_true, decide_eq_true_iff, decide_eq_true_iff] at h1
      obtain ⟨l, hl, hp⟩ := map_dec (f := ntD) (p := fun n => 1 ≤ n.1 ∧ ∀ e ∈ n.2, OkE n.1 ns.length lb e) (ds := ns) fun d hd => by
        obtain ⟨i, es, rfl, hi⟩ := head_of (List.all_eq_true.mp h3 d hd)
        have h7 := List.all_eq_true.mp h6 _ hd
        obtain ⟨el, rfl, he⟩ := map_dec (f := edD) (p := OkE i ns.length lb) (ds := es) fun e hm => ed_dec (List.all_eq_true.mp (show es.all (edgeB i ns.length lb) = true from h7) e hm)
        exact ⟨(i, el), rfl, hi, he⟩
      have hlen : ns.length = l.length := by rw [hl, List.length_map]
      subst hl
      have m1 : (l.map ntD).map net0 = l.map (·.1) := by
        rw [List.map_map]
        rfl
      have m2 : ((l.map ntD).map fun n => ((netEs n).length : Int)) = l.map fun n => (n.2.length : Int) := by
        rw [List.map_map]
        refine List.map_congr_left fun n _ => ?_
        show (((n.2.map edD).length : Nat) : Int) = _
        rw [List.length_map]
      rw [m1] at h4
      rw [m2] at h5
      refine ⟨⟨lb, l⟩, rfl, hlb, by show 1 ≤ l.length; omega, by show l.length ≤ 400; omega, fun n hn => (hp n hn).1, h4, h5, fun n hn e he => ?_⟩
      have := (hp n hn).2 e he
      rw [hlen] at this
      exact this
    | _ => cases h.2
def spNeed (C : Addr) : Sp := fun vs H Q Ex => ∃ (g : Addr) (v : V) (d : Dt), vs = [v] ∧ DV g H v d ∧ (webB d = true → ∀ H', Same H H' → Q .non H') ∧ (webB d = false → ∀ H', Same H H' → Ex (.ref C) none H')
section
variable {P : Program} {w : World} {K : PySem.W.Frag} {mg : Str → Option Value} {base : Heap}
theorem scNeed : FnScope ["web"] ["web"] (defScope sNeed) := ⟨rfl, rfl, rfl, by decide +kernel, rfl, by decide +kernel, by decide +kernel⟩
theorem ok_need {f C : Addr} {fd : FuncData} (F : Fun K "need_web" "need_web" sNeed f fd) (R : Er K mg "BadWeb" C) (cWeb : Cl P w K mg base "is_web" ["value"] 4 (spAsk webB)) : FnOk P w K mg base (L2.CX P w) 5 f fd ["web"] (spNeed C) := by
  obtain ⟨fWeb, fdWeb, GWeb, mWeb, kWeb, bWeb⟩ := cWeb
  refine F.okX scNeed (fun vs H Q E h => ?_) (fun cdv A outer s H vs Q Ex hr h => ?_)
  · obtain ⟨g, v, d, rfl, _⟩ := h
    rfl
  · obtain ⟨g, v, d, rfl, hd, k1, k2⟩ := h
    refine ⟨_, (pss_one (ps_if (pt_not (pt_val (pe_call GWeb hr (by rfl) mWeb kWeb bWeb .nil pass0 (pa_cons (pv 0) pa_nil)))) (pss_one (ps_raise rfl (takes_of rfl rfl rfl rfl) (pmk_own PySem.F.excBase_ValueError R.exI R.mC R.kC (raises_own R.sub R.ty) (by rfl)))) pss_nil)), ?_⟩
    refine ⟨_, rfl, g, v, d, rfl, hd, fun H1 s1 => ⟨_, rfl, ?_⟩⟩
    cases h : webB d with
    | true => exact ifF rfl (k1 h H1 s1)
    | false => exact ifT rfl (k2 h H1 s1)
end
end K66

set_option Elab.async false
set_option linter.all false
set_option pp.maxSteps 900
set_option maxRecDepth 100000
set_option maxHeartbeats 4000000
namespace K66
open PySem PySem.Spec PyProof.Rows L2
open TL (tl)
abbrev sPB : Stmt := top 24
/-! ### the place behind steps -/
def seqOf : Dt → Option (List Dt)
  | .lst l => some l
  | .tup l => some l
  | _ => none
def atD : Dt → Dt
  | .tup [a, _] => a
  | d => d
def inner (known : Nat) (ws : List Dt) (c : Int) : Dt → Bool
  | .tup [_, .int j] => decide (0 ≤ j ∧ j ≤ (known : Int) - 1) && (match ws[j.toNat]? with
    | some (.tup [.int n, _]) => decide (n = c)
    | _ => false)
  | _ => false
def stepE (es : List Ed) (ws : List Dt) (known : Nat) (pl : Int) (s : Dt) : Option Int :=
  match atD s with
  | .int k => if 0 ≤ k ∧ k ≤ (es.length : Int) - 1 then
      (match es[k.toNat]? with
        | some e => if e.p = pl then
            (match e.c with
              | none => if isTup s = true then none else some e.t
              | some c => if isTup s = true then (if inner known ws c s = true then some e.t else none) else none)
          else none
        | none => none)
    else none
  | _ => none
def pbL (es : List Ed) (ws : List Dt) (known : Nat) : List Dt → Int → Option Int
  | [], pl => some pl
  | s :: r, pl => (stepE es ws known pl s).bind (pbL es ws known r)
def pbOf (es : List Ed) (ws : List Dt) (known : Nat) (sd : Dt) (pl : Int) : Option Int :=
  match sd with
  | .tup ss => pbL es ws known ss pl
  | _ => none
def spPB : Sp := fun vs H Q _ => ∃ (g : Addr) (vw vws vword : V) (W : Web) (dws sd : Dt) (ws : List Dt) (known : Nat) (net pl : Int) (nt : Int × List Ed), vs = [vw, vws, .int (known : Nat), vword, .int pl] ∧ DV g H vw (wbD W) ∧ OkW W ∧ DV g H vws dws ∧ seqOf dws = some ws ∧
  DV g H vword (.tup [.int net, sd]) ∧ 0 ≤ net ∧ W.ns[net.toNat]? = some nt ∧ known ≤ ws.length ∧ (∀ j, j < known → ∃ (nj : Int) (sj : Dt), ws[j]? = some (.tup [.int nj, sj])) ∧ ∀ H', Same H H' → Q (oIV (pbOf nt.2 ws known sd pl)) H'
section
variable {g : Addr} {H : Hp} {v : V}
theorem wb_at {W : Web} (h : DV g H v (wbD W)) : ∃ b c xs, v = .ref b ∧ H b = some (.tup [.int W.lb, .ref c]) ∧ H c = some (.tup xs) ∧ DVs g H xs (W.ns.map ntD) := by
  obtain ⟨b, vx, vy, rfl, e, hx, hy⟩ := h.tup2
  obtain rfl := hx.int_inv
  obtain ⟨c, xs, rfl, ec, _, r⟩ := hy.tup_inv
  exact ⟨b, c, xs, rfl, e, ec, r⟩
theorem nt_at {n : Int × List Ed} (h : DV g H v (ntD n)) : ∃ b c xs, v = .ref b ∧ H b = some (.tup [.int n.1, .ref c]) ∧ H c = some (.tup xs) ∧ DVs g H xs (n.2.map edD) := by
  obtain ⟨b, vx, vy, rfl, e, hx, hy⟩ := h.tup2
  obtain rfl := hx.int_inv
  obtain ⟨c, xs, rfl, ec, _, r⟩ := hy.tup_inv
  exact ⟨b, c, xs, rfl, e, ec, r⟩
theorem oI_inv {o : Option Int} (h : DV g H v (oI o)) : v = oIV o := by
  cases o with
  | none => cases h; rfl
  | some i => exact h.int_inv
theorem ed_at {e : Ed} (h : DV g H v (edD e)) : ∃ b a, v = .ref b ∧ H b = some (.tup [.int e.p, .int e.t, oIV e.c, .int e.b, .ref a]) ∧ ∃ xs, H a = some (.tup xs) ∧ DVs g H xs (e.l.map Dt.int) := by
  obtain ⟨b, vp, vt, vc, vb, vl, rfl, eb, hp, ht, hc, hb, hl⟩ := h.tup5
  obtain rfl := hp.int_inv
  obtain rfl := ht.int_inv
  obtain rfl := hb.int_inv
  obtain rfl := oI_inv hc
  obtain ⟨a, xs, rfl, ea, _, r⟩ := hl.tup_inv
  exact ⟨b, a, rfl, eb, xs, ea, r⟩
end
theorem seq_at {K : PySem.W.Frag} {g : Addr} {H : Hp} {v : V} {d : Dt} {ws : List Dt} (h : DV g H v d) (hs : seqOf d = some ws) : ∃ a xs, v = .ref a ∧ DVs g H xs ws ∧ ws.length ≤ 20000 ∧ ∀ H', Same H H' → (SqL K H' a xs ∨ SqT K H' a xs) := by
  cases h with
  | lst e n hl r =>
    obtain rfl := Option.some.inj hs
    exact ⟨_, _, rfl, r, hl, fun H' s' => .inl (SqL.of (s' _ _ e))⟩
  | tup e hl r =>
    obtain rfl := Option.some.inj hs
    exact ⟨_, _, rfl, r, hl, fun H' s' => .inr (SqT.of (s' _ _ e))⟩
  | _ => cases hs
theorem rix_of {K : PySem.W.Frag} {H : Hp} {a : Addr} {xs : List V} {j : Int} {v : V} {Q : VK} (h : SqL K H a xs ∨ SqT K H a xs) (e : atI xs j = some v) (q : Q v H) : rIx K (.ref a) (.int j) H Q :=
  h.elim (fun h => .inl ⟨a, xs, j, v, rfl, rfl, h, e, q⟩) (fun h => .inr (.inl ⟨a, xs, j, v, rfl, rfl, h, e, q⟩))
theorem at_int {xs : List V} {j : Int} {v : V} (h0 : 0 ≤ j) (h : xs[j.toNat]? = some v) : atI xs j = some v := by
  have := atI_nat h
  rw [Int.toNat_of_nonneg h0] at this
  exact this
theorem atD_no {d : Dt} (h : lenIs 2 d = false) : atD d = d := by
  cases d with
  | tup xs =>
    match xs, h with
    | [_, _], h => cases h
    | [], _ | [_], _ | _ :: _ :: _ :: _, _ => rfl
  | _ => rfl
theorem atD_int {d : Dt} {k : Int} (h : atD d = .int k) : d = .int k ∨ ∃ y, d = .tup [.int k, y] := by
  cases h2 : lenIs 2 d with
  | true =>
    obtain ⟨x, y, rfl⟩ := len2 h2
    obtain rfl : x = .int k := h
    exact .inr ⟨y, rfl⟩
  | false =>
    rw [atD_no h2] at h
    exact .inl h
section
variable {P : Program} {w : World} {K : PySem.W.Frag} {mg : Str → Option Value} {base : Heap}
theorem scPb : FnScope ["web", "words", "known", "word", "place", "net", "steps", "edges", "step", "at", "call"] ["web", "words", "known", "word", "place"] (defScope sPB) := ⟨rfl, rfl, rfl, by decide +kernel, rfl, by decide +kernel, by decide +kernel⟩
theorem ok_pb {f : Addr} {fd : FuncData} (F : Fun K "place_behind" "place_behind" sPB f fd) (T : Bn mg) (cTof : Cl P w K mg base "is_tuple_of" ["value", "many"] 1 spTof) (cWin : Cl P w K mg base "is_within" ["value", "low", "high"] 2 spWin) :
    FnOk P w K mg base CX0 3 f fd ["web", "words", "known", "word", "place"] spPB := by
  obtain ⟨fTof, fdTof, GTof, mTof, kTof, bTof⟩ := cTof
  obtain ⟨fWin, fdWin, GWin, mWin, kWin, bWin⟩ := cWin
  refine F.ok scPb (fun vs H Q E h => ?_) (fun cdv A outer s H vs Q E hr h => ?_)
  · obtain ⟨g, a1, a2, a3, W, dws, sd, ws, known, net, pl, nt, rfl, _⟩ := h
    rfl
  · obtain ⟨g, vw, vws, vword, W, dws, sd, ws, known, net, pl0, nt, rfl, hw, okw, hws, hseq, hwd, hn0, hnt, hkn, hgood, k⟩ := h
    have hr1 : Room 1 _ := hr.mono (by decide)
    refine ⟨_, (pss_cons (ps_asg (pv 3) (pg_tup (by rfl) (pgs_cons (pg_name (i := 5) scPb.nd rfl (Or.inl rfl)) (pgs_cons (pg_name (i := 6) scPb.nd rfl (Or.inl rfl)) pgs_nil))))
      (pss_cons (ps_if (pt_not (pt_val (pe_callB call_isi (by rfl) T.isi (by decide +kernel) (pa_cons (pv 6) (pa_cons (pe_bltn (v := .ty "tuple") (by rfl) T.tpl boot_tuple rfl) pa_nil))))) (pss_one (ps_ret pe_non)) pss_nil)
      (pss_cons (ps_set (i := 7) scPb.nd rfl (Or.inl rfl) (pe_ix ix_tup (pe_ix ix_tup (pe_ix ix_tup (pv 0) pe_int (fun _ _ => rfl)) (pv 5) (fun _ _ => rfl)) pe_int (fun _ _ => rfl)))
      (pss_cons (ps_for PassesOwn.never rfl (pi_tup (pv 6)) (pg_name (i := 8) scPb.nd rfl (Or.inl rfl))
          (pss_mid (ps_set (i := 9) scPb.nd rfl (Or.inl rfl) (pe_ifExp (pt_val (pe_call GTof hr1 (by rfl) mTof kTof bTof .nil pass0 (pa_cons (pv 8) (pa_cons pe_int pa_nil)))) (pe_ix ix_tup (pv 8) pe_int (fun _ _ => rfl)) (pv 8)))
          (pss_cons (ps_if (PW.pt (pw_or (pt_not (pt_val (pe_call GWin hr (by rfl) mWin kWin bWin .nil pass0 (pa_cons (pv 9) (pa_cons pe_int (pa_cons (pe_op op_sub (pe_callB call_len_seq (by rfl) T.len PySem.boot_len (pa_cons (pv 7) pa_nil)) pe_int) pa_nil)))))) (pw_or1 (pt_cmpR op_ne (pe_ix ix_tup (pe_ix ix_tup (pv 7) (pv 9) (fun _ _ => rfl)) pe_int (fun _ _ => rfl)) (pv 4) (nomark _))))) (pss_one (ps_ret pe_non)) pss_nil)
          (pss_cons (ps_set (i := 10) scPb.nd rfl (Or.inl rfl) (pe_ix ix_tup (pe_ix ix_tup (pv 7) (pv 9) (fun _ _ => rfl)) pe_int (fun _ _ => rfl)))
          (pss_cons (ps_if (pt_cmpR op_ne (pe_callB call_isi (by rfl) T.isi (by decide +kernel) (pa_cons (pv 8) (pa_cons (pe_bltn (v := .ty "tuple") (by rfl) T.tpl boot_tuple rfl) pa_nil))) (pe_cmpR op_notN (pv 10) pe_non (nomark _)) (nomark _)) (pss_one (ps_ret pe_non)) pss_nil)
          (pss_cons (ps_if (PW.pt (pw_and (pt_cmpR op_notN (pv 10) pe_non (nomark _)) (pw_and1 (pt_not (PW.pt (pw_and (pt_val (pe_call GWin hr (by rfl) mWin kWin bWin .nil pass0 (pa_cons (pe_ix ix_tup (pv 8) pe_int (fun _ _ => rfl)) (pa_cons pe_int (pa_cons (pe_op op_sub (pv 2) pe_int) pa_nil))))) (pw_and1 (pt_cmpR op_eq (pe_ix ix_tup (pe_ix ix_seq (pv 1) (pe_ix ix_tup (pv 8) pe_int (fun _ _ => rfl)) (fun _ _ => rfl)) pe_int (fun _ _ => rfl)) (pv 10) (nomark _))))))))) (pss_one (ps_ret pe_non)) pss_nil)
          (pss_one (ps_set (i := 4) scPb.nd rfl (Or.inl rfl) (pe_ix ix_tup (pe_ix ix_tup (pv 7) (pv 9) (fun _ _ => rfl)) pe_int (fun _ _ => rfl))))))))))
      (pss_one (ps_ret (pv 4))))))), ?_⟩
    obtain ⟨bw, vn, vs_, rfl, ebw, hvn, hst⟩ := hwd.tup2
    obtain rfl := hvn.int_inv
    refine ⟨_, rfl, bw, _, rfl, SqT.of ebw, rfl, _, _, rfl, _, _, rfl, rfl, ?_⟩
    obtain ⟨t, ht, q1, q2, q3, q4⟩ := hst.ty (K := K)
    refine ⟨_, rfl, _, _, _, _, _, rfl, .ty "tuple", ht, q2, _, rfl, ?_⟩
    cases sd with
    | tup ss =>
      have k : ∀ H', Same H H' → Q (oIV (pbL nt.2 ws known ss pl0)) H' := k
      obtain ⟨st, xs, rfl, est, hls, rs⟩ := hst.tup_inv
      refine ifF rfl ?_
      obtain ⟨b0, c0, xn, rfl, eb0, ec0, rn⟩ := wb_at hw
      obtain ⟨vnt, hvnt, hnd⟩ := rn.at' (i := net.toNat) (d := ntD nt) (by rw [List.getElem?_map, hnt]; rfl)
      obtain ⟨b1, c1, xe, rfl, eb1, ec1, re⟩ := nt_at hnd
      have eix : atI xn net = some (.ref b1) := by
        have := atI_nat (xs := xn) (j := net.toNat) hvnt
        rw [Int.toNat_of_nonneg hn0] at this
        exact this
      have hle : xe.length = nt.2.length := by rw [re.len, List.length_map]
      refine ⟨_, rfl, b0, _, 1, _, rfl, rfl, SqT.of eb0, atI_nat (j := 1) rfl, _, rfl, c0, xn, net, _, rfl, rfl, SqT.of ec0, eix, b1, _, 1, _, rfl, rfl, SqT.of eb1, atI_nat (j := 1) rfl, ?_⟩
      refine ⟨_, rfl, st, rfl, ⟨_, SqT.of est⟩, for_it (walk_tup (K := K) (a := st) (xs := xs))
        (fun i σ H' => ∃ (pl : Int) (v8 v9 v10 : Option V), σ = [some (.ref b0), some vws, some (.int (known : Nat)), some (.ref bw), some (.int pl), some (.int net), some (.ref st), some (.ref c1), v8, v9, v10] ∧ Same H H' ∧ pbL nt.2 ws known ss pl0 = pbL nt.2 ws known (ss.drop i) pl)
        ⟨pl0, none, none, none, rfl, Same.refl H, rfl⟩ (fun i σ H' _ ⟨_, _, _, _, _, s1, _⟩ => SqT.of (s1 _ _ est)) ?_ ?_⟩
      · rintro i x σ H1 H1z hi ⟨pl, v8, v9, v10, rfl, s1, hpb⟩ ⟨rfl, hx⟩
        obtain ⟨sd, hsd, hxd⟩ := rs.at_ hx
        have hxd := hxd.keep (Kv.of s1)
        have hdrop : ss.drop i = sd :: ss.drop (i + 1) := by
          obtain ⟨hi', e⟩ := List.getElem?_eq_some_iff.mp hsd
          rw [List.drop_eq_getElem_cons hi', e]
        rw [hdrop] at hpb
        have hpb : pbL nt.2 ws known ss pl0 = (stepE nt.2 ws known pl sd).bind (pbL nt.2 ws known (ss.drop (i + 1))) := hpb
        refine ⟨fun σ H' => ∃ va : V, σ = [some (.ref b0), some vws, some (.int (known : Nat)), some (.ref bw), some (.int pl), some (.int net), some (.ref st), some (.ref c1), some x, some va, v10] ∧ Same H H' ∧ DV g H' va (atD sd), ?_, ?_⟩
        · refine ⟨_, rfl, g, x, sd, 2, rfl, hxd, fun H2 s2 => ⟨_, rfl, ?_⟩⟩
          have s12 := s1.trans s2
          cases h2 : lenIs 2 sd with
          | true =>
            obtain ⟨a, y, rfl⟩ := len2 h2
            obtain ⟨b', va, vy, rfl, eb', ha, _⟩ := (hxd.keep (Kv.of s2)).tup2
            exact ifT rfl ⟨_, rfl, b', _, 0, _, rfl, rfl, SqT.of eb', atI_nat (j := 0) rfl, va, rfl, s12, ha⟩
          | false =>
            refine ifF rfl ⟨_, rfl, x, rfl, s12, ?_⟩
            rw [atD_no h2]
            exact hxd.keep (Kv.of s2)
        have hxs := (rs.at_ hx)
        clear hxd
        rintro σ H2 ⟨va, rfl, s2, hva⟩
        have ec2 := s2 _ _ ec1
        refine ⟨_, rfl, _, rfl, c1, xe, rfl, .inr (SqT.of ec2), _, _, rfl, rfl, g, va, atD sd, 0, _, rfl, hva, fun H3 s3 => ⟨_, rfl, ?_⟩⟩
        have s13 := s2.trans s3
        have bad : stepE nt.2 ws known pl sd = none → ∀ H', Same H H' → Q .non H' := fun e H' s' => by
          have := k H' s'
          rw [hpb, e] at this
          exact this
        rw [hle]
        cases n1 : intIn 0 ((nt.2.length : Nat) - 1) (atD sd) with
        | false =>
          refine ifT rfl (bad ?_ H3 s13)
          unfold stepE
          cases e : atD sd with
          | int k =>
            rw [e] at n1
            show (if 0 ≤ k ∧ k ≤ (nt.2.length : Int) - 1 then _ else none) = none
            rw [if_neg]
            rintro ⟨h1, h2⟩
            have : intIn 0 ((nt.2.length : Nat) - 1) (.int k) = true := int_in.mpr ⟨k, rfl, h1, h2⟩
            rw [this] at n1
            cases n1
          | _ => rfl
        | true =>
        refine ifF rfl ?_
        obtain ⟨kk, hat, hk0, hk1⟩ := int_in.mp n1
        rw [hat] at hva
        obtain rfl := hva.int_inv
        obtain ⟨e, he⟩ : ∃ e, nt.2[kk.toNat]? = some e := ⟨nt.2[kk.toNat]'(by omega), List.getElem?_eq_getElem (by omega)⟩
        obtain ⟨ve, hve, hed⟩ := re.at' (i := kk.toNat) (d := edD e) (by rw [List.getElem?_map, he]; rfl)
        have eik := at_int hk0 hve
        obtain ⟨b2, a2, rfl, eb2, _⟩ := ed_at hed
        have estep : stepE nt.2 ws known pl sd = if e.p = pl then
            (match e.c with
              | none => if isTup sd = true then none else some e.t
              | some c => if isTup sd = true then (if inner known ws c sd = true then some e.t else none) else none)
          else none := by
          unfold stepE
          rw [hat]
          show (if 0 ≤ kk ∧ kk ≤ (nt.2.length : Int) - 1 then _ else none) = _
          rw [if_pos ⟨hk0, hk1⟩, he]
        have ec3 := s13 _ _ ec1
        have eb3 := s13 _ _ eb2
        refine ⟨_, rfl, _, rfl, c1, xe, kk, _, rfl, rfl, SqT.of ec3, eik, b2, _, 0, _, rfl, rfl, SqT.of eb3, atI_nat (j := 0) rfl, _, rfl, rfl, _, rfl, ?_⟩
        by_cases hp : e.p = pl
        rotate_left
        · rw [if_neg hp] at estep
          exact ifT (by simp [hp]) (bad estep H3 s13)
        rw [if_pos hp] at estep
        refine ifF (by simp [hp]) ?_
        refine ⟨_, rfl, _, rfl, c1, xe, kk, _, rfl, rfl, SqT.of ec3, eik, b2, _, 2, _, rfl, rfl, SqT.of eb3, atI_nat (j := 2) rfl, ?_⟩
        obtain ⟨d', hd', hxd0⟩ := hxs
        obtain rfl : sd = d' := Option.some.inj (hsd.symm.trans hd')
        have hx3 := hxd0.keep (Kv.of s13)
        obtain ⟨t2, ht2, _, w2, _, _⟩ := hx3.ty (K := K)
        refine ⟨_, rfl, _, _, _, _, _, rfl, .ty "tuple", ht2, w2, _, rfl, rfl, rfl, _, rfl, ?_⟩
        cases hc : e.c with
        | none =>
          rw [hc] at estep
          cases htu : isTup sd with
          | true =>
            rw [htu] at estep
            exact ifT rfl (bad estep H3 s13)
          | false =>
            rw [htu] at estep
            refine ifF rfl ?_
            refine ⟨_, rfl, rfl, _, rfl, ifF rfl ?_⟩
            refine ⟨_, rfl, _, rfl, c1, xe, kk, _, rfl, rfl, SqT.of ec3, eik, b2, _, 1, _, rfl, rfl, SqT.of eb3, atI_nat (j := 1) rfl, ?_⟩
            refine ⟨e.t, _, _, _, rfl, s13, ?_⟩
            rw [hpb, estep]
            rfl
        | some c =>
          rw [hc] at estep
          cases htu : isTup sd with
          | false =>
            rw [htu] at estep
            exact ifT rfl (bad estep H3 s13)
          | true =>
          rw [htu] at estep
          have estep : stepE nt.2 ws known pl sd = if inner known ws c sd = true then some e.t else none := estep
          refine ifF rfl ?_
          refine ⟨_, rfl, rfl, _, rfl, ifT rfl ?_⟩
          rcases atD_int hat with rfl | ⟨y, rfl⟩
          · cases htu
          obtain ⟨b4, v4, vy, rfl, eb4, h4, hy⟩ := hx3.tup2
          refine ⟨_, rfl, b4, _, 1, _, rfl, rfl, SqT.of eb4, atI_nat (j := 1) rfl, _, rfl, _, _, rfl, rfl, g, vy, y, 0, _, rfl, hy, fun H4 s4 => ⟨_, rfl, ?_⟩⟩
          have s14 := s13.trans s4
          cases n2 : intIn 0 ((known : Int) - 1) y with
          | false =>
            refine ifF rfl (ifT rfl (bad ?_ H4 s14))
            rw [estep, if_neg]
            intro hin
            cases y with
            | int j =>
              have hin : (decide (0 ≤ j ∧ j ≤ (known : Int) - 1) && _) = true := hin
              rw [Bool.and_eq_true, decide_eq_true_iff] at hin
              have : intIn 0 ((known : Int) - 1) (.int j) = true := int_in.mpr ⟨j, rfl, hin.1⟩
              rw [this] at n2
              cases n2
            | _ => cases hin
          | true =>
          obtain ⟨j, rfl, hj0, hj1⟩ := int_in.mp n2
          obtain rfl := hy.int_inv
          refine ifT rfl ?_
          obtain ⟨aw, xw, rfl, rw_, _, hsq⟩ := seq_at (K := K) hws hseq
          obtain ⟨nj, sj, hwj⟩ := hgood j.toNat (by omega)
          obtain ⟨vj, hvj, hdj⟩ := rw_.at' hwj
          obtain ⟨bj, v5, v6, rfl, ebj, h5, _⟩ := hdj.tup2
          obtain rfl := h5.int_inv
          have hin : inner known ws c (.tup [.int kk, .int j]) = decide (nj = c) := by
            show (decide (0 ≤ j ∧ j ≤ (known : Int) - 1) && _) = _
            rw [decide_eq_true ⟨hj0, hj1⟩, hwj]
            rfl
          refine ⟨_, rfl, _, rfl, b4, _, 1, _, rfl, rfl, SqT.of (s4 _ _ eb4), atI_nat (j := 1) rfl, rix_of (hsq _ s14) (at_int hj0 hvj) ?_⟩
          refine ⟨bj, _, 0, _, rfl, rfl, SqT.of (s14 _ _ ebj), atI_nat (j := 0) rfl, _, rfl, rfl, _, rfl, ?_⟩
          by_cases hnc : nj = c
          rotate_left
          · refine ifT (by simp [oIV, hnc]) (bad ?_ H4 s14)
            rw [estep, hin, decide_eq_false hnc, if_neg Bool.false_ne_true]
          rw [hin, decide_eq_true hnc, if_pos rfl] at estep
          refine ifF (by simp [oIV, hnc]) ?_
          refine ⟨_, rfl, _, rfl, c1, xe, kk, _, rfl, rfl, SqT.of (s14 _ _ ec1), eik, b2, _, 1, _, rfl, rfl, SqT.of (s14 _ _ eb2), atI_nat (j := 1) rfl, ?_⟩
          refine ⟨e.t, _, _, _, rfl, s14, ?_⟩
          rw [hpb, estep]
          rfl
      · rintro σ H1 ⟨pl, v8, v9, v10, rfl, s1, hpb⟩
        rw [rs.len, List.drop_length] at hpb
        rw [hpb] at k
        exact ⟨_, rfl, k H1 s1⟩
    | _ => exact ifT rfl (k H (Same.refl H))
end
end K66

set_option Elab.async false
set_option linter.all false
set_option pp.maxSteps 900
set_option maxRecDepth 100000
set_option maxHeartbeats 4000000
namespace K66
open PySem PySem.Spec PyProof.Rows L2
open TL (tl)
abbrev sAW : Stmt := top 23
abbrev sIW : Stmt := top 22
abbrev sNW : Stmt := top 25
/-! ### lists of words -/
def wB2 (W : Web) (ws : List Dt) (at_ : Nat) (sd : Dt) : Dt → Bool
  | .int n => decide (0 ≤ n ∧ n ≤ (W.ns.length : Int) - 1) && (match W.ns[n.toNat]? with
    | some nt => decide (pbOf nt.2 ws at_ sd 0 = some (nt.1 - 1))
    | none => false)
  | _ => false
def wB1 (W : Web) (ws : List Dt) (at_ : Nat) : Dt → Bool
  | .tup [a, sd] => wB2 W ws at_ sd a
  | _ => false
def wB (W : Web) (ws : List Dt) (at_ : Nat) : Bool :=
  match ws[at_]? with
  | some d => wB1 W ws at_ d
  | none => false
def wordsB (W : Web) (d : Dt) : Bool :=
  match seqOf d with
  | some ws => (List.range ws.length).all (wB W ws)
  | none => false
theorem wB1_no {W : Web} {ws : List Dt} {j : Nat} {d : Dt} (h : lenIs 2 d = false) : wB1 W ws j d = false := by
  cases d with
  | tup xs =>
    match xs, h with
    | [_, _], h => cases h
    | [], _ | [_], _ | _ :: _ :: _ :: _, _ => rfl
  | _ => rfl
theorem wB_shape {W : Web} {ws : List Dt} {j : Nat} (h : wB W ws j = true) : ∃ (n : Int) (sd : Dt) (nt : Int × List Ed), ws[j]? = some (.tup [.int n, sd]) ∧ 0 ≤ n ∧ W.ns[n.toNat]? = some nt ∧ pbOf nt.2 ws j sd 0 = some (nt.1 - 1) := by
  unfold wB at h
  cases e : ws[j]? with
  | none => rw [e] at h; cases h
  | some d =>
    rw [e] at h
    have h : wB1 W ws j d = true := h
    cases h2 : lenIs 2 d with
    | false =>
      rw [wB1_no h2] at h
      cases h
    | true =>
    obtain ⟨a, sd, rfl⟩ := len2 h2
    have h : wB2 W ws j sd a = true := h
    cases a with
    | int n =>
      have h : (decide (0 ≤ n ∧ n ≤ (W.ns.length : Int) - 1) && (match W.ns[n.toNat]? with
        | some nt => decide (pbOf nt.2 ws j sd 0 = some (nt.1 - 1))
        | none => false)) = true := h
      rw [Bool.and_eq_true, decide_eq_true_iff] at h
      cases e2 : W.ns[n.toNat]? with
      | none => rw [e2] at h; cases h.2
      | some nt =>
        rw [e2] at h
        exact ⟨n, sd, nt, rfl, h.1.1, e2, of_decide_eq_true h.2⟩
    | _ => cases h
theorem wordsB_no {W : Web} {d : Dt} {ws : List Dt} {j : Nat} (hs : seqOf d = some ws) (hj : j < ws.length) (h : wB W ws j = false) : wordsB W d = false := by
  unfold wordsB
  rw [hs]
  show (List.range ws.length).all (wB W ws) = false
  cases e : (List.range ws.length).all (wB W ws) with
  | false => rfl
  | true =>
    have := List.all_eq_true.mp e j (List.mem_range.mpr hj)
    rw [h] at this
    cases this
def spAW : Sp := fun vs H Q _ => ∃ (g : Addr) (vw vws : V) (W : Web) (d : Dt), vs = [vw, vws] ∧ DV g H vw (wbD W) ∧ OkW W ∧ DV g H vws d ∧ ∀ H', Same H H' → Q (.bl (wordsB W d)) H'
section
variable {P : Program} {w : World} {K : PySem.W.Frag} {mg : Str → Option Value} {base : Heap}
theorem scAw : FnScope ["web", "words", "at", "word", "places"] ["web", "words"] (defScope sAW) := ⟨rfl, rfl, rfl, by decide +kernel, rfl, by decide +kernel, by decide +kernel⟩
theorem ok_aw {f : Addr} {fd : FuncData} (F : Fun K "are_words" "are_words" sAW f fd) (T : Bn mg) (cLs : Cl P w K mg base "is_list" ["value"] 1 (spAsk isLst)) (cTof : Cl P w K mg base "is_tuple_of" ["value", "many"] 1 spTof) (cWin : Cl P w K mg base "is_within" ["value", "low", "high"] 2 spWin)
    (cPB : Cl P w K mg base "place_behind" ["web", "words", "known", "word", "place"] 3 spPB) : FnOk P w K mg base CX0 4 f fd ["web", "words"] spAW := by
  obtain ⟨fLs, fdLs, GLs, mLs, kLs, bLs⟩ := cLs
  obtain ⟨fTof, fdTof, GTof, mTof, kTof, bTof⟩ := cTof
  obtain ⟨fWin, fdWin, GWin, mWin, kWin, bWin⟩ := cWin
  obtain ⟨fPB, fdPB, GPB, mPB, kPB, bPB⟩ := cPB
  refine F.ok scAw (fun vs H Q E h => ?_) (fun cdv A outer s H vs Q E hr h => ?_)
  · obtain ⟨g, a1, a2, W, d, rfl, _⟩ := h
    rfl
  · obtain ⟨g, vw, vws, W, d, rfl, hw, okw, hws, k⟩ := h
    have hr1 : Room 1 _ := hr.mono (by decide)
    have hr2 : Room 2 _ := hr.mono (by decide)
    refine ⟨_, (pss_cons (ps_if (pt_not (pt_val (pe_call GLs hr1 (by rfl) mLs kLs bLs .nil pass0 (pa_cons (pv 1) pa_nil)))) (pss_one (ps_ret pe_bl)) pss_nil)
      (pss_cons (ps_for PassesOwn.never rfl (pi_or (pi_enum (by rfl) T.enu (pa_cons (pv 1) pa_nil)) (pi_enumT (by rfl) T.enu (pa_cons (pv 1) pa_nil))) (pg_tup (by rfl) (pgs_cons (pg_name (i := 2) scAw.nd rfl (Or.inl rfl)) (pgs_cons (pg_name (i := 3) scAw.nd rfl (Or.inl rfl)) pgs_nil)))
          (pss_cons (ps_if (PW.pt (pw_or (pt_not (pt_val (pe_call GTof hr1 (by rfl) mTof kTof bTof .nil pass0 (pa_cons (pv 3) (pa_cons pe_int pa_nil))))) (pw_or1 (pt_not (pt_val (pe_call GWin hr2 (by rfl) mWin kWin bWin .nil pass0 (pa_cons (pe_ix ix_tup (pv 3) pe_int (fun _ _ => rfl)) (pa_cons pe_int (pa_cons (pe_op op_sub (pe_callB call_len_seq (by rfl) T.len PySem.boot_len (pa_cons (pe_ix ix_tup (pv 0) pe_int (fun _ _ => rfl)) pa_nil)) pe_int) pa_nil))))))))) (pss_one (ps_ret pe_bl)) pss_nil)
          (pss_cons (ps_set (i := 4) scAw.nd rfl (Or.inl rfl) (pe_ix ix_tup (pe_ix ix_tup (pe_ix ix_tup (pv 0) pe_int (fun _ _ => rfl)) (pe_ix ix_tup (pv 3) pe_int (fun _ _ => rfl)) (fun _ _ => rfl)) pe_int (fun _ _ => rfl)))
          (pss_one (ps_if (pt_cmpR op_ne (pe_call GPB hr (by rfl) mPB kPB bPB .nil pass0 (pa_cons (pv 0) (pa_cons (pv 1) (pa_cons (pv 2) (pa_cons (pv 3) (pa_cons pe_int pa_nil)))))) (pe_op op_sub (pv 4) pe_int) (nomark _)) (pss_one (ps_ret pe_bl)) pss_nil)))))
      (pss_one (ps_ret pe_bl)))), ?_⟩
    refine ⟨_, rfl, g, vws, d, rfl, hws, fun H1 s1 => ⟨_, rfl, ?_⟩⟩
    obtain ⟨b0, c0, xn, rfl, eb0, ec0, rn⟩ := wb_at hw
    have hln : xn.length = W.ns.length := by rw [rn.len, List.length_map]
    have hw' : DV g H (.ref b0) (wbD W) := hw
    have hws1 := hws.keep (Kv.of s1)
    cases hd : seqOf d with
    | none =>
      have e1 : isLst d = false := by
        cases d <;> first | rfl | cases hd
      have e2 : wordsB W d = false := by
        unfold wordsB
        rw [hd]
      rw [e1]
      rw [e2] at k
      exact ifT rfl (k H1 s1)
    | some ws =>
    have e1 : isLst d = true := by
      cases d <;> first | rfl | cases hd
    rw [e1]
    refine ifF rfl ?_
    have bad : ∀ j, j < ws.length → wB W ws j = false → ∀ H', Same H H' → Q (.bl false) H' := fun j hj h H' s' => by
      have := k H' s'
      rw [wordsB_no hd hj h] at this
      exact this
    have good : (∀ j, j < ws.length → wB W ws j = true) → ∀ H', Same H H' → Q (.bl true) H' := fun h H' s' => by
      have := k H' s'
      rw [show wordsB W d = true by unfold wordsB; rw [hd]; exact List.all_eq_true.mpr fun j hj => h j (List.mem_range.mp hj)] at this
      exact this
    cases hws1 with
    | @lst a xs ds e n hl r =>
      obtain rfl : ds = ws := Option.some.inj hd
      refine .inl ⟨_, rfl, a, xs, rfl, SqL.of e, for_it (walk_enum (K := K) (a := a) (xs := xs)) (fun i σ H' => ∃ (v2 v3 v4 : Option V), σ = [some (.ref b0), some (.ref a), v2, v3, v4] ∧ Same H1 H' ∧ ∀ j, j < i → wB W ds j = true)
        ⟨none, none, none, rfl, Same.refl H1, fun j hj => absurd hj (Nat.not_lt_zero _)⟩ (fun i σ H' _ ⟨_, _, _, _, s2, _⟩ => SqL.of (s2 _ _ e)) ?_ ?_⟩
      · rintro i v2 σ H2 H2' hi ⟨v2', v3, v4, rfl, s2, hal⟩ ⟨T0, x, y, rfl, hT, rfl, hx, hy⟩
        obtain rfl := Option.some.inj hx
        have sT := same_new (o := .tup [V.int (i : Nat), y]) hT
        generalize hH3 : upd H2 T0 _ = H3
        have eT : H3 T0 = some (.tup [V.int (i : Nat), y]) := by rw [← hH3, upd_same]
        have s23 : Same H2 H3 := by rw [← hH3]; exact sT
        obtain ⟨d0, hd0, hdv⟩ := r.at_ hy
        have hi' : i < ds.length := (List.getElem?_eq_some_iff.mp hd0).1
        refine ⟨T0, _, rfl, SqT.of eT, (by rfl), _, _, rfl, _, _, rfl, rfl, ?_⟩
        have s13 := s2.trans s23
        have s03 := s1.trans s13
        have hy3 := hdv.keep (Kv.of s13)
        refine ⟨_, rfl, g, y, d0, 2, rfl, hy3, fun H4 s4 => ⟨_, rfl, ?_⟩⟩
        have s04 := s03.trans s4
        have hbad : wB W ds i = false → ∀ H', Same H H' → Q (.bl false) H' := bad i hi'
        unfold wB at hbad
        rw [hd0] at hbad
        have hbad : wB1 W ds i d0 = false → ∀ H', Same H H' → Q (.bl false) H' := hbad
        cases h2 : lenIs 2 d0 with
        | false =>
          exact ifT rfl (hbad (wB1_no h2) H4 s04)
        | true =>
        refine ifF rfl ?_
        obtain ⟨p, q, rfl⟩ := len2 h2
        obtain ⟨b1, vp, vq, rfl, eb1, hp, hq⟩ := (hy3.keep (Kv.of s4)).tup2
        have eb0' := s04 _ _ eb0
        have ec0' := s04 _ _ ec0
        refine ⟨_, rfl, b1, _, 0, _, rfl, rfl, SqT.of eb1, atI_nat (j := 0) rfl, _, rfl, b0, _, 1, _, rfl, rfl, SqT.of eb0', atI_nat (j := 1) rfl, c0, xn, rfl, .inr (SqT.of ec0'), _, _, rfl, rfl, g, vp, p, 0, _, rfl, hp, fun H5 s5 => ⟨_, rfl, ?_⟩⟩
        have s05 := s04.trans s5
        rw [hln]
        cases n1 : intIn 0 ((W.ns.length : Nat) - 1) p with
        | false =>
          refine ifT rfl (hbad ?_ H5 s05)
          cases p with
          | int n =>
            show (decide (0 ≤ n ∧ n ≤ (W.ns.length : Int) - 1) && _) = false
            rw [decide_eq_false]
            · rfl
            · intro h
              have : intIn 0 ((W.ns.length : Nat) - 1) (.int n) = true := int_in.mpr ⟨n, rfl, h⟩
              rw [this] at n1
              cases n1
          | _ => rfl
        | true =>
        obtain ⟨nn, rfl, hn0, hn1⟩ := int_in.mp n1
        obtain rfl := hp.int_inv
        refine ifF rfl ?_
        obtain ⟨nt, hnt⟩ : ∃ nt, W.ns[nn.toNat]? = some nt := ⟨W.ns[nn.toNat]'(by omega), List.getElem?_eq_getElem (by omega)⟩
        obtain ⟨vnt, hvnt, hnd⟩ := rn.at' (i := nn.toNat) (d := ntD nt) (by rw [List.getElem?_map, hnt]; rfl)
        obtain ⟨b3, c3, xe, rfl, eb3, _, _⟩ := nt_at hnd
        refine ⟨_, rfl, b0, _, 1, _, rfl, rfl, SqT.of (s05 _ _ eb0), atI_nat (j := 1) rfl, _, rfl, b1, _, 0, _, rfl, rfl, SqT.of (s5 _ _ eb1), atI_nat (j := 0) rfl, c0, xn, nn, _, rfl, rfl, SqT.of (s05 _ _ ec0), at_int hn0 hvnt, b3, _, 0, _, rfl, rfl, SqT.of (s05 _ _ eb3), atI_nat (j := 0) rfl, ?_⟩
        refine ⟨_, rfl, _, rfl, _, rfl, _, rfl, g, .ref b0, .ref a, .ref b1, W, (.lst ds), q, ds, i, nn, 0, nt, rfl, hw'.keep (Kv.of s05), okw, hws.keep (Kv.of s05), rfl, ?_, hn0, hnt, by omega, ?_, fun H6 s6 => ?_⟩
        · exact .tup (s5 _ _ eb1) (by show 2 ≤ 20000; decide) (.cons (.int _) (.cons (hq.keep (Kv.of s5)) .nil))
        · intro j hj
          obtain ⟨n', sd', nt', h', _⟩ := wB_shape (hal j hj)
          exact ⟨n', sd', h'⟩
        have s06 := s05.trans s6
        have hwi : wB W ds i = decide (pbOf nt.2 ds i q 0 = some (nt.1 - 1)) := by
          unfold wB
          rw [hd0]
          show (decide (0 ≤ nn ∧ nn ≤ (W.ns.length : Int) - 1) && _) = _
          rw [decide_eq_true ⟨hn0, hn1⟩, hnt]
          rfl
        have hval : decide (oIV (pbOf nt.2 ds i q 0) = V.int (nt.1 - 1)) = decide (pbOf nt.2 ds i q 0 = some (nt.1 - 1)) := by
          rw [decide_eq_decide]
          cases pbOf nt.2 ds i q 0 with
          | none => exact ⟨(fun h => by cases h), (fun h => by cases h)⟩
          | some z => exact ⟨(fun h => by injection h with h; rw [h]), (fun h => by injection h with h; rw [h]; rfl)⟩
        have hscal : scal (oIV (pbOf nt.2 ds i q 0)) (V.int (nt.1 - 1)) = true := by
          cases pbOf nt.2 ds i q 0 <;> rfl
        refine ⟨_, rfl, _, _, rfl, rfl, hscal, _, rfl, ?_⟩
        rw [hval, ← hwi]
        cases hb : wB W ds i with
        | false => exact ifT rfl (bad i hi' hb H6 s06)
        | true =>
          refine ifF rfl ⟨_, _, _, rfl, s13.trans (s4.trans (s5.trans s6)), fun j hj => ?_⟩
          rcases Nat.lt_succ_iff_lt_or_eq.mp hj with h | rfl
          · exact hal j h
          · exact hb
      · rintro σ H2 ⟨v2, v3, v4, rfl, s2, hal⟩
        rw [r.len] at hal
        exact good hal H2 (s1.trans s2)
    | @tup a xs ds e hl r =>
      obtain rfl : ds = ws := Option.some.inj hd
      refine .inr ⟨_, rfl, a, xs, rfl, SqT.of e, for_it (walk_enumT (K := K) (a := a) (xs := xs)) (fun i σ H' => ∃ (v2 v3 v4 : Option V), σ = [some (.ref b0), some (.ref a), v2, v3, v4] ∧ Same H1 H' ∧ ∀ j, j < i → wB W ds j = true)
        ⟨none, none, none, rfl, Same.refl H1, fun j hj => absurd hj (Nat.not_lt_zero _)⟩ (fun i σ H' _ ⟨_, _, _, _, s2, _⟩ => SqT.of (s2 _ _ e)) ?_ ?_⟩
      · rintro i v2 σ H2 H2' hi ⟨v2', v3, v4, rfl, s2, hal⟩ ⟨T0, x, y, rfl, hT, rfl, hx, hy⟩
        obtain rfl := Option.some.inj hx
        have sT := same_new (o := .tup [V.int (i : Nat), y]) hT
        generalize hH3 : upd H2 T0 _ = H3
        have eT : H3 T0 = some (.tup [V.int (i : Nat), y]) := by rw [← hH3, upd_same]
        have s23 : Same H2 H3 := by rw [← hH3]; exact sT
        obtain ⟨d0, hd0, hdv⟩ := r.at_ hy
        have hi' : i < ds.length := (List.getElem?_eq_some_iff.mp hd0).1
        refine ⟨T0, _, rfl, SqT.of eT, (by rfl), _, _, rfl, _, _, rfl, rfl, ?_⟩
        have s13 := s2.trans s23
        have s03 := s1.trans s13
        have hy3 := hdv.keep (Kv.of s13)
        refine ⟨_, rfl, g, y, d0, 2, rfl, hy3, fun H4 s4 => ⟨_, rfl, ?_⟩⟩
        have s04 := s03.trans s4
        have hbad : wB W ds i = false → ∀ H', Same H H' → Q (.bl false) H' := bad i hi'
        unfold wB at hbad
        rw [hd0] at hbad
        have hbad : wB1 W ds i d0 = false → ∀ H', Same H H' → Q (.bl false) H' := hbad
        cases h2 : lenIs 2 d0 with
        | false =>
          exact ifT rfl (hbad (wB1_no h2) H4 s04)
        | true =>
        refine ifF rfl ?_
        obtain ⟨p, q, rfl⟩ := len2 h2
        obtain ⟨b1, vp, vq, rfl, eb1, hp, hq⟩ := (hy3.keep (Kv.of s4)).tup2
        have eb0' := s04 _ _ eb0
        have ec0' := s04 _ _ ec0
        refine ⟨_, rfl, b1, _, 0, _, rfl, rfl, SqT.of eb1, atI_nat (j := 0) rfl, _, rfl, b0, _, 1, _, rfl, rfl, SqT.of eb0', atI_nat (j := 1) rfl, c0, xn, rfl, .inr (SqT.of ec0'), _, _, rfl, rfl, g, vp, p, 0, _, rfl, hp, fun H5 s5 => ⟨_, rfl, ?_⟩⟩
        have s05 := s04.trans s5
        rw [hln]
        cases n1 : intIn 0 ((W.ns.length : Nat) - 1) p with
        | false =>
          refine ifT rfl (hbad ?_ H5 s05)
          cases p with
          | int n =>
            show (decide (0 ≤ n ∧ n ≤ (W.ns.length : Int) - 1) && _) = false
            rw [decide_eq_false]
            · rfl
            · intro h
              have : intIn 0 ((W.ns.length : Nat) - 1) (.int n) = true := int_in.mpr ⟨n, rfl, h⟩
              rw [this] at n1
              cases n1
          | _ => rfl
        | true =>
        obtain ⟨nn, rfl, hn0, hn1⟩ := int_in.mp n1
        obtain rfl := hp.int_inv
        refine ifF rfl ?_
        obtain ⟨nt, hnt⟩ : ∃ nt, W.ns[nn.toNat]? = some nt := ⟨W.ns[nn.toNat]'(by omega), List.getElem?_eq_getElem (by omega)⟩
        obtain ⟨vnt, hvnt, hnd⟩ := rn.at' (i := nn.toNat) (d := ntD nt) (by rw [List.getElem?_map, hnt]; rfl)
        obtain ⟨b3, c3, xe, rfl, eb3, _, _⟩ := nt_at hnd
        refine ⟨_, rfl, b0, _, 1, _, rfl, rfl, SqT.of (s05 _ _ eb0), atI_nat (j := 1) rfl, _, rfl, b1, _, 0, _, rfl, rfl, SqT.of (s5 _ _ eb1), atI_nat (j := 0) rfl, c0, xn, nn, _, rfl, rfl, SqT.of (s05 _ _ ec0), at_int hn0 hvnt, b3, _, 0, _, rfl, rfl, SqT.of (s05 _ _ eb3), atI_nat (j := 0) rfl, ?_⟩
        refine ⟨_, rfl, _, rfl, _, rfl, _, rfl, g, .ref b0, .ref a, .ref b1, W, (.tup ds), q, ds, i, nn, 0, nt, rfl, hw'.keep (Kv.of s05), okw, hws.keep (Kv.of s05), rfl, ?_, hn0, hnt, by omega, ?_, fun H6 s6 => ?_⟩
        · exact .tup (s5 _ _ eb1) (by show 2 ≤ 20000; decide) (.cons (.int _) (.cons (hq.keep (Kv.of s5)) .nil))
        · intro j hj
          obtain ⟨n', sd', nt', h', _⟩ := wB_shape (hal j hj)
          exact ⟨n', sd', h'⟩
        have s06 := s05.trans s6
        have hwi : wB W ds i = decide (pbOf nt.2 ds i q 0 = some (nt.1 - 1)) := by
          unfold wB
          rw [hd0]
          show (decide (0 ≤ nn ∧ nn ≤ (W.ns.length : Int) - 1) && _) = _
          rw [decide_eq_true ⟨hn0, hn1⟩, hnt]
          rfl
        have hval : decide (oIV (pbOf nt.2 ds i q 0) = V.int (nt.1 - 1)) = decide (pbOf nt.2 ds i q 0 = some (nt.1 - 1)) := by
          rw [decide_eq_decide]
          cases pbOf nt.2 ds i q 0 with
          | none => exact ⟨(fun h => by cases h), (fun h => by cases h)⟩
          | some z => exact ⟨(fun h => by injection h with h; rw [h]), (fun h => by injection h with h; rw [h]; rfl)⟩
        have hscal : scal (oIV (pbOf nt.2 ds i q 0)) (V.int (nt.1 - 1)) = true := by
          cases pbOf nt.2 ds i q 0 <;> rfl
        refine ⟨_, rfl, _, _, rfl, rfl, hscal, _, rfl, ?_⟩
        rw [hval, ← hwi]
        cases hb : wB W ds i with
        | false => exact ifT rfl (bad i hi' hb H6 s06)
        | true =>
          refine ifF rfl ⟨_, _, _, rfl, s13.trans (s4.trans (s5.trans s6)), fun j hj => ?_⟩
          rcases Nat.lt_succ_iff_lt_or_eq.mp hj with h | rfl
          · exact hal j h
          · exact hb
      · rintro σ H2 ⟨v2, v3, v4, rfl, s2, hal⟩
        rw [r.len] at hal
        exact good hal H2 (s1.trans s2)
    | _ => cases hd
end
end K66

set_option Elab.async false
set_option linter.all false
set_option pp.maxSteps 900
set_option maxRecDepth 100000
set_option maxHeartbeats 4000000
namespace K66
open PySem PySem.Spec PyProof.Rows L2
open TL (tl)
theorem purs_map {α : Type} {f : α → Dt} : ∀ {l : List α}, (∀ a ∈ l, pur (f a) = true) → purs (l.map f) = true
  | [], _ => rfl
  | a :: l, h => by
    show (pur (f a) && purs (l.map f)) = true
    rw [h a List.mem_cons_self, purs_map fun b hb => h b (List.mem_cons_of_mem _ hb)]
    rfl
theorem deps_map {α : Type} {f : α → Dt} {k : Nat} {l : List α} (h : ∀ a ∈ l, dep (f a) ≤ k) : deps (l.map f) ≤ k := deps_le fun d hd => by
  obtain ⟨a, ha, rfl⟩ := List.mem_map.mp hd
  exact h a ha
abbrev sSA : Stmt := top 27
def spIW (C : Addr) : Sp := fun vs H Q Ex => ∃ (g : Addr) (vw vws : V) (dw d : Dt), vs = [vw, vws] ∧ DV g H vw dw ∧ DV g H vws d ∧ (∀ W, dw = wbD W → OkW W → ∀ H', Same H H' → Q (.bl (wordsB W d)) H') ∧ (webB dw = false → ∀ H', Same H H' → Ex (.ref C) none H')
def spNWd (C : Addr) : Sp := fun vs H Q Ex => ∃ (g : Addr) (vw vws : V) (W : Web) (d : Dt), vs = [vw, vws] ∧ DV g H vw (wbD W) ∧ OkW W ∧ DV g H vws d ∧ (wordsB W d = true → ∀ H', Same H H' → Q .non H') ∧ (wordsB W d = false → ∀ H', Same H H' → Ex (.ref C) none H')
/-- a step's edge, and its word -/
def apD : Dt → Dt
  | .tup l => .tup l
  | d => .tup [d, .non]
def spSA : Sp := fun vs H Q _ => ∃ (g : Addr) (v : V) (ss : List Dt), vs = [v] ∧ DV g H v (.tup ss) ∧ purs ss = true ∧ ∀ (D : Addr) (ys : List V) (H' : Hp), Same H H' → H D = none → H' D = some (.lst ys) → (∀ g', DVs g' H' ys (ss.map apD)) → Q (.ref D) H'
theorem ap_pur {d : Dt} (h : pur d = true) : pur (apD d) = true := by
  cases d with
  | tup l => exact h
  | lst l => cases h
  | dic => cases h
  | str s => exact (Bool.and_eq_true _ _).mpr ⟨h, rfl⟩
  | _ => rfl
section
variable {P : Program} {w : World} {K : PySem.W.Frag} {mg : Str → Option Value} {base : Heap}
theorem scIw : FnScope ["web", "words"] ["web", "words"] (defScope sIW) := ⟨rfl, rfl, rfl, by decide +kernel, rfl, by decide +kernel, by decide +kernel⟩
theorem ok_iw {f C : Addr} {fd : FuncData} (F : Fun K "is_words" "is_words" sIW f fd) (cNeed : ClX (L2.CX P w) P w K mg base "need_web" ["web"] 5 (spNeed C)) (cAW : Cl P w K mg base "are_words" ["web", "words"] 4 spAW) : FnOk P w K mg base (L2.CX P w) 6 f fd ["web", "words"] (spIW C) := by
  obtain ⟨fNeed, fdNeed, GNeed, mNeed, kNeed, bNeed⟩ := cNeed
  obtain ⟨fAW, fdAW, GAW, mAW, kAW, bAW⟩ := cAW
  refine F.okX scIw (fun vs H Q E h => ?_) (fun cdv A outer s H vs Q Ex hr h => ?_)
  · obtain ⟨g, a, b, c, d, rfl, _⟩ := h
    rfl
  · obtain ⟨g, vw, vws, dw, d, rfl, hw, hws, k1, k2⟩ := h
    have hr4 : Room 4 _ := hr.mono (by decide)
    refine ⟨_, (pss_cons (ps_expr (pe_call GNeed hr (by rfl) mNeed kNeed bNeed .nil (passes_call (takes_of rfl rfl rfl rfl) (fun _ _ _ _ h => h)) (pa_cons (pv 0) pa_nil)))
      (pss_one (ps_ret (pe_call GAW hr4 (by rfl) mAW kAW bAW .nil pass0 (pa_cons (pv 0) (pa_cons (pv 1) pa_nil)))))), ?_⟩
    refine ⟨_, rfl, g, vw, dw, rfl, hw, fun hb H1 s1 => ?_, fun hb H1 s1 => k2 hb H1 s1⟩
    obtain ⟨W, rfl, okw⟩ := web_dec hb
    exact ⟨_, rfl, _, rfl, g, vw, vws, W, d, rfl, hw.keep (Kv.of s1), okw, hws.keep (Kv.of s1), fun H2 s2 => k1 W rfl okw H2 (s1.trans s2)⟩
theorem scNwd : FnScope ["web", "words"] ["web", "words"] (defScope sNW) := ⟨rfl, rfl, rfl, by decide +kernel, rfl, by decide +kernel, by decide +kernel⟩
theorem ok_nwd {f C : Addr} {fd : FuncData} (F : Fun K "need_words" "need_words" sNW f fd) (R : Er K mg "BadWords" C) (cAW : Cl P w K mg base "are_words" ["web", "words"] 4 spAW) : FnOk P w K mg base (L2.CX P w) 5 f fd ["web", "words"] (spNWd C) := by
  obtain ⟨fAW, fdAW, GAW, mAW, kAW, bAW⟩ := cAW
  refine F.okX scNwd (fun vs H Q E h => ?_) (fun cdv A outer s H vs Q Ex hr h => ?_)
  · obtain ⟨g, a, b, c, d, rfl, _⟩ := h
    rfl
  · obtain ⟨g, vw, vws, W, d, rfl, hw, okw, hws, k1, k2⟩ := h
    refine ⟨_, (pss_one (ps_if (pt_not (pt_val (pe_call GAW hr (by rfl) mAW kAW bAW .nil pass0 (pa_cons (pv 0) (pa_cons (pv 1) pa_nil))))) (pss_one (ps_raise rfl (takes_of rfl rfl rfl rfl) (pmk_own PySem.F.excBase_ValueError R.exI R.mC R.kC (raises_own R.sub R.ty) (by rfl)))) pss_nil)), ?_⟩
    refine ⟨_, rfl, _, rfl, g, vw, vws, W, d, rfl, hw, okw, hws, fun H1 s1 => ⟨_, rfl, ?_⟩⟩
    cases h : wordsB W d with
    | true => exact ifF rfl (k1 h H1 s1)
    | false => exact ifT rfl (k2 h H1 s1)
theorem scSa : FnScope ["steps", "step"] ["steps"] (defScope sSA) := ⟨rfl, rfl, rfl, by decide +kernel, rfl, by decide +kernel, by decide +kernel⟩
theorem ok_sa {f : Addr} {fd : FuncData} (F : Fun K "steps_apart" "steps_apart" sSA f fd) (T : Bn mg) : FnOk P w K mg base CX0 1 f fd ["steps"] spSA := by
  refine F.ok scSa (fun vs H Q E h => ?_) (fun cdv A outer s H vs Q E hr h => ?_)
  · obtain ⟨g, v, ss, rfl, _⟩ := h
    rfl
  · obtain ⟨g, v, ss, rfl, hd, hpu, k⟩ := h
    refine ⟨_, (pss_one (ps_ret (pe_lc (own := [("step", 1)]) (g := gName 1) (tt := tYes) (by rfl) scSa.nd (pi_tup (pv 0)) (blkOk_by (own := [("step", 1)]) (N := ["steps", "step"]) (sc := defScope sSA) (by decide +kernel)) (fun _ _ _ _ _ => (pg_name (i := 1) scSa.nd rfl (Or.inl rfl))) (fun _ _ _ _ _ => pts_nil) (fun _ _ _ _ _ => (pe_ifExp (pt_val (pe_callB (show CallR _ _ (rIsi K) from call_isi) (by rfl) T.isi (by decide +kernel) (pa_cons (pv 1) (pa_cons (pe_bltn (v := .ty "tuple") (by rfl) T.tpl boot_tuple rfl) pa_nil)))) (pv 1) (pe_tup (pa_cons (pv 1) (pa_cons pe_non pa_nil)))))))), ?_⟩
    obtain ⟨st, xs, rfl, est, hl, r⟩ := hd.tup_inv
    have hlen := r.len
    refine ⟨_, rfl, st, rfl, ⟨_, SqT.of est⟩, fun D hD => lc_it (walk_tup (K := K) (a := st) (xs := xs)) (fun i H' => ∃ ys, H' D = some (.lst ys) ∧ (∀ g', DVs g' H' ys ((ss.take i).map apD)) ∧ Same H H' ∧ ∀ j, j < i → True) ⟨[], upd_same, fun _ => .nil, same_new hD, fun _ _ => trivial⟩ (fun _ _ _ ⟨_, _, _, s1, _⟩ => SqT.of (s1 _ _ est)) ?_ ?_⟩
    · rintro i x H1 H1z hi ⟨ys, e1, r1, s1, _⟩ ⟨rfl, hx⟩
      obtain ⟨d, hd, hxd⟩ := r.at_ hx
      have hxd := hxd.keep (Kv.of s1)
      refine ⟨rfl, ?_⟩
      obtain ⟨t, ht, q1, q2, q3, q4⟩ := hxd.ty (K := K)
      refine ⟨_, rfl, _, _, _, _, _, rfl, .ty "tuple", ht, q2, _, rfl, ?_⟩
      have hpd : pur d = true := purs_mem hpu (List.mem_of_getElem? hd)
      have hap : purs ((ss.take i).map apD) = true := purs_map fun a ha => ap_pur (purs_mem hpu (List.mem_of_mem_take ha))
      have hys : ys.length ≤ 20000 := by
        rw [(r1 0).len, List.length_map, List.length_take]
        omega
      have fin : ∀ (v : V) (H2 : Hp), Same H1z H2 → (∀ g', DV g' H2 v (apD d)) → ∃ acc, H2 D = some (HO.lst acc) ∧ acc.length < sizeLine ∧ ∃ ys, upd H2 D (HO.lst (acc ++ [v])) D = some (HO.lst ys) ∧ (∀ g', DVs g' (upd H2 D (HO.lst (acc ++ [v]))) ys ((ss.take (i + 1)).map apD)) ∧ Same H (upd H2 D (HO.lst (acc ++ [v]))) ∧ ∀ j, j < i + 1 → True := by
        intro v H2 s2 hv
        have e2 := s2 _ _ e1
        have kt : Kt H2 (upd H2 D (HO.lst (ys ++ [v]))) := Kt.put e2
        refine ⟨ys, e2, by rw [sizeLine_eq]; omega, ys ++ [v], upd_same, fun g' => ?_, ?_, fun _ _ => trivial⟩
        · rw [List.take_succ, hd, List.map_append]
          exact DVs.app (DVs.keepP (g := 0) kt hap ((r1 0).keep (Kv.of s2))) (.cons (DV.keepP (g := 0) kt (ap_pur hpd) (hv 0)) .nil)
        · intro b o eb
          rw [upd_ne (ne_of_none eb hD)]
          exact s2 _ _ (s1 _ _ eb)
      cases d with
      | tup l => exact ifT rfl ⟨_, rfl, fin x H1z (Same.refl _) fun g' => DV.keepP (g := g) (fun b xs e => e) hpd hxd⟩
      | lst l => cases hpd
      | dic => cases hpd
      | non | bl _ | int _ | str _ =>
        refine ifF rfl ⟨_, rfl, (by show 2 ≤ sizeLine; decide), fun q hq => ?_⟩
        generalize hH2 : upd H1z q _ = H2
        obtain ⟨sq, eq⟩ := freshF hq hH2
        exact fin _ H2 sq fun g' => .tup eq (by show 2 ≤ 20000; decide) (.cons (DV.keepP (g := g) (Kt.of sq) hpd hxd) (.cons .non .nil))
    · rintro H1 ⟨ys, e1, r1, s1, _⟩
      rw [hlen, List.take_length] at r1
      exact k D ys H1 s1 hD e1 r1
end
end K66

set_option Elab.async false
set_option linter.all false
set_option pp.maxSteps 900
set_option maxRecDepth 100000
set_option maxHeartbeats 4000000
namespace K66
open PySem PySem.Spec PyProof.Rows L2
open TL (tl)
abbrev sShf : Stmt := top 33
theorem erase_perm {α : Type} {l : List α} {i : Nat} (h : i < l.length) : (l[i] :: l.eraseIdx i).Perm l := by
  rw [List.eraseIdx_eq_take_drop_succ]
  have q := List.perm_middle (a := l[i]) (l₁ := l.take i) (l₂ := l.drop (i + 1))
  rw [← List.drop_eq_getElem_cons h, List.take_append_drop] at q
  exact q.symm

section
variable {X : Cx}
theorem op_eqNil (hu : X.A.units + 64 < cLine) : OpR X (compareOp .Eq) (fun x y H Q => ∃ (a b : Addr) (xs : List V), x = .ref a ∧ y = .ref b ∧ SqL X.K H a xs ∧ SqL X.K H b [] ∧ Q (.bl xs.isEmpty) H) := by
  intro pins s σ H x y v u Q I rx ry h
  obtain ⟨a, b, xs, rfl, rfl, ha, hb, q⟩ := h
  cases (show v = Value.ref a from rx)
  cases (show u = Value.ref b from ry)
  obtain ⟨us, r1, p1, _⟩ := I.list ha
  obtain ⟨ws, r2, p2, _⟩ := I.list hb
  cases r2
  cases r1 with
  | nil => exact SeqAt.eq_listAt (e := fun _ => true) p1.isList p2.isList rfl (by omega) (fun j h1 _ => absurd h1 (by simp)) (fin_bl I q rfl)
  | cons h t => exact SeqAt.eq_list_lengthsAt p1.isList p2.isList (by simp) (by omega) (fin_bl I q rfl)
theorem op_neNil (hu : X.A.units + 64 < cLine) : OpR X (compareOp .NotEq) (fun x y H Q => ∃ (a b : Addr) (xs : List V), x = .ref a ∧ y = .ref b ∧ SqL X.K H a xs ∧ SqL X.K H b [] ∧ Q (.bl (!xs.isEmpty)) H) := by
  intro pins s σ H x y v u Q I rx ry h
  obtain ⟨a, b, xs, rfl, rfl, ha, hb, q⟩ := h
  cases (show v = Value.ref a from rx)
  cases (show u = Value.ref b from ry)
  obtain ⟨us, r1, p1, _⟩ := I.list ha
  obtain ⟨ws, r2, p2, _⟩ := I.list hb
  cases r2
  cases r1 with
  | nil => exact SeqAt.RcNeAt.lists (e := fun _ => true) p1.isList p2.isList rfl (by omega) (fun j h1 _ => absurd h1 (by simp)) _ _ _ _ (fin_bl I q rfl)
  | cons h t => exact SeqAt.RcNeAt.lists_lengths p1.isList p2.isList (by simp) (by omega) _ _ _ _ (fin_bl I q rfl)
end
def spShf : Sp := fun vs H Q _ => ∃ (d g c a : Addr) (n : Nat) (ts : List V), vs = [.ref d, .ref a] ∧ StA H d g c n ∧ n ≤ 900000000 ∧ H a = some (.lst ts) ∧ ts.length ≤ 10000 ∧
  ∀ (p : Addr) (ys : List V) (H' : Hp), ys.Perm ts → StA H' d g c (n + ts.length) → Kp d g H H' → H p = none → H' p = some (.lst ys) → Q (.ref p) H'
section
variable {P : Program} {w : World} {K : PySem.W.Frag} {mg : Str → Option Value} {base : Heap}
theorem scShf : FnScope ["state", "some", "left", "found"] ["state", "some"] (defScope sShf) := ⟨rfl, rfl, rfl, by decide +kernel, rfl, by decide +kernel, by decide +kernel⟩
theorem ok_shf {f : Addr} {fd : FuncData} (F : Fun K "_law_shuffled" "_law_shuffled" sShf f fd) (T : Bn mg) (cD : Cl P w K mg base "_law_draw" ["state", "room"] 2 spDrw) : FnOk P w K mg base CX0 3 f fd ["state", "some"] spShf := by
  obtain ⟨fD, fdD, GD, mD, kD, bD⟩ := cD
  refine F.ok scShf (fun vs H Q E h => ?_) (fun cdv A outer s H vs Q E hr h => ?_)
  · obtain ⟨d, g, c, a, n, ts, rfl, _⟩ := h
    rfl
  · obtain ⟨d, g, c, a, n, ts, rfl, S, hn, ha, hts, k⟩ := h
    refine ⟨_, (pss_cons (ps_par (i := 2) (j := 3) (by rfl) scShf.nd rfl rfl (by decide) rfl rfl (pa_cons (pe_callTy call_list_of (by rfl) T.lst (by decide +kernel) (pa_cons (pv 1) pa_nil)) (pa_cons (pe_lst pa_nil) pa_nil)) (by rfl))
      (pss_cons (ps_while PassesOwn.never (pt_cmpR (op_neNil hr.units) (pv 2) (pe_lst pa_nil) (nomark _))
          (pss_one (ps_expr (qApp (pv 3) (qPopAt (pv 2) (pe_call GD hr (by rfl) mD kD bD .nil pass0 (pa_cons (pv 0) (pa_cons (pe_callB call_len_seq (by rfl) T.len PySem.boot_len (pa_cons (pv 2) pa_nil)) pa_nil))))))))
      (pss_one (ps_ret (pv 3))))), ?_⟩
    refine ⟨_, rfl, a, _, rfl, .inl (SqL.of ha), fun l hl => ?_⟩
    refine ⟨Nat.zero_le _, fun f hf => ?_⟩
    refine ⟨_, _, rfl, ?_⟩
    have lf : l ≠ f := ne_of_none upd_same hf
    have hf0 : H f = none := by
      rw [upd_ne lf.symm] at hf
      exact hf
    have fl := S.free hl
    have ff := S.free hf0
    refine while_m (fun m σ H' => ∃ ls fs : List V, σ = [some (.ref d), some (.ref a), some (.ref l), some (.ref f)] ∧ ls.length = m ∧ H' l = some (.lst ls) ∧ H' f = some (.lst fs) ∧ (fs ++ ls).Perm ts ∧ StA H' d g c (n + fs.length) ∧ Kp d g H H') ts.length
      ⟨ts, [], rfl, rfl, by rw [upd_ne lf]; exact upd_same, upd_same, List.Perm.refl _, (S.keep (same_new hl)).keep (same_new hf), ((Kp.refl H).upF hl).upF hf0⟩ ?_
    rintro m σ H1 ⟨ls, fs, rfl, hm, hL, hF, pm, S1, kp⟩
    have plen : fs.length + ls.length = ts.length := by
      have := pm.length_eq
      rw [List.length_append] at this
      exact this
    refine ⟨_, rfl, Nat.zero_le _, fun e he => ?_⟩
    have se := same_new (o := .lst []) he
    have hL2 := se _ _ hL
    refine ⟨l, e, ls, rfl, rfl, SqL.of hL2, SqL.of upd_same, ?_⟩
    cases ls with
    | nil =>
      refine ⟨_, rfl, ?_⟩
      refine ifF rfl ?_
      refine ⟨_, rfl, k f fs _ ?_ ?_ (fun b u e' h1 h2 => se _ _ (kp b u e' h1 h2)) hf0 (se _ _ hF)⟩
      · rw [List.append_nil] at pm
        exact pm
      · have e2 : fs.length = ts.length := by simpa using plen
        rw [← e2]
        exact S1.keep se
    | cons x xs =>
      refine ⟨_, rfl, ?_⟩
      refine ifT rfl ?_
      refine ⟨fun σ' H' => ∃ m', m' < m ∧ ∃ ls fs : List V, σ' = [some (.ref d), some (.ref a), some (.ref l), some (.ref f)] ∧ ls.length = m' ∧ H' l = some (.lst ls) ∧ H' f = some (.lst fs) ∧ (fs ++ ls).Perm ts ∧ StA H' d g c (n + fs.length) ∧ Kp d g H H', fun σ' H' z => z, ?_⟩
      have hF2 := se _ _ hF
      have S2 := S1.keep se
      have kp2 : Kp d g H (upd H1 e (.lst [])) := fun b u e' h1 h2 => se _ _ (kp b u e' h1 h2)
      generalize upd H1 e (.lst []) = H2 at hL2 hF2 S2 kp2 ⊢
      refine ⟨_, rfl, .inl ⟨rfl, _, SqL.of hF2⟩, _, rfl, .inl ⟨rfl, _, SqL.of hL2⟩, _, rfl, _, rfl, l, _, rfl, .inl (SqL.of hL2), d, g, c, n + fs.length, _, rfl, S2, by omega, by simp only [List.length_cons]; omega, by simp only [List.length_cons] at plen ⊢; omega, fun v H3 h0 h1 S3 kp3 => ?_⟩
      have hl3 := kp3 _ _ hL2 fl.1 fl.2.1
      have hf3 := kp3 _ _ hF2 ff.1 ff.2.1
      have hi : v.toNat < (x :: xs).length := by omega
      have hlen60 : (x :: xs).length ≤ 10000 := by omega
      refine ⟨l, x :: xs, v, v.toNat, (x :: xs)[v.toNat], rfl, rfl, hl3, by omega, by omega, seqIndex_of h0 h1, List.getElem?_eq_getElem hi, ?_⟩
      refine ⟨f, fs, _, rfl, rfl, by rw [upd_ne lf.symm]; exact hf3, by rw [sizeLine_eq]; omega, ?_⟩
      refine ⟨m - 1, by simp only [List.length_cons] at hm; omega, (x :: xs).eraseIdx v.toNat, fs ++ [(x :: xs)[v.toNat]], rfl, ?_, ?_, ?_, ?_, ?_, ?_⟩
      · rw [List.length_eraseIdx_of_lt hi]
        simp only [List.length_cons] at hm ⊢
        omega
      · rw [upd_ne lf, upd_same]
      · rw [upd_same]
      · rw [List.append_assoc]
        exact (List.Perm.append_left fs (erase_perm hi)).trans pm
      · rw [List.length_append]
        exact (S3.upF fl.1 fl.2.1 fl.2.2).upF ff.1 ff.2.1 ff.2.2
      · have kq : Kp d g H H3 := fun b u e' h1 h2 => kp3 _ _ (kp2 b u e' h1 h2) h1 h2
        exact (kq.upF hl).upF hf0
end
end K66

set_option Elab.async false
set_option linter.all false
set_option pp.maxSteps 900
set_option maxRecDepth 100000
set_option maxHeartbeats 4000000
namespace K66
open PySem PySem.Spec PyProof.Rows L2
open TL (tl)
abbrev sWE : Stmt := top 35
abbrev sWN : Stmt := top 36
abbrev sWW : Stmt := top 37
theorem Kp.free {d g c p : Addr} {H H1 : Hp} {n : Nat} (S : StA H1 d g c n) (k : Kp d g H H1) (hp : H1 p = none) : H p = none := by
  obtain ⟨h1, h2, _⟩ := S.free hp
  cases e : H p with
  | none => rfl
  | some o =>
    rw [k p o e h1 h2] at hp
    cases hp
/-- an edge that the law draws -/
structure DrE (cs : List Int) (labels : Int) (e : Ed) : Prop where
  c : ∀ i, e.c = some i → i ∈ cs
  b : -1000000000 ≤ e.b ∧ e.b ≤ 1000000000
  l : e.l.length ≤ 3
  k : ∀ i ∈ e.l, 0 ≤ i ∧ i < labels
def spWE : Sp := fun vs H Q _ => ∃ (d g c ca : Addr) (n : Nat) (here to labels : Int) (cs : List Int) (low : Bool), vs = [.ref d, .int here, .int to, .ref ca, .int labels, .bl low] ∧ StA H d g c n ∧ n ≤ 900000000 ∧ H ca = some (.lst (cs.map V.int)) ∧ ca ≠ d ∧ ca ≠ g ∧ cs.length ≤ 1000 ∧ 0 ≤ labels ∧ labels ≤ 100 ∧
  ∀ (v : V) (e : Ed) (H' : Hp), e.p = here → e.t = to → DrE cs labels e → StA H' d g c (n + 12) → Kp d g H H' → (∀ g', DV g' H' v (edD e)) → Q v H'
theorem dvs_ints {g : Addr} {H : Hp} : ∀ ks : List Int, DVs g H (ks.map V.int) (ks.map Dt.int)
  | [] => .nil
  | k :: r => .cons (.int k) (dvs_ints r)
section
variable {P : Program} {w : World} {K : PySem.W.Frag} {mg : Str → Option Value} {base : Heap}
theorem scWe : FnScope ["state", "here", "to", "calls", "labels", "low", "call", "beats", "many", "lap"] ["state", "here", "to", "calls", "labels", "low"] (defScope sWE) := ⟨rfl, rfl, rfl, by decide +kernel, rfl, by decide +kernel, by decide +kernel⟩
theorem ok_we {f : Addr} {fd : FuncData} (F : Fun K "_law_wb_edge" "_law_wb_edge" sWE f fd) (T : Bn mg) (cD : Cl P w K mg base "_law_draw" ["state", "room"] 2 spDrw) (cP : Cl P w K mg base "_law_pick" ["state", "some"] 3 spPck) : FnOk P w K mg base CX0 4 f fd ["state", "here", "to", "calls", "labels", "low"] spWE := by
  obtain ⟨fD, fdD, GD, mD, kD, bD⟩ := cD
  obtain ⟨fP, fdP, GP, mP, kP, bP⟩ := cP
  refine F.ok scWe (fun vs H Q E h => ?_) (fun cdv A outer s H vs Q E hr h => ?_)
  · obtain ⟨d, g, c, ca, n, a, b, l, cs, lo, rfl, _⟩ := h
    rfl
  · obtain ⟨d, g, c, ca, n, here, to, labels, cs, low, rfl, S, hn, hca, nd, ng, hcl, hl0, hl1, k⟩ := h
    have hr2 : Room 2 _ := hr.mono (by decide)
    refine ⟨_, (pss_cons (ps_set (i := 6) scWe.nd rfl (Or.inl rfl) pe_non)
      (pss_mid (ps_if (PW.pt (pw_and (pt_cmpR (op_neNil hr.units) (pv 3) (pe_lst pa_nil) (nomark _)) (pw_and1 (pt_cmpR op_eq (pe_call GD hr2 (by rfl) mD kD bD .nil pass0 (pa_cons (pv 0) (pa_cons pe_int pa_nil))) pe_int (nomark _))))) (pss_one (ps_set (i := 6) scWe.nd rfl (Or.inl rfl) (pe_call GP hr (by rfl) mP kP bP .nil pass0 (pa_cons (pv 0) (pa_cons (pv 3) pa_nil))))) pss_nil)
      (pss_cons (ps_set (i := 7) scWe.nd rfl (Or.inl rfl) (pe_call GP hr (by rfl) mP kP bP .nil pass0 (pa_cons (pv 0) (pa_cons (pe_lst (pa_cons pe_int (pa_cons pe_int (pa_cons pe_int (pa_cons pe_int (pa_cons pe_int (pa_cons pe_int (pa_cons (pe_call GD hr2 (by rfl) mD kD bD .nil pass0 (pa_cons (pv 0) (pa_cons pe_int pa_nil))) (pa_cons (pe_op op_pow pe_int pe_int) pa_nil))))))))) pa_nil))))
      (pss_mid (ps_if (PW.pt (pw_and (pt_val (pv 5)) (pw_and1 (pt_cmpR op_eq (pe_call GD hr2 (by rfl) mD kD bD .nil pass0 (pa_cons (pv 0) (pa_cons pe_int pa_nil))) pe_int (nomark _))))) (pss_one (ps_set (i := 7) scWe.nd rfl (Or.inl rfl) (pe_op op_sub pe_int (pe_call GP hr (by rfl) mP kP bP .nil pass0 (pa_cons (pv 0) (pa_cons (pe_lst (pa_cons pe_int (pa_cons pe_int (pa_cons pe_int (pa_cons pe_int (pa_cons (pv 7) pa_nil)))))) pa_nil)))))) pss_nil)
      (pss_mid (ps_set (i := 8) scWe.nd rfl (Or.inl rfl) (pe_ifExp (pt_cmpR op_gt (pv 4) pe_int (nomark _)) (pe_call GP hr (by rfl) mP kP bP .nil pass0 (pa_cons (pv 0) (pa_cons (pe_lst (pa_cons pe_int (pa_cons pe_int (pa_cons pe_int (pa_cons pe_int (pa_cons pe_int pa_nil)))))) pa_nil))) pe_int))
      (pss_one (ps_ret (pe_tup (pa_cons (pv 1) (pa_cons (pv 2) (pa_cons (pv 6) (pa_cons (pv 7) (pa_cons (pe_callTy call_tuple_of (by rfl) T.tpl (by decide +kernel) (pa_cons (pe_lc (own := [("lap", 9)]) (g := gName 9) (tt := tYes) (by rfl) scWe.nd (pi_range1 (by rfl) T.rng (pa_cons (pv 8) pa_nil)) (blkOk_by (own := [("lap", 9)]) (N := ["state", "here", "to", "calls", "labels", "low", "call", "beats", "many", "lap"]) (sc := defScope sWE) (by decide +kernel)) (fun _ _ _ _ _ => (pg_name (i := 9) scWe.nd rfl (Or.inl rfl))) (fun _ _ _ _ _ => pts_nil) (fun _ _ _ _ _ => (pe_call GD hr2 (by rfl) mD kD bD .nil pass0 (pa_cons (pv 0) (pa_cons (pv 4) pa_nil))))) pa_nil)) pa_nil))))))))))))), ?_⟩
    -- call
    refine ⟨fun σ H' => ∃ co : Option Int, σ = [some (.ref d), some (.int here), some (.int to), some (.ref ca), some (.int labels), some (.bl low), some (oIV co), none, none, none] ∧ (∀ i, co = some i → i ∈ cs) ∧ StA H' d g c (n + 2) ∧ Kp d g H H', ?_, ?_⟩
    · refine ⟨_, rfl, Nat.zero_le _, fun e0 he0 => ?_⟩
      generalize hH1 : upd H e0 _ = H1
      obtain ⟨se0, ee0⟩ := freshF he0 hH1
      have S1 := S.keep se0
      have hca1 := se0 _ _ hca
      refine ⟨ca, e0, _, rfl, rfl, SqL.of hca1, SqL.of ee0, _, rfl, ?_⟩
      by_cases hc0 : cs = []
      · subst hc0
        exact ifF rfl ⟨none, rfl, (fun i h => by cases h), S1.mono (by omega), Kp.of se0⟩
      · refine ifT (by cases cs with | nil => exact absurd rfl hc0 | cons a b => rfl) ?_
        refine ⟨_, rfl, d, g, c, n, 2, rfl, S1, by omega, by decide, by decide, fun u H2 u0 u1 S2 kp2 => ?_⟩
        refine ⟨rfl, _, rfl, ?_⟩
        have hca2 := kp2 _ _ hca1 nd ng
        by_cases hu : u = 0
        · refine ifT (by simp [hu]) ?_
          refine ⟨_, rfl, _, rfl, d, g, c, ca, n + 1, _, rfl, S2, by omega, hca2, ng, by simpa using hc0, by rw [List.length_map]; omega, fun v H3 hv S3 kp3 => ?_⟩
          obtain ⟨i, hi, rfl⟩ := List.mem_map.mp hv
          exact ⟨some i, rfl, (fun j h => by injection h with h; rw [← h]; exact hi), S3, (Kp.of se0).trans (kp2.trans kp3)⟩
        · refine ifF (by simp [hu]) ?_
          exact ⟨none, rfl, (fun i h => by cases h), S2.mono (by omega), (Kp.of se0).trans kp2⟩
    rintro σ H1 ⟨co, rfl, hco, S1, kp1⟩
    -- beats
    refine ⟨_, rfl, _, rfl, d, g, c, _, 100, rfl, S1, by omega, by decide, by decide, fun u H2 u0 u1 S2 kp2 => ?_⟩
    refine ⟨_, _, rfl, rfl, by unfold CPow; decide, (by show 8 ≤ sizeLine; decide), fun q hq => ?_⟩
    generalize hH3 : upd H2 q _ = H3
    obtain ⟨sq, eq⟩ := freshF hq hH3
    have S3 := S2.keep sq
    refine ⟨d, g, c, q, _, _, rfl, S3, by omega, eq, (S2.free hq).2.1, by simp, (by show 8 ≤ 1000000; decide), fun v H4 hv S4 kp4 => ?_⟩
    obtain ⟨b, rfl, hb⟩ : ∃ b : Int, v = .int b ∧ 0 ≤ b ∧ b ≤ 1000000000 := by
      simp only [List.mem_cons, List.not_mem_nil, or_false] at hv
      rcases hv with rfl | rfl | rfl | rfl | rfl | rfl | rfl | rfl
      · exact ⟨0, rfl, by decide⟩
      · exact ⟨1, rfl, by decide⟩
      · exact ⟨2, rfl, by decide⟩
      · exact ⟨3, rfl, by decide⟩
      · exact ⟨5, rfl, by decide⟩
      · exact ⟨9, rfl, by decide⟩
      · exact ⟨u, rfl, by omega⟩
      · exact ⟨_, rfl, by decide⟩
    have k14 : Kp d g H H4 := kp1.trans (kp2.trans ((Kp.of sq).trans kp4))
    -- low
    refine ⟨fun σ H' => ∃ b : Int, σ = [some (.ref d), some (.int here), some (.int to), some (.ref ca), some (.int labels), some (.bl low), some (oIV co), some (.int b), none, none] ∧ (-1000000000 ≤ b ∧ b ≤ 1000000000) ∧ StA H' d g c (n + 6) ∧ Kp d g H H', ?_, ?_⟩
    · refine ⟨_, rfl, _, rfl, ?_⟩
      cases low with
      | false => exact ifF rfl ⟨b, rfl, by omega, S4.mono (by omega), k14⟩
      | true =>
        refine ifT rfl ?_
        refine ⟨_, rfl, d, g, c, _, 3, rfl, S4, by omega, by decide, by decide, fun u5 H5 _ _ S5 kp5 => ⟨rfl, _, rfl, ?_⟩⟩
        by_cases hu : u5 = 0
        · refine ifT (by simp [hu]) ?_
          refine ⟨_, rfl, _, rfl, (by show 5 ≤ sizeLine; decide), fun q6 hq6 => ?_⟩
          generalize hH6 : upd H5 q6 _ = H6
          obtain ⟨sq6, eq6⟩ := freshF hq6 hH6
          have S6 := S5.keep sq6
          refine ⟨d, g, c, q6, _, _, rfl, S6, by omega, eq6, (S5.free hq6).2.1, by simp, (by show 5 ≤ 1000000; decide), fun v H7 hv S7 kp7 => ?_⟩
          obtain ⟨b2, rfl, hb2⟩ : ∃ b : Int, v = .int b ∧ 0 ≤ b ∧ b ≤ 1000000000 := by
            simp only [List.mem_cons, List.not_mem_nil, or_false] at hv
            rcases hv with rfl | rfl | rfl | rfl | rfl
            · exact ⟨1, rfl, by decide⟩
            · exact ⟨1, rfl, by decide⟩
            · exact ⟨2, rfl, by decide⟩
            · exact ⟨3, rfl, by decide⟩
            · exact ⟨b, rfl, hb⟩
          exact ⟨_, _, rfl, rfl, 0 - b2, rfl, by omega, S7.mono (by omega), k14.trans (kp5.trans ((Kp.of sq6).trans kp7))⟩
        · exact ifF (by simp [hu]) ⟨b, rfl, by omega, S5.mono (by omega), k14.trans kp5⟩
    clear S4 k14 S3 S2 S1 kp1
    rintro σ H1 ⟨b, rfl, hb, S1, kp1⟩
    -- many
    refine ⟨fun σ H' => ∃ m : Nat, σ = [some (.ref d), some (.int here), some (.int to), some (.ref ca), some (.int labels), some (.bl low), some (oIV co), some (.int b), some (.int (m : Nat)), none] ∧ m ≤ 3 ∧ (0 < m → 0 < labels) ∧ StA H' d g c (n + 7) ∧ Kp d g H H', ?_, ?_⟩
    · refine ⟨_, rfl, _, _, rfl, rfl, _, rfl, ?_⟩
      by_cases hl : 0 < labels
      · refine ifT (decide_eq_true (by omega)) ?_
        refine ⟨_, rfl, (by show 5 ≤ sizeLine; decide), fun q hq => ?_⟩
        generalize hH2 : upd H1 q _ = H2
        obtain ⟨sq, eq⟩ := freshF hq hH2
        have S2 := S1.keep sq
        refine ⟨d, g, c, q, _, _, rfl, S2, by omega, eq, (S1.free hq).2.1, by simp, (by show 5 ≤ 1000000; decide), fun v H3 hv S3 kp3 => ?_⟩
        obtain ⟨m, rfl, hm⟩ : ∃ m : Nat, v = .int (m : Nat) ∧ m ≤ 3 := by
          simp only [List.mem_cons, List.not_mem_nil, or_false] at hv
          rcases hv with rfl | rfl | rfl | rfl | rfl
          · exact ⟨1, rfl, by decide⟩
          · exact ⟨1, rfl, by decide⟩
          · exact ⟨0, rfl, by decide⟩
          · exact ⟨2, rfl, by decide⟩
          · exact ⟨3, rfl, by decide⟩
        exact ⟨m, rfl, hm, fun _ => hl, S3, kp1.trans ((Kp.of sq).trans kp3)⟩
      · refine ifF (decide_eq_false (by omega)) ?_
        exact ⟨0, rfl, by decide, fun h => absurd h (by decide), S1.mono (by omega), kp1⟩
    clear S1 kp1
    rintro σ H1 ⟨m, rfl, hm, hml, S1, kp1⟩
    refine ⟨_, rfl, _, rfl, _, rfl, _, rfl, _, rfl, _, rfl, by omega, by omega, ?_⟩
    intro D hD
    have fD' := S1.free hD
    refine lc_it (walk_range (lo := 0) (n := ((m : Nat) : Int).toNat)) (fun i H' => ∃ ks : List Int, H' D = some (.lst (ks.map V.int)) ∧ ks.length = i ∧ (∀ x ∈ ks, 0 ≤ x ∧ x < labels) ∧ StA H' d g c (n + 7 + i) ∧ Kp d g H1 H')
      ⟨[], upd_same, rfl, (fun x hx => by cases hx), S1.keep (same_new hD), Kp.of (same_new hD)⟩ (fun _ _ _ _ => trivial) ?_ ?_
    · rintro i x H2z H2 hi ⟨ks, e2, hkl, hks, S2, kp2⟩ ⟨rfl, rfl⟩
      rw [Int.toNat_natCast] at hi
      have hl := hml (by omega)
      refine ⟨rfl, ?_⟩
      refine ⟨_, rfl, _, rfl, d, g, c, _, labels, rfl, S2, by omega, hl, by omega, fun u H3 u0 u1 S3 kp3 => ?_⟩
      have e3 := kp3 _ _ e2 fD'.1 fD'.2.1
      refine ⟨_, e3, by rw [List.length_map, hkl, sizeLine_eq]; omega, ks ++ [u], by rw [upd_same, List.map_append]; rfl, by rw [List.length_append, hkl]; rfl, ?_, ?_, (kp2.trans kp3).upF hD⟩
      · intro x hx
        rcases List.mem_append.mp hx with hx | hx
        · exact hks x hx
        · rw [List.mem_singleton.mp hx]
          exact ⟨u0, u1⟩
      · exact (S3.upF fD'.1 fD'.2.1 fD'.2.2).mono (by omega)
    · rintro H2 ⟨ks, e2, hkl, hks, S2, kp2⟩
      rw [Int.toNat_natCast] at hkl S2
      refine ⟨D, _, rfl, .inl ⟨SqL.of e2, fun l hl => ?_⟩⟩
      generalize hH3 : upd H2 l _ = H3
      obtain ⟨sl, el⟩ := freshF hl hH3
      refine ⟨(by show 5 ≤ sizeLine; decide), fun t ht => ?_⟩
      generalize hH4 : upd H3 t _ = H4
      obtain ⟨st, et⟩ := freshF ht hH4
      have s24 := sl.trans st
      refine k _ ⟨here, to, co, b, ks⟩ H4 rfl rfl ⟨hco, hb, by show ks.length ≤ 3; omega, hks⟩ ((S2.keep s24).mono (by omega)) (kp1.trans (kp2.trans (Kp.of s24))) fun g' => ?_
      refine .tup et (by show 5 ≤ 20000; decide) (.cons (.int _) (.cons (.int _) (.cons ?_ (.cons (.int _) (.cons (.tup (st _ _ el) (by show (ks.map Dt.int).length ≤ 20000; rw [List.length_map]; omega) (dvs_ints ks)) .nil)))))
      cases co with
      | none => exact .non
      | some i => exact .int _
end
end K66

set_option Elab.async false
set_option linter.all false
set_option pp.maxSteps 900
set_option maxRecDepth 100000
set_option maxHeartbeats 4000000
namespace K66
open PySem PySem.Spec PyProof.Rows L2
open TL (tl)
def rgI (a b : Int) : List Int := (List.range (b - a).toNat).map fun i => a + (i : Nat)
theorem rgV_eq (a b : Int) : rgV a b = (rgI a b).map V.int := by
  unfold rgV rgI
  rw [List.map_map]
  rfl
theorem rgI_mem {a b x : Int} (h : x ∈ rgI a b) : a ≤ x ∧ x < b := by
  obtain ⟨i, hi, rfl⟩ := List.mem_map.mp h
  have := List.mem_range.mp hi
  omega
theorem rgI_len (a b : Int) : (rgI a b).length = (b - a).toNat := by
  unfold rgI
  rw [List.length_map, List.length_range]
/-- an edge of a net that the law draws -/
structure DrN (pl many labels : Int) (e : Ed) : Prop where
  p : 0 ≤ e.p ∧ e.p ≤ pl - 2
  t : 0 ≤ e.t ∧ e.t ≤ pl - 1
  c : ∀ i, e.c = some i → 0 ≤ i ∧ i < many
  b : -1000000000 ≤ e.b ∧ e.b ≤ 1000000000
  l : e.l.length ≤ 3
  k : ∀ i ∈ e.l, 0 ≤ i ∧ i < labels
theorem ed_pur (e : Ed) : pur (edD e) = true := by
  have h1 : pur (oI e.c) = true := by cases e.c <;> rfl
  have h2 : purs (e.l.map Dt.int) = true := purs_map fun _ _ => rfl
  show (true && (true && (pur (oI e.c) && (true && (purs (e.l.map Dt.int) && true))))) = true
  rw [h1, h2]
  rfl
/-- the law's list of edges -/
def EdSt (wl : Addr) (H : Hp) (es : List Ed) : Prop := ∃ ws, H wl = some (.lst ws) ∧ ∀ g', DVs g' H ws (es.map edD)
theorem eds_pur (es : List Ed) : purs (es.map edD) = true := purs_map fun e _ => ed_pur e
theorem EdSt.mono {wl : Addr} {H H' : Hp} {es : List Ed} (kt : Kt H H') (hw : ∀ xs, H wl = some (.lst xs) → H' wl = some (.lst xs)) (h : EdSt wl H es) : EdSt wl H' es := by
  obtain ⟨ws, e, r⟩ := h
  exact ⟨ws, hw _ e, fun g' => DVs.keepP (g := 0) kt (eds_pur es) (r 0)⟩
theorem EdSt.keep {wl : Addr} {H H' : Hp} {es : List Ed} (s : Same H H') (h : EdSt wl H es) : EdSt wl H' es := h.mono (Kt.of s) fun xs e => s _ _ e
theorem EdSt.kp {wl d g c : Addr} {n : Nat} {H H' : Hp} {es : List Ed} (S : StA H d g c n) (k : Kp d g H H') (h1 : wl ≠ d) (h2 : wl ≠ g) (h : EdSt wl H es) : EdSt wl H' es := h.mono (Kt.kp S k) fun xs e => k _ _ e h1 h2
theorem EdSt.add {wl : Addr} {H : Hp} {es : List Ed} {ws : List V} {v : V} {e : Ed} (hw : H wl = some (.lst ws)) (r : ∀ g', DVs g' H ws (es.map edD)) (hv : ∀ g', DV g' H v (edD e)) : EdSt wl (upd H wl (.lst (ws ++ [v]))) (es ++ [e]) := by
  have kt : Kt H (upd H wl (HO.lst (ws ++ [v]))) := Kt.put hw
  refine ⟨ws ++ [v], upd_same, fun g' => ?_⟩
  rw [List.map_append]
  exact DVs.app (DVs.keepP (g := 0) kt (eds_pur es) (r 0)) (.cons (DV.keepP (g := 0) kt (ed_pur e) (hv 0)) .nil)
theorem DVs.erase {g : Addr} {H : Hp} : ∀ {xs : List V} {ds : List Dt} (k : Nat), DVs g H xs ds → DVs g H (xs.eraseIdx k) (ds.eraseIdx k)
  | _, _, _, .nil => .nil
  | _, _, 0, .cons _ r => r
  | _, _, k + 1, .cons h r => .cons h (DVs.erase k r)
theorem map_erase {α β : Type} (f : α → β) : ∀ (l : List α) (k : Nat), (l.map f).eraseIdx k = (l.eraseIdx k).map f
  | [], _ => rfl
  | _ :: _, 0 => rfl
  | a :: l, k + 1 => congrArg (f a :: ·) (map_erase f l k)
theorem perm_dvs {g : Addr} {H : Hp} {xs ys : List V} (p : ys.Perm xs) : ∀ es : List Ed, DVs g H xs (es.map edD) → ∃ es' : List Ed, es'.Perm es ∧ DVs g H ys (es'.map edD) := by
  induction p with
  | nil => exact fun es r => ⟨es, .refl _, r⟩
  | @cons x l1 l2 _ ih =>
    intro es r
    cases es with
    | nil => cases r
    | cons e es =>
      cases r with
      | cons h r =>
        obtain ⟨es', p', r'⟩ := ih es r
        exact ⟨e :: es', p'.cons e, .cons h r'⟩
  | swap x y l =>
    intro es r
    match es, r with
    | e1 :: e2 :: es, .cons h1 (.cons h2 r) => exact ⟨e2 :: e1 :: es, .swap e1 e2 es, .cons h2 (.cons h1 r)⟩
    | [_], .cons _ r => cases r
    | [], r => cases r
  | trans _ _ ih1 ih2 =>
    intro es r
    obtain ⟨e1, p1, r1⟩ := ih2 es r
    obtain ⟨e2, p2, r2⟩ := ih1 e1 r1
    exact ⟨e2, p2.trans p1, r2⟩
def spWN : Sp := fun vs H Q _ => ∃ (d g c : Addr) (n : Nat) (at_ many labels : Int) (low : Bool), vs = [.ref d, .int at_, .int many, .int labels, .bl low] ∧ StA H d g c n ∧ n ≤ 800000000 ∧ 0 ≤ at_ ∧ at_ < many ∧ many ≤ 100 ∧ 0 ≤ labels ∧ labels ≤ 100 ∧
  ∀ (v : V) (nt : Int × List Ed) (H' : Hp), 1 ≤ nt.1 → nt.1 ≤ 5 → nt.2.length ≤ 7 → (∀ e ∈ nt.2, DrN nt.1 many labels e) → StA H' d g c (n + 200) → Kp d g H H' → (∀ g', DV g' H' v (ntD nt)) → Q v H'
section
variable {P : Program} {w : World} {K : PySem.W.Frag} {mg : Str → Option Value} {base : Heap}
theorem scWn : FnScope ["state", "at", "many", "labels", "low", "places", "edges", "here", "lap", "to", "calls"] ["state", "at", "many", "labels", "low"] (defScope sWN) := ⟨rfl, rfl, rfl, by decide +kernel, rfl, by decide +kernel, by decide +kernel⟩
theorem ok_wn {f : Addr} {fd : FuncData} (F : Fun K "_law_wb_net" "_law_wb_net" sWN f fd) (T : Bn mg) (cD : Cl P w K mg base "_law_draw" ["state", "room"] 2 spDrw) (cP : Cl P w K mg base "_law_pick" ["state", "some"] 3 spPck)
    (cWE : Cl P w K mg base "_law_wb_edge" ["state", "here", "to", "calls", "labels", "low"] 4 spWE) (cSh : Cl P w K mg base "_law_shuffled" ["state", "some"] 3 spShf) : FnOk P w K mg base CX0 5 f fd ["state", "at", "many", "labels", "low"] spWN := by
  obtain ⟨fD, fdD, GD, mD, kD, bD⟩ := cD
  obtain ⟨fP, fdP, GP, mP, kP, bP⟩ := cP
  obtain ⟨fWE, fdWE, GWE, mWE, kWE, bWE⟩ := cWE
  obtain ⟨fSh, fdSh, GSh, mSh, kSh, bSh⟩ := cSh
  refine F.ok scWn (fun vs H Q E h => ?_) (fun cdv A outer s H vs Q E hr h => ?_)
  · obtain ⟨d, g, c, n, a, b, l, lo, rfl, _⟩ := h
    rfl
  · obtain ⟨d, g, c, n, at_, many, labels, low, rfl, S, hn, ha0, ha1, hmany, hl0, hl1, k⟩ := h
    have hr2 : Room 2 _ := hr.mono (by decide)
    have hr3 : Room 3 _ := hr.mono (by decide)
    refine ⟨_, (pss_cons (ps_par (i := 5) (j := 6) (by rfl) scWn.nd rfl rfl (by decide) rfl rfl (pa_cons (pe_call GP hr3 (by rfl) mP kP bP .nil pass0 (pa_cons (pv 0) (pa_cons (pe_lst (pa_cons pe_int (pa_cons pe_int (pa_cons pe_int (pa_cons pe_int (pa_cons pe_int (pa_cons pe_int (pa_cons pe_int pa_nil)))))))) pa_nil))) (pa_cons (pe_lst pa_nil) pa_nil)) (by rfl))
      (pss_cons (ps_for PassesOwn.never rfl (pi_range1 (by rfl) T.rng (pa_cons (pe_op op_sub (pv 5) pe_int) pa_nil)) (pg_name (i := 7) scWn.nd rfl (Or.inl rfl))
          (pss_one (ps_expr (qApp (pv 6) (pe_call GWE hr (by rfl) mWE kWE bWE .nil pass0 (pa_cons (pv 0) (pa_cons (pv 7) (pa_cons (pe_op op_add (pv 7) pe_int) (pa_cons (pe_listRg (by rfl) (by rfl) T.lst (prg_2 (by rfl) T.rng (pe_op op_add (pv 1) pe_int) (pv 2))) (pa_cons (pv 3) (pa_cons (pv 4) pa_nil)))))))))))
      (pss_mid (ps_if (PW.pt (pw_and (pt_cmpR (op_neNil hr.units) (pv 6) (pe_lst pa_nil) (nomark _)) (pw_and1 (pt_cmpR op_eq (pe_call GD hr2 (by rfl) mD kD bD .nil pass0 (pa_cons (pv 0) (pa_cons pe_int pa_nil))) pe_int (nomark _))))) (pss_one (ps_expr (qPopAt (pv 6) (pe_call GD hr2 (by rfl) mD kD bD .nil pass0 (pa_cons (pv 0) (pa_cons (pe_callB call_len_seq (by rfl) T.len PySem.boot_len (pa_cons (pv 6) pa_nil)) pa_nil)))))) pss_nil)
      (pss_cons (ps_for PassesOwn.never rfl (pi_range1 (by rfl) T.rng (pa_cons (pe_weak (pe_ifExp (pt_cmpR op_gt (pv 5) pe_int (nomark _)) (pe_call GP hr3 (by rfl) mP kP bP .nil pass0 (pa_cons (pv 0) (pa_cons (pe_lst (pa_cons pe_int (pa_cons pe_int (pa_cons pe_int (pa_cons pe_int pa_nil))))) pa_nil))) pe_int)) pa_nil)) (pg_name (i := 8) scWn.nd rfl (Or.inl rfl))
          (pss_cons (ps_par (i := 7) (j := 9) (by rfl) scWn.nd rfl rfl (by decide) rfl rfl (pa_cons (pe_call GD hr2 (by rfl) mD kD bD .nil pass0 (pa_cons (pv 0) (pa_cons (pe_op op_sub (pv 5) pe_int) pa_nil))) (pa_cons (pe_call GD hr2 (by rfl) mD kD bD .nil pass0 (pa_cons (pv 0) (pa_cons (pv 5) pa_nil))) pa_nil)) (by rfl))
          (pss_mid (ps_set (i := 10) scWn.nd rfl (Or.inl rfl) (pe_ifExp (pt_cmpR op_eq (pe_call GD hr2 (by rfl) mD kD bD .nil pass0 (pa_cons (pv 0) (pa_cons pe_int pa_nil))) pe_int (nomark _)) (pe_listRg (by rfl) (by rfl) T.lst (prg_1 (by rfl) T.rng (pv 2))) (pe_lst pa_nil)))
          (pss_one (ps_expr (qApp (pv 6) (pe_call GWE hr (by rfl) mWE kWE bWE .nil pass0 (pa_cons (pv 0) (pa_cons (pv 7) (pa_cons (pv 9) (pa_cons (pv 10) (pa_cons (pv 3) (pa_cons (pv 4) pa_nil)))))))))))))
      (pss_one (ps_ret (pe_tup (pa_cons (pv 5) (pa_cons (pe_callTy call_tuple_of (by rfl) T.tpl (by decide +kernel) (pa_cons (pe_call GSh hr3 (by rfl) mSh kSh bSh .nil pass0 (pa_cons (pv 0) (pa_cons (pv 6) pa_nil))) pa_nil)) pa_nil))))))))), ?_⟩
    refine ⟨_, rfl, (by show 7 ≤ sizeLine; decide), fun q hq => ?_⟩
    generalize hH1 : upd H q _ = H1
    obtain ⟨sq, eq⟩ := freshF hq hH1
    have S1 := S.keep sq
    refine ⟨d, g, c, q, _, _, rfl, S1, by omega, eq, (S.free hq).2.1, by simp, (by show 7 ≤ 1000000; decide), fun v H2 hv S2 kp2 => ?_⟩
    obtain ⟨pl, rfl, hp1, hp5⟩ : ∃ p : Int, v = .int p ∧ 1 ≤ p ∧ p ≤ 5 := by
      simp only [List.mem_cons, List.not_mem_nil, or_false] at hv
      rcases hv with rfl | rfl | rfl | rfl | rfl | rfl | rfl <;> exact ⟨_, rfl, by decide, by decide⟩
    refine ⟨Nat.zero_le _, fun wl hwl => ?_⟩
    generalize hH3 : upd H2 wl _ = H3
    obtain ⟨swl, ewl⟩ := freshF hwl hH3
    have fw := S2.free hwl
    have S3 := S2.keep swl
    have k03 : Kp d g H H3 := (Kp.of sq).trans (kp2.trans (Kp.of swl))
    have hwl0 : H wl = none := ((Kp.of sq).trans kp2).free S2 hwl
    refine ⟨_, _, rfl, ?_⟩
    -- the chain of edges
    refine ⟨_, rfl, _, _, rfl, rfl, _, rfl, by omega, by omega, for_range (lo := 0) (n := (pl - 1).toNat)
      (fun i σ H' => ∃ (hv : Option V) (es : List Ed), σ = [some (.ref d), some (.int at_), some (.int many), some (.int labels), some (.bl low), some (.int pl), some (.ref wl), hv, none, none, none] ∧ EdSt wl H' es ∧ es.length = i ∧ (∀ e ∈ es, DrN pl many labels e) ∧ StA H' d g c (n + 1 + 12 * i) ∧ Kp d g H H')
      ⟨none, [], rfl, ⟨[], ewl, fun g' => .nil⟩, rfl, (fun e he => by cases he), S3, k03⟩ ?_ ?_⟩
    · rintro i σ H4 hi ⟨hv, es, rfl, W4, hlen, hes, S4, k4⟩
      obtain ⟨ws4, ew4, rw4⟩ := id W4
      have hi4 : (i : Int) + 1 ≤ pl - 1 := by omega
      refine ⟨_, rfl, .inl ⟨rfl, _, SqL.of ew4⟩, _, rfl, _, rfl, _, rfl, _, _, rfl, rfl, _, rfl, _, _, rfl, rfl, _, rfl, _, _, rfl, rfl, RgOk.of_le (by omega) (by omega) (by omega) (by omega), fun q4 hq4 => ?_⟩
      generalize hH5 : upd H4 q4 _ = H5
      obtain ⟨sq4, eq4⟩ := freshF hq4 hH5
      have S5 := S4.keep sq4
      have W5 := W4.keep sq4
      have fq := S4.free hq4
      refine ⟨_, rfl, _, rfl, d, g, c, q4, _, 0 + (i : Nat), 0 + (i : Nat) + 1, labels, rgI (at_ + 1) many, low, rfl, S5, by omega, by rw [eq4, rgV_eq], fq.1, fq.2.1, by rw [rgI_len]; omega, hl0, hl1, fun v e H6 he1 he2 hdr S6 kp6 hv6 => ?_⟩
      obtain ⟨ws6, ew6, rw6⟩ := W5.kp S5 kp6 fw.1 fw.2.1
      have hl6 : ws6.length = i := by rw [(rw6 0).len, List.length_map, hlen]
      refine ⟨wl, ws6, v, rfl, rfl, ew6, by rw [hl6, sizeLine_eq]; omega, _, es ++ [e], rfl, EdSt.add ew6 rw6 hv6, by rw [List.length_append, hlen]; rfl, ?_, ?_, ?_⟩
      · intro x hx
        rcases List.mem_append.mp hx with hx | hx
        · exact hes x hx
        · rw [List.mem_singleton.mp hx]
          refine ⟨by rw [he1]; omega, by rw [he2]; omega, fun j hj => ?_, hdr.b, hdr.l, hdr.k⟩
          have := rgI_mem (hdr.c j hj)
          omega
      · exact (S6.upF fw.1 fw.2.1 fw.2.2).mono (by omega)
      · exact (k4.trans ((Kp.of sq4).trans kp6)).upF hwl0
    rintro σ H4 ⟨hv, es, rfl, W4, hlen, hes, S4, k4⟩
    -- one taken out
    refine ⟨fun σ H' => ∃ (hv : Option V) (es : List Ed), σ = [some (.ref d), some (.int at_), some (.int many), some (.int labels), some (.bl low), some (.int pl), some (.ref wl), hv, none, none, none] ∧ EdSt wl H' es ∧ es.length ≤ 4 ∧ (∀ e ∈ es, DrN pl many labels e) ∧ StA H' d g c (n + 60) ∧ Kp d g H H', ?_, ?_⟩
    · obtain ⟨ws4, ew4, rw4⟩ := id W4
      have hlw : ws4.length = es.length := by rw [(rw4 0).len, List.length_map]
      refine ⟨_, rfl, Nat.zero_le _, fun e0 he0 => ?_⟩
      generalize hH5 : upd H4 e0 _ = H5
      obtain ⟨se0, ee0⟩ := freshF he0 hH5
      have S5 := S4.keep se0
      refine ⟨wl, e0, ws4, rfl, rfl, SqL.of (se0 _ _ ew4), SqL.of ee0, _, rfl, ?_⟩
      cases hemp : ws4.isEmpty with
      | true => exact ifF rfl ⟨hv, es, rfl, W4.keep se0, by omega, hes, S5.mono (by omega), k4.trans (Kp.of se0)⟩
      | false =>
        refine ifT rfl ?_
        have hpos : 0 < ws4.length := by
          cases ws4 with
          | nil => cases hemp
          | cons a b => exact Nat.succ_pos _
        refine ⟨_, rfl, d, g, c, _, 10, rfl, S5, by omega, by decide, by decide, fun u H6 u0 u1 S6 kp6 => ⟨rfl, _, rfl, ?_⟩⟩
        have W6 := (W4.keep se0).kp S5 kp6 fw.1 fw.2.1
        have k6 := k4.trans ((Kp.of se0).trans kp6)
        by_cases hu : u = 0
        · refine ifT (by simp [hu]) ?_
          obtain ⟨ws6, ew6, rw6⟩ := id W6
          have hl6 : ws6.length = es.length := by rw [(rw6 0).len, List.length_map]
          refine ⟨_, rfl, .inl ⟨rfl, _, SqL.of ew6⟩, _, rfl, _, rfl, wl, ws6, rfl, .inl (SqL.of ew6), d, g, c, _, _, rfl, S6, by omega, by omega, by omega, fun u7 H7 v0 v1 S7 kp7 => ?_⟩
          obtain ⟨ws7, ew7, rw7⟩ := W6.kp S6 kp7 fw.1 fw.2.1
          have hl7 : ws7.length = es.length := by rw [(rw7 0).len, List.length_map]
          have hi7 : u7.toNat < ws7.length := by omega
          refine ⟨wl, ws7, u7, u7.toNat, ws7[u7.toNat], rfl, rfl, ew7, by omega, by omega, seqIndex_of v0 (by omega), List.getElem?_eq_getElem hi7, ?_⟩
          have kt : Kt H7 (upd H7 wl (HO.lst (ws7.eraseIdx u7.toNat))) := Kt.put ew7
          refine ⟨hv, es.eraseIdx u7.toNat, rfl, ⟨_, upd_same, fun g' => ?_⟩, ?_, fun e he => hes e (List.mem_of_mem_eraseIdx he), (S7.upF fw.1 fw.2.1 fw.2.2).mono (by omega), (k6.trans kp7).upF hwl0⟩
          · rw [← map_erase]
            exact DVs.keepP (g := 0) kt (by rw [map_erase]; exact eds_pur _) (DVs.erase u7.toNat (rw7 0))
          · have := List.length_eraseIdx_le es u7.toNat
            omega
        · exact ifF (by simp [hu]) ⟨hv, es, rfl, W6, by omega, hes, S6.mono (by omega), k6⟩
    clear W4 S4 k4 hes hlen es hv
    rintro σ H4 ⟨hv, es, rfl, W4, hlen, hes, S4, k4⟩
    -- more edges
    refine ⟨fun v H' => ∃ m : Nat, v = .int (m : Nat) ∧ m ≤ 3 ∧ (0 < m → 1 < pl) ∧ EdSt wl H' es ∧ StA H' d g c (n + 61) ∧ Kp d g H H', ?_, ?_⟩
    · refine ⟨_, rfl, _, _, rfl, rfl, _, rfl, ?_⟩
      by_cases hp : 1 < pl
      · refine ifT (decide_eq_true (by omega)) ?_
        refine ⟨_, rfl, (by show 4 ≤ sizeLine; decide), fun q5 hq5 => ?_⟩
        generalize hH5 : upd H4 q5 _ = H5
        obtain ⟨sq5, eq5⟩ := freshF hq5 hH5
        have S5 := S4.keep sq5
        refine ⟨d, g, c, q5, _, _, rfl, S5, by omega, eq5, (S4.free hq5).2.1, by simp, (by show 4 ≤ 1000000; decide), fun v H6 hv6 S6 kp6 => ?_⟩
        obtain ⟨m, rfl, hm⟩ : ∃ m : Nat, v = .int (m : Nat) ∧ m ≤ 3 := by
          simp only [List.mem_cons, List.not_mem_nil, or_false] at hv6
          rcases hv6 with rfl | rfl | rfl | rfl
          · exact ⟨1, rfl, by decide⟩
          · exact ⟨2, rfl, by decide⟩
          · exact ⟨0, rfl, by decide⟩
          · exact ⟨3, rfl, by decide⟩
        exact ⟨m, rfl, hm, fun _ => hp, (W4.keep sq5).kp S5 kp6 fw.1 fw.2.1, S6.mono (by omega), k4.trans ((Kp.of sq5).trans kp6)⟩
      · exact ifF (decide_eq_false (by omega)) ⟨0, rfl, by decide, fun h => absurd h (by decide), W4, S4.mono (by omega), k4⟩
    clear W4 S4 k4
    rintro v H4 ⟨m, rfl, hm, hmp, W4, S4, k4⟩
    refine ⟨_, rfl, by omega, by omega, for_range (lo := 0) (n := ((m : Nat) : Int).toNat)
      (fun i σ H' => ∃ (v7 v8 v9 v10 : Option V) (es : List Ed), σ = [some (.ref d), some (.int at_), some (.int many), some (.int labels), some (.bl low), some (.int pl), some (.ref wl), v7, v8, v9, v10] ∧ EdSt wl H' es ∧ es.length ≤ 4 + i ∧ (∀ e ∈ es, DrN pl many labels e) ∧ StA H' d g c (n + 61 + 20 * i) ∧ Kp d g H H')
      ⟨hv, none, none, none, es, rfl, W4, hlen, hes, S4, k4⟩ ?_ ?_⟩
    · rintro i σ H5 hi ⟨v7, v8, v9, v10, es, rfl, W5, hlen, hes, S5, k5⟩
      rw [Int.toNat_natCast] at hi
      have hpl := hmp (by omega)
      refine ⟨_, rfl, _, rfl, _, _, rfl, rfl, d, g, c, _, pl - 1, rfl, S5, by omega, by omega, by omega, fun u H6 u0 u1 S6 kp6 => ?_⟩
      have W6 := W5.kp S5 kp6 fw.1 fw.2.1
      refine ⟨_, rfl, _, rfl, d, g, c, _, pl, rfl, S6, by omega, by omega, by omega, fun t H7 t0 t1 S7 kp7 => ?_⟩
      have W7 := W6.kp S6 kp7 fw.1 fw.2.1
      refine ⟨_, _, rfl, ?_⟩
      have k7 := k5.trans (kp6.trans kp7)
      -- calls
      refine ⟨fun σ H' => ∃ (ca : Addr) (cs : List Int), σ = [some (.ref d), some (.int at_), some (.int many), some (.int labels), some (.bl low), some (.int pl), some (.ref wl), some (.int u), some (.int (0 + (i : Nat))), some (.int t), some (.ref ca)] ∧ H' ca = some (.lst (cs.map V.int)) ∧ ca ≠ d ∧ ca ≠ g ∧ (∀ j ∈ cs, 0 ≤ j ∧ j < many) ∧ cs.length ≤ 100 ∧ EdSt wl H' es ∧ StA H' d g c (n + 61 + 20 * i + 3) ∧ Kp d g H H', ?_, ?_⟩
      · refine ⟨_, rfl, d, g, c, _, 3, rfl, S7, by omega, by decide, by decide, fun u8 H8 _ _ S8 kp8 => ⟨rfl, _, rfl, ?_⟩⟩
        have W8 := W7.kp S7 kp8 fw.1 fw.2.1
        have k8 := k7.trans kp8
        by_cases hu : u8 = 0
        · refine ifT (by simp [hu]) ?_
          refine ⟨_, rfl, _, rfl, RgOk.of_le (by omega) (by omega) (by omega) (by omega), fun ca hca => ?_⟩
          generalize hH9 : upd H8 ca _ = H9
          obtain ⟨sca, eca⟩ := freshF hca hH9
          have fc := S8.free hca
          exact ⟨ca, rgI 0 many, rfl, by rw [eca, rgV_eq], fc.1, fc.2.1, fun j hj => rgI_mem hj, by rw [rgI_len]; omega, W8.keep sca, S8.keep sca, k8.trans (Kp.of sca)⟩
        · refine ifF (by simp [hu]) ?_
          refine ⟨Nat.zero_le _, fun ca hca => ?_⟩
          generalize hH9 : upd H8 ca _ = H9
          obtain ⟨sca, eca⟩ := freshF hca hH9
          have fc := S8.free hca
          exact ⟨ca, [], rfl, eca, fc.1, fc.2.1, (fun j hj => by cases hj), by decide, W8.keep sca, S8.keep sca, k8.trans (Kp.of sca)⟩
      clear W5 W6 W7 S5 S6 S7 kp6 kp7 k5 k7
      rintro σ H6 ⟨ca, cs, rfl, eca, nd, ng, hcs, hcl, W6, S6, k6⟩
      obtain ⟨ws6, ew6, rw6⟩ := id W6
      refine ⟨_, rfl, .inl ⟨rfl, _, SqL.of ew6⟩, _, rfl, _, rfl, _, rfl, _, rfl, _, rfl, _, rfl, d, g, c, ca, _, u, t, labels, cs, low, rfl, S6, by omega, eca, nd, ng, by omega, hl0, hl1, fun v e H7 he1 he2 hdr S7 kp7 hv7 => ?_⟩
      obtain ⟨ws7, ew7, rw7⟩ := W6.kp S6 kp7 fw.1 fw.2.1
      have hl7 : ws7.length = es.length := by rw [(rw7 0).len, List.length_map]
      refine ⟨wl, ws7, v, rfl, rfl, ew7, by rw [hl7, sizeLine_eq]; omega, _, _, _, _, es ++ [e], rfl, EdSt.add ew7 rw7 hv7, by rw [List.length_append]; show es.length + 1 ≤ _; omega, ?_, (S7.upF fw.1 fw.2.1 fw.2.2).mono (by omega), (k6.trans kp7).upF hwl0⟩
      intro x hx
      rcases List.mem_append.mp hx with hx | hx
      · exact hes x hx
      · rw [List.mem_singleton.mp hx]
        refine ⟨by rw [he1]; omega, by rw [he2]; omega, fun j hj => ?_, hdr.b, hdr.l, hdr.k⟩
        exact hcs j (hdr.c j hj)
    clear W4 S4 k4 hes hlen es
    rintro σ H4 ⟨v7, v8, v9, v10, es, rfl, W4, hlen, hes, S4, k4⟩
    rw [Int.toNat_natCast] at hlen S4
    obtain ⟨ws4, ew4, rw4⟩ := id W4
    have hlw : ws4.length = es.length := by rw [(rw4 0).len, List.length_map]
    refine ⟨_, rfl, _, rfl, _, rfl, d, g, c, wl, _, ws4, rfl, S4, by omega, ew4, by omega, fun p ys H5 hperm S5 kp5 hp ep => ?_⟩
    have kt5 := Kt.kp S4 kp5
    obtain ⟨es', pm, r5⟩ := perm_dvs hperm es (DVs.keepP (g := 0) (g' := 0) kt5 (eds_pur es) (rw4 0))
    refine ⟨p, ys, rfl, .inl ⟨SqL.of ep, fun l hl => ?_⟩⟩
    generalize hH6 : upd H5 l _ = H6
    obtain ⟨sl, el⟩ := freshF hl hH6
    refine ⟨(by show 2 ≤ sizeLine; decide), fun t ht => ?_⟩
    generalize hH7 : upd H6 t _ = H7
    obtain ⟨st, et⟩ := freshF ht hH7
    have s57 := sl.trans st
    have hel : es'.length = es.length := pm.length_eq
    refine k _ (pl, es') H7 hp1 hp5 (by show es'.length ≤ 7; omega) (fun e he => hes e (pm.mem_iff.mp he)) ((S5.keep s57).mono (by omega)) (k4.trans (kp5.trans (Kp.of s57))) fun g' => ?_
    refine .tup et (by show 2 ≤ 20000; decide) (.cons (.int _) (.cons (.tup (st _ _ el) (by show (es'.map edD).length ≤ 20000; rw [List.length_map]; omega) ?_) .nil))
    exact DVs.keepP (g := 0) (Kt.of s57) (eds_pur es') r5
end
end K66

set_option Elab.async false
set_option linter.all false
set_option pp.maxSteps 900
set_option maxRecDepth 100000
set_option maxHeartbeats 4000000
namespace K66
open PySem PySem.Spec PyProof.Rows L2
open TL (tl)
theorem nt_pur (n : Int × List Ed) : pur (ntD n) = true := by
  show (true && (purs (n.2.map edD) && true)) = true
  rw [eds_pur]
  rfl
theorem nts_pur (ns : List (Int × List Ed)) : purs (ns.map ntD) = true := purs_map fun n _ => nt_pur n
theorem wb_pur (W : Web) : pur (wbD W) = true := by
  show (true && (purs (W.ns.map ntD) && true)) = true
  rw [nts_pur]
  rfl
/-- a web that the law draws -/
structure DrW (W : Web) : Prop where
  ok : OkW W
  lb : W.lb ≤ 5
  n : W.ns.length ≤ 4
  p : ∀ n ∈ W.ns, n.1 ≤ 5
  e : ∀ n ∈ W.ns, n.2.length ≤ 7
  l : ∀ n ∈ W.ns, ∀ e ∈ n.2, e.l.length ≤ 3
def spWW : Sp := fun vs H Q _ => ∃ (d g c : Addr) (n : Nat) (low : Bool), vs = [.ref d, .bl low] ∧ StA H d g c n ∧ n ≤ 700000000 ∧
  ∀ (v : V) (W : Web) (H' : Hp), DrW W → StA H' d g c (n + 1000) → Kp d g H H' → (∀ g', DV g' H' v (wbD W)) → Q v H'
theorem sum_le {l : List Int} {b : Int} (h : ∀ x ∈ l, x ≤ b) : l.sum ≤ l.length * b := by
  induction l with
  | nil => simp
  | cons x l ih =>
    have h1 := h x List.mem_cons_self
    have h2 := ih fun y hy => h y (List.mem_cons_of_mem _ hy)
    rw [List.sum_cons, List.length_cons]
    have : (((l.length + 1 : Nat) : Int)) * b = l.length * b + b := by rw [Int.natCast_add, Int.add_mul]; simp
    omega
theorem drw_of {lb many : Int} {ns : List (Int × List Ed)} (hl : 0 ≤ lb ∧ lb ≤ 5) (h1 : 1 ≤ ns.length) (h4 : ns.length ≤ 4) (hm : many = ns.length) (hp : ∀ n ∈ ns, 1 ≤ n.1 ∧ n.1 ≤ 5 ∧ n.2.length ≤ 7) (he : ∀ n ∈ ns, ∀ e ∈ n.2, DrN n.1 many lb e) : DrW ⟨lb, ns⟩ := by
  have hs1 : (ns.map (·.1)).sum ≤ 4000 := by
    have := sum_le (l := ns.map (·.1)) (b := 5) fun x hx => by
      obtain ⟨n, hn, rfl⟩ := List.mem_map.mp hx
      exact (hp n hn).2.1
    rw [List.length_map] at this
    omega
  have hs2 : (ns.map fun n => (n.2.length : Int)).sum ≤ 8000 := by
    have := sum_le (l := ns.map fun n => (n.2.length : Int)) (b := 7) fun x hx => by
      obtain ⟨n, hn, rfl⟩ := List.mem_map.mp hx
      have := (hp n hn).2.2
      show (n.2.length : Int) ≤ 7
      omega
    rw [List.length_map] at this
    omega
  refine ⟨⟨⟨hl.1, by show lb ≤ 4000; omega⟩, h1, by show ns.length ≤ 400; omega, fun n hn => (hp n hn).1, hs1, hs2, fun n hn e hm' => ?_⟩, hl.2, h4, fun n hn => (hp n hn).2.1, fun n hn => (hp n hn).2.2, fun n hn e hm' => (he n hn e hm').l⟩
  have h := he n hn e hm'
  have hl' := h.l
  refine ⟨h.p, h.t, fun i hi => ?_, h.b, by omega, fun i hi => ?_⟩
  · have := h.c i hi
    show 0 ≤ i ∧ i ≤ (ns.length : Int) - 1
    omega
  · have := h.k i hi
    show 0 ≤ i ∧ i ≤ lb - 1
    omega
section
variable {P : Program} {w : World} {K : PySem.W.Frag} {mg : Str → Option Value} {base : Heap}
theorem scWw : FnScope ["state", "low", "many", "labels", "at"] ["state", "low"] (defScope sWW) := ⟨rfl, rfl, rfl, by decide +kernel, rfl, by decide +kernel, by decide +kernel⟩
theorem ok_ww {f : Addr} {fd : FuncData} (F : Fun K "_law_wb_web" "_law_wb_web" sWW f fd) (T : Bn mg) (cP : Cl P w K mg base "_law_pick" ["state", "some"] 3 spPck) (cWN : Cl P w K mg base "_law_wb_net" ["state", "at", "many", "labels", "low"] 5 spWN) : FnOk P w K mg base CX0 6 f fd ["state", "low"] spWW := by
  obtain ⟨fP, fdP, GP, mP, kP, bP⟩ := cP
  obtain ⟨fWN, fdWN, GWN, mWN, kWN, bWN⟩ := cWN
  refine F.ok scWw (fun vs H Q E h => ?_) (fun cdv A outer s H vs Q E hr h => ?_)
  · obtain ⟨d, g, c, n, lo, rfl, _⟩ := h
    rfl
  · obtain ⟨d, g, c, n, low, rfl, S, hn, k⟩ := h
    have hr3 : Room 3 _ := hr.mono (by decide)
    refine ⟨_, (pss_cons (ps_asg (pe_tup (pa_cons (pe_call GP hr3 (by rfl) mP kP bP .nil pass0 (pa_cons (pv 0) (pa_cons (pe_lst (pa_cons pe_int (pa_cons pe_int (pa_cons pe_int (pa_cons pe_int pa_nil))))) pa_nil))) (pa_cons (pe_call GP hr3 (by rfl) mP kP bP .nil pass0 (pa_cons (pv 0) (pa_cons (pe_lst (pa_cons pe_int (pa_cons pe_int (pa_cons pe_int (pa_cons pe_int (pa_cons pe_int (pa_cons pe_int pa_nil))))))) pa_nil))) pa_nil))) (pg_tup (by rfl) (pgs_cons (pg_name (i := 2) scWw.nd rfl (Or.inr rfl)) (pgs_cons (pg_name (i := 3) scWw.nd rfl (Or.inr rfl)) pgs_nil))))
      (pss_one (ps_ret (pe_tup (pa_cons (pv 3) (pa_cons (pe_callTy call_tuple_of (by rfl) T.tpl (by decide +kernel) (pa_cons (pe_lc (own := [("at", 4)]) (g := gName 4) (tt := tYes) (by rfl) scWw.nd (pi_range1 (by rfl) T.rng (pa_cons (pv 2) pa_nil)) (blkOk_by (own := [("at", 4)]) (N := ["state", "low", "many", "labels", "at"]) (sc := defScope sWW) (by decide +kernel)) (fun _ _ _ _ _ => (pg_name (i := 4) scWw.nd rfl (Or.inl rfl))) (fun _ _ _ _ _ => pts_nil) (fun _ _ _ _ _ => (pe_call GWN hr (by rfl) mWN kWN bWN .nil pass0 (pa_cons (pv 0) (pa_cons (pv 4) (pa_cons (pv 2) (pa_cons (pv 3) (pa_cons (pv 1) pa_nil)))))))) pa_nil)) pa_nil)))))), ?_⟩
    refine ⟨_, rfl, (by show 4 ≤ sizeLine; decide), fun q hq => ?_⟩
    generalize hH1 : upd H q _ = H1
    obtain ⟨sq, eq⟩ := freshF hq hH1
    have S1 := S.keep sq
    refine ⟨d, g, c, q, _, _, rfl, S1, by omega, eq, (S.free hq).2.1, by simp, (by show 4 ≤ 1000000; decide), fun v H2 hv S2 kp2 => ?_⟩
    obtain ⟨m, rfl, hm1, hm4⟩ : ∃ m : Nat, v = .int (m : Nat) ∧ 1 ≤ m ∧ m ≤ 4 := by
      simp only [List.mem_cons, List.not_mem_nil, or_false] at hv
      rcases hv with rfl | rfl | rfl | rfl
      · exact ⟨2, rfl, by decide, by decide⟩
      · exact ⟨1, rfl, by decide, by decide⟩
      · exact ⟨3, rfl, by decide, by decide⟩
      · exact ⟨4, rfl, by decide, by decide⟩
    refine ⟨_, rfl, (by show 6 ≤ sizeLine; decide), fun q3 hq3 => ?_⟩
    generalize hH3 : upd H2 q3 _ = H3
    obtain ⟨sq3, eq3⟩ := freshF hq3 hH3
    have S3 := S2.keep sq3
    refine ⟨d, g, c, q3, _, _, rfl, S3, by omega, eq3, (S2.free hq3).2.1, by simp, (by show 6 ≤ 1000000; decide), fun v H4 hv S4 kp4 => ?_⟩
    obtain ⟨lb, rfl, hlb⟩ : ∃ l : Int, v = .int l ∧ 0 ≤ l ∧ l ≤ 5 := by
      simp only [List.mem_cons, List.not_mem_nil, or_false] at hv
      rcases hv with rfl | rfl | rfl | rfl | rfl | rfl <;> exact ⟨_, rfl, by decide, by decide⟩
    have k4 : Kp d g H H4 := (Kp.of sq).trans (kp2.trans ((Kp.of sq3).trans kp4))
    refine ⟨(by show 2 ≤ sizeLine; decide), fun tp htp => ?_⟩
    generalize hH4a : upd H4 tp _ = H4a
    obtain ⟨stp, etp⟩ := freshF htp hH4a
    refine ⟨tp, _, rfl, SqT.of etp, rfl, _, _, rfl, _, _, rfl, rfl, ?_⟩
    have S4 := S4.keep stp
    have k4 := k4.trans (Kp.of stp)
    refine ⟨_, rfl, _, rfl, _, rfl, by omega, by omega, ?_⟩
    intro D hD
    have fD := S4.free hD
    refine lc_it (walk_range (lo := 0) (n := ((m : Nat) : Int).toNat)) (fun i H' => ∃ (ws : List V) (ns : List (Int × List Ed)), H' D = some (.lst ws) ∧ (∀ g', DVs g' H' ws (ns.map ntD)) ∧ ns.length = i ∧ (∀ x ∈ ns, 1 ≤ x.1 ∧ x.1 ≤ 5 ∧ x.2.length ≤ 7) ∧ (∀ x ∈ ns, ∀ e ∈ x.2, DrN x.1 (m : Nat) lb e) ∧ StA H' d g c (n + 2 + 200 * i) ∧ Kp d g H4a H')
      ⟨[], [], upd_same, fun g' => .nil, rfl, (fun x hx => by cases hx), (fun x hx => by cases hx), S4.keep (same_new hD), Kp.of (same_new hD)⟩ (fun _ _ _ _ => trivial) ?_ ?_
    · rintro i x H5z H5 hi ⟨ws, ns, e5, r5, hl, hp, he, S5, k5⟩ ⟨rfl, rfl⟩
      rw [Int.toNat_natCast] at hi
      refine ⟨rfl, ?_⟩
      refine ⟨_, rfl, _, rfl, _, rfl, _, rfl, _, rfl, d, g, c, _, 0 + (i : Nat), (m : Nat), lb, low, rfl, S5, by omega, by omega, by omega, by omega, by omega, by omega, fun v nt H6 h1 h5 h7 hdr S6 kp6 hv => ?_⟩
      have e6 := kp6 _ _ e5 fD.1 fD.2.1
      have kt6 := Kt.kp S5 kp6
      have hlw : ws.length = i := by rw [(r5 0).len, List.length_map, hl]
      have ktp : Kt H6 (upd H6 D (HO.lst (ws ++ [v]))) := Kt.put e6
      refine ⟨_, e6, by rw [hlw, sizeLine_eq]; omega, _, ns ++ [nt], upd_same, fun g' => ?_, by rw [List.length_append, hl]; rfl, ?_, ?_, (S6.upF fD.1 fD.2.1 fD.2.2).mono (by omega), (k5.trans kp6).upF hD⟩
      · rw [List.map_append]
        exact DVs.app (DVs.keepP (g := 0) (fun b xs e => ktp _ _ (kt6 _ _ e)) (nts_pur ns) (r5 0)) (.cons (DV.keepP (g := 0) ktp (nt_pur nt) (hv 0)) .nil)
      · intro x hx
        rcases List.mem_append.mp hx with hx | hx
        · exact hp x hx
        · rw [List.mem_singleton.mp hx]
          exact ⟨h1, h5, h7⟩
      · intro x hx
        rcases List.mem_append.mp hx with hx | hx
        · exact he x hx
        · rw [List.mem_singleton.mp hx]
          exact hdr
    · rintro H5 ⟨ws, ns, e5, r5, hl, hp, he, S5, k5⟩
      rw [Int.toNat_natCast] at hl S5
      refine ⟨D, ws, rfl, .inl ⟨SqL.of e5, fun l0 hl0 => ?_⟩⟩
      generalize hH6 : upd H5 l0 _ = H6
      obtain ⟨sl0, el0⟩ := freshF hl0 hH6
      refine ⟨(by show 2 ≤ sizeLine; decide), fun t ht => ?_⟩
      generalize hH7 : upd H6 t _ = H7
      obtain ⟨st, et⟩ := freshF ht hH7
      have s57 := sl0.trans st
      refine k _ ⟨lb, ns⟩ H7 (drw_of hlb (by omega) (by omega) (by omega) hp he) ((S5.keep s57).mono (by omega)) (k4.trans (k5.trans (Kp.of s57))) fun g' => ?_
      refine .tup et (by show 2 ≤ 20000; decide) (.cons (.int _) (.cons (.tup (st _ _ el0) (by show (ns.map ntD).length ≤ 20000; rw [List.length_map]; omega) ?_) .nil))
      exact DVs.keepP (g := 0) (Kt.of s57) (nts_pur ns) (r5 0)
end
end K66

set_option Elab.async false
set_option linter.all false
set_option pp.maxSteps 900
set_option maxRecDepth 100000
set_option maxHeartbeats 4000000
namespace K66
open PySem PySem.Spec PyProof.Rows L2
open TL (tl)
abbrev sSum : Stmt := top 38
abbrev sOwn : Stmt := top 39
abbrev sWhs : Stmt := top 41
abbrev sPow : Stmt := top 48
def spSum : Sp := fun vs H Q _ => ∃ (p q : Addr) (xs ys : List Int) (t : Int), vs = [.ref p, .ref q, .int t] ∧ H p = some (.lst (xs.map V.int)) ∧ H q = some (.lst (ys.map V.int)) ∧ xs.length = ys.length ∧ xs.length ≤ 5000 ∧ -(2 ^ 64) < t ∧ t < 2 ^ 64 ∧
  ∀ (D : Addr) (H' : Hp), Same H H' → H D = none → H' D = some (.lst ((List.zipWith (fun a b => a + t * b) xs ys).map V.int)) → Q (.ref D) H'
/-- a label more, for each of the names -/
def bump (v : List Int) (l : List Int) : List Int := l.foldl (fun v k => v.set k.toNat (v.getD k.toNat 0 + 1)) v
def own (lb : Int) (e : Ed) : List Int := bump (List.replicate lb.toNat 0 ++ [e.b]) e.l
theorem bump_len (l : List Int) : ∀ v : List Int, (bump v l).length = v.length := by
  induction l with
  | nil => intro v; rfl
  | cons k l ih =>
    intro v
    show (bump (v.set k.toNat (v.getD k.toNat 0 + 1)) l).length = _
    rw [ih, List.length_set]
theorem own_len {lb : Int} (e : Ed) : (own lb e).length = lb.toNat + 1 := by
  unfold own
  rw [bump_len, List.length_append, List.length_replicate]
  rfl
def spOwn : Sp := fun vs H Q _ => ∃ (g : Addr) (vw ve : V) (W : Web) (e : Ed), vs = [vw, ve] ∧ DV g H vw (wbD W) ∧ 0 ≤ W.lb ∧ W.lb ≤ 4000 ∧ DV g H ve (edD e) ∧ (∀ i ∈ e.l, 0 ≤ i ∧ i ≤ W.lb - 1) ∧
  ∀ (D : Addr) (H' : Hp), Same H H' → H D = none → H' D = some (.lst ((own W.lb e).map V.int)) → Q (.ref D) H'
section
variable {P : Program} {w : World} {K : PySem.W.Frag} {mg : Str → Option Value} {base : Heap}
theorem scSum : FnScope ["one", "other", "times", "a", "b"] ["one", "other", "times"] (defScope sSum) := ⟨rfl, rfl, rfl, by decide +kernel, rfl, by decide +kernel, by decide +kernel⟩
theorem ok_sum {f : Addr} {fd : FuncData} (F : Fun K "_law_wb_sum" "_law_wb_sum" sSum f fd) (T : Bn mg) : FnOk P w K mg base CX0 1 f fd ["one", "other", "times"] spSum := by
  refine F.ok scSum (fun vs H Q E h => ?_) (fun cdv A outer s H vs Q E hr h => ?_)
  · obtain ⟨p, q, xs, ys, t, rfl, _⟩ := h
    rfl
  · obtain ⟨p, q, xs, ys, t, rfl, hp, hq, hl, hx, t0, t1, k⟩ := h
    refine ⟨_, (pss_one (ps_ret (pe_lc (own := [("a", 3), ("b", 4)]) (g := gTup K 2 (gCons (gName 3) (gCons (gName 4) gNil))) (tt := tYes) (by rfl) scSum.nd (pi_zip (by rfl) T.zip (pa_cons (pv 0) (pa_cons (pv 1) pa_nil))) (blkOk_by (own := [("a", 3), ("b", 4)]) (N := ["one", "other", "times", "a", "b"]) (sc := defScope sSum) (by decide +kernel)) (fun _ _ _ _ _ => (pg_tup (by rfl) (pgs_cons (pg_name (i := 3) scSum.nd rfl (Or.inl rfl)) (pgs_cons (pg_name (i := 4) scSum.nd rfl (Or.inl rfl)) pgs_nil)))) (fun _ _ _ _ _ => pts_nil) (fun _ _ _ _ _ => (pe_op op_add (pv 3) (pe_op op_mul (pv 2) (pv 4))))))), ?_⟩
    refine ⟨_, rfl, _, rfl, p, q, _, _, rfl, SqL.of hp, SqL.of hq, fun D hD => ?_⟩
    refine lc_it (walk_zip (K := K) (a := p) (b := q) (xs := xs.map V.int) (ys := ys.map V.int) (n := xs.length) (by rw [List.length_map, List.length_map]; omega)) (fun i H' => H' D = some (.lst (((List.zipWith (fun a b => a + t * b) xs ys).take i).map V.int)) ∧ Same H H') ⟨upd_same, same_new hD⟩ (fun _ _ _ h => ⟨SqL.of (h.2 _ _ hp), SqL.of (h.2 _ _ hq)⟩) ?_ ?_
    · rintro i x H1 H1z hi ⟨e1, s1⟩ ⟨T0, x', y', rfl, hT, rfl, hx', hy'⟩
      have hx2 : (xs.map V.int)[i]? = some x' := hx'
      have hy2 : (ys.map V.int)[i]? = some y' := hy'
      rw [List.getElem?_map] at hx2 hy2
      obtain ⟨a, ha, rfl⟩ := Option.map_eq_some_iff.mp hx2
      obtain ⟨b, hb, rfl⟩ := Option.map_eq_some_iff.mp hy2
      have sT := same_new (o := .tup [V.int a, V.int b]) hT
      generalize hH2 : upd H1 T0 _ = H2
      have eT : H2 T0 = some (.tup [V.int a, V.int b]) := by rw [← hH2, upd_same]
      have s12 : Same H1 H2 := by rw [← hH2]; exact sT
      have e2 := s12 _ _ e1
      refine ⟨T0, _, rfl, SqT.of eT, rfl, _, _, rfl, _, _, rfl, rfl, rfl, ?_⟩
      refine ⟨_, rfl, _, rfl, _, rfl, _, _, rfl, rfl, .inl ⟨t0, t1⟩, _, _, rfl, rfl, _, e2, ?_, ?_, ?_⟩
      · rw [List.length_map, List.length_take, sizeLine_eq]
        omega
      · rw [upd_same, List.take_succ, List.getElem?_zipWith, ha, hb, List.map_append]
        rfl
      · intro b' o eb
        rw [upd_ne (ne_of_none eb hD)]
        exact s12 _ _ (s1 _ _ eb)
    · rintro H1 ⟨e1, s1⟩
      rw [List.take_of_length_le (by rw [List.length_zipWith]; omega)] at e1
      exact k D H1 s1 hD e1
theorem scOwn : FnScope ["web", "edge", "found", "name"] ["web", "edge"] (defScope sOwn) := ⟨rfl, rfl, rfl, by decide +kernel, rfl, by decide +kernel, by decide +kernel⟩
theorem ok_own {f : Addr} {fd : FuncData} (F : Fun K "_law_wb_own" "_law_wb_own" sOwn f fd) (T : Bn mg) : FnOk P w K mg base CX0 1 f fd ["web", "edge"] spOwn := by
  refine F.ok scOwn (fun vs H Q E h => ?_) (fun cdv A outer s H vs Q E hr h => ?_)
  · obtain ⟨g, a, b, W, e, rfl, _⟩ := h
    rfl
  · obtain ⟨g, vw, ve, W, e, rfl, hw, hl0, hl1, he, hlab, k⟩ := h
    refine ⟨_, (pss_cons (ps_set (i := 2) scOwn.nd rfl (Or.inl rfl) (pe_op op_cat (pe_op op_rep (pe_lst (pa_cons pe_int pa_nil)) (pe_ix ix_tup (pv 0) pe_int (fun _ _ => rfl))) (pe_lst (pa_cons (pe_ix ix_tup (pv 1) pe_int (fun _ _ => rfl)) pa_nil))))
      (pss_cons (ps_for PassesOwn.never rfl (pi_tup (pe_ix ix_tup (pv 1) pe_int (fun _ _ => rfl))) (pg_name (i := 3) scOwn.nd rfl (Or.inl rfl))
          (pss_one (ps_asg (pe_op op_add (pe_ix ix_list (pv 2) (pv 3) (fun _ _ => rfl)) pe_int) (pg_sub (pv 2) (pv 3) set_list))))
      (pss_one (ps_ret (pv 2))))), ?_⟩
    obtain ⟨b0, c0, xn, rfl, eb0, ec0, rn⟩ := wb_at hw
    obtain ⟨b1, a1, rfl, eb1, xl, ea1, rl⟩ := ed_at he
    refine ⟨(by show 1 ≤ sizeLine; decide), fun z1 hz1 => ?_⟩
    generalize hH1 : upd H z1 _ = H1
    obtain ⟨sz1, ez1⟩ := freshF hz1 hH1
    refine ⟨_, rfl, b0, _, 0, _, rfl, rfl, SqT.of (sz1 _ _ eb0), atI_nat (j := 0) rfl, z1, W.lb, _, rfl, rfl, ez1, by omega, by omega, by show 1 * W.lb.toNat ≤ sizeLine; rw [sizeLine_eq]; omega, fun z2 hz2 => ?_⟩
    generalize hH2 : upd H1 z2 _ = H2
    obtain ⟨sz2, ez2⟩ := freshF hz2 hH2
    have s02 := sz1.trans sz2
    refine ⟨_, rfl, b1, _, 3, _, rfl, rfl, SqT.of (s02 _ _ eb1), atI_nat (j := 3) rfl, (by show 1 ≤ sizeLine; decide), fun z3 hz3 => ?_⟩
    generalize hH3 : upd H2 z3 _ = H3
    obtain ⟨sz3, ez3⟩ := freshF hz3 hH3
    have hrep : (List.replicate W.lb.toNat [V.int 0]).flatten = (List.replicate W.lb.toNat (0 : Int)).map V.int := by
      generalize W.lb.toNat = m
      induction m with
      | zero => rfl
      | succ m ih => rw [List.replicate_succ, List.flatten_cons, ih, List.replicate_succ, List.map_cons]; rfl
    have ez2' : H3 z2 = some (.lst ((List.replicate W.lb.toNat (0 : Int)).map V.int)) := by
      rw [← hrep]
      exact sz3 _ _ ez2
    refine ⟨z2, z3, _, _, rfl, rfl, ez2', ez3, by rw [List.length_map, List.length_replicate, sizeLine_eq]; show _ + 1 ≤ _; omega, fun z4 hz4 => ?_⟩
    generalize hH4 : upd H3 z4 _ = H4
    obtain ⟨sz4, ez4⟩ := freshF hz4 hH4
    have s03 := s02.trans sz3
    have s04 := s03.trans sz4
    have hz40 : H z4 = none := s03.free hz4
    have ez4' : H4 z4 = some (.lst ((List.replicate W.lb.toNat (0 : Int) ++ [e.b]).map V.int)) := by
      rw [ez4, List.map_append]
      rfl
    have hxl : xl.length = e.l.length := by rw [rl.len, List.length_map]
    refine ⟨_, rfl, b1, _, 4, _, rfl, rfl, SqT.of (s04 _ _ eb1), atI_nat (j := 4) rfl, a1, rfl, ⟨_, SqT.of (s04 _ _ ea1)⟩, for_it (walk_tup (K := K) (a := a1) (xs := xl))
      (fun i σ H' => ∃ nm : Option V, σ = [some (.ref b0), some (.ref b1), some (.ref z4), nm] ∧ H' z4 = some (.lst ((bump (List.replicate W.lb.toNat (0 : Int) ++ [e.b]) (e.l.take i)).map V.int)) ∧ Same H H')
      ⟨none, rfl, ez4', s04⟩ (fun i σ H' _ ⟨_, _, _, s⟩ => SqT.of (s _ _ ea1)) ?_ ?_⟩
    · rintro i x σ H5 H5z hi ⟨nm, rfl, e5, s5⟩ ⟨rfl, hx⟩
      obtain ⟨dk, hdk, hxd⟩ := rl.at_ hx
      rw [List.getElem?_map] at hdk
      obtain ⟨kk, hkk, rfl⟩ := Option.map_eq_some_iff.mp hdk
      obtain rfl := hxd.int_inv
      obtain ⟨k0, k1⟩ := hlab kk (List.mem_of_getElem? hkk)
      have hbl : (bump (List.replicate W.lb.toNat (0 : Int) ++ [e.b]) (e.l.take i)).length = W.lb.toNat + 1 := by
        rw [bump_len, List.length_append, List.length_replicate]
        rfl
      generalize hbv : bump (List.replicate W.lb.toNat (0 : Int) ++ [e.b]) (e.l.take i) = bv at *
      have hk : kk.toNat < bv.length := by omega
      have hget : (bv.map V.int)[kk.toNat]? = some (V.int (bv.getD kk.toNat 0)) := by
        rw [List.getElem?_map, List.getElem?_eq_getElem hk, List.getD_eq_getElem?_getD, List.getElem?_eq_getElem hk]
        rfl
      refine ⟨_, rfl, _, rfl, z4, _, kk, _, rfl, rfl, SqL.of e5, at_int k0 hget, _, _, rfl, rfl, ?_⟩
      have hix : ixN (bv.map V.int).length kk = some kk.toNat := by
        unfold ixN
        rw [List.length_map]
        rw [if_pos k0, if_pos (by omega)]
      refine ⟨_, rfl, _, rfl, z4, _, kk, kk.toNat, rfl, rfl, e5, hix, _, rfl, ?_, ?_⟩
      · rw [upd_same, List.take_succ, hkk]
        have hb2 : bump (List.replicate W.lb.toNat (0 : Int) ++ [e.b]) (e.l.take i ++ [kk]) = bv.set kk.toNat (bv.getD kk.toNat 0 + 1) := by
          rw [← hbv]
          unfold bump
          rw [List.foldl_append]
          rfl
        rw [show e.l.take i ++ (some kk).toList = e.l.take i ++ [kk] from rfl, hb2, List.map_set]
      · intro b' o eb
        rw [upd_ne (ne_of_none eb hz40)]
        exact s5 _ _ eb
    · rintro σ H5 ⟨nm, rfl, e5, s5⟩
      rw [hxl, List.take_length] at e5
      exact ⟨_, rfl, k z4 H5 s5 hz40 e5⟩
end
end K66

set_option Elab.async false
set_option linter.all false
set_option pp.maxSteps 900
set_option maxRecDepth 100000
set_option maxHeartbeats 4000000
namespace K66
open PySem PySem.Spec PyProof.Rows L2
/-! ### the measure of a word, reckoned in two ways -/
def vadd (a b : List Int) : List Int := List.zipWith (fun x y => x + 1 * y) a b
def vmul (t : Int) (a b : List Int) : List Int := List.zipWith (fun x y => x + t * y) a b
def ev (v : List Int) (x : Nat) : Int := v.getD x 0
theorem ev_vmul {t : Int} {a b : List Int} (h : a.length = b.length) (x : Nat) : ev (vmul t a b) x = ev a x + t * ev b x := by
  unfold ev vmul
  rw [List.getD_eq_getElem?_getD, List.getD_eq_getElem?_getD, List.getD_eq_getElem?_getD, List.getElem?_zipWith]
  by_cases hx : x < a.length
  · rw [List.getElem?_eq_getElem hx, List.getElem?_eq_getElem (by omega)]
    rfl
  · rw [List.getElem?_eq_none (by omega), List.getElem?_eq_none (by omega)]
    simp
theorem ev_vadd {a b : List Int} (h : a.length = b.length) (x : Nat) : ev (vadd a b) x = ev a x + ev b x := by
  have := ev_vmul (t := 1) h x
  rw [Int.one_mul] at this
  exact this
theorem vadd_len {a b : List Int} (h : a.length = b.length) : (vadd a b).length = a.length := by
  unfold vadd
  rw [List.length_zipWith]
  omega
theorem vmul_len {t : Int} {a b : List Int} (h : a.length = b.length) : (vmul t a b).length = a.length := by
  unfold vmul
  rw [List.length_zipWith]
  omega
theorem ev_ext {a b : List Int} (h : a.length = b.length) (e : ∀ x, ev a x = ev b x) : a = b := by
  refine List.ext_getElem h fun x h1 h2 => ?_
  have := e x
  unfold ev at this
  rw [List.getD_eq_getElem?_getD, List.getD_eq_getElem?_getD, List.getElem?_eq_getElem h1, List.getElem?_eq_getElem h2] at this
  exact this
theorem ev_app {a : List Int} {b : Int} (x : Nat) : ev (a ++ [b]) x = if x < a.length then ev a x else if x = a.length then b else 0 := by
  unfold ev
  rw [List.getD_eq_getElem?_getD, List.getD_eq_getElem?_getD]
  by_cases h : x < a.length
  · rw [if_pos h, List.getElem?_append_left h]
  · rw [if_neg h, List.getElem?_append_right (by omega)]
    by_cases h2 : x = a.length
    · rw [if_pos h2, h2, Nat.sub_self]
      rfl
    · rw [if_neg h2, List.getElem?_eq_none (by show 1 ≤ _; omega)]
      rfl
/-- how often a name is told -/
def cnt (l : List Int) (x : Nat) : Int := ((l.filter fun k => decide (k.toNat = x)).length : Nat)
theorem cnt_cons (k : Int) (l : List Int) (x : Nat) : cnt (k :: l) x = (if k.toNat = x then 1 else 0) + cnt l x := by
  unfold cnt
  by_cases h : k.toNat = x
  · rw [List.filter_cons_of_pos (by simpa using h), if_pos h, List.length_cons]
    omega
  · rw [List.filter_cons_of_neg (by simpa using h), if_neg h]
    omega
theorem ev_set {v : List Int} {k : Nat} (h : k < v.length) (y : Int) (x : Nat) : ev (v.set k y) x = if k = x then y else ev v x := by
  unfold ev
  rw [List.getD_eq_getElem?_getD, List.getD_eq_getElem?_getD, List.getElem?_set]
  by_cases hx : k = x
  · rw [if_pos hx, if_pos hx, if_pos h]
    rfl
  · rw [if_neg hx, if_neg hx]
theorem ev_bump : ∀ (l : List Int) (v : List Int), (∀ k ∈ l, k.toNat < v.length) → ∀ x, ev (bump v l) x = ev v x + cnt l x
  | [], v, _, x => by
    show ev v x = ev v x + ((([] : List Int).filter _).length : Nat)
    rw [List.filter_nil]
    simp
  | k :: l, v, h, x => by
    have hk := h k List.mem_cons_self
    show ev (bump (v.set k.toNat (v.getD k.toNat 0 + 1)) l) x = _
    rw [ev_bump l _ (fun j hj => by rw [List.length_set]; exact h j (List.mem_cons_of_mem _ hj)) x, ev_set hk, cnt_cons]
    by_cases hx : k.toNat = x
    · rw [if_pos hx, if_pos hx, hx]
      show ev v x + 1 + cnt l x = _
      omega
    · rw [if_neg hx, if_neg hx]
      omega
/-! #### how often each inner word stands -/
def putT (tm : List (Int × Int)) (j : Int) : List (Int × Int) :=
  if tm.any (fun p => decide (p.1 = j)) = true then tm.map fun p => if p.1 = j then (p.1, p.2 + 1) else p else tm ++ [(j, 1)]
def sumT (M : Int → Int) (tm : List (Int × Int)) : Int := (tm.map fun p => p.2 * M p.1).sum
theorem sumT_put {M : Int → Int} {j : Int} : ∀ {tm : List (Int × Int)}, (tm.map (·.1)).Nodup → sumT M (putT tm j) = sumT M tm + M j := by
  have key : ∀ {tm : List (Int × Int)}, (tm.map (·.1)).Nodup → tm.any (fun p => decide (p.1 = j)) = true → sumT M (tm.map fun p => if p.1 = j then (p.1, p.2 + 1) else p) = sumT M tm + M j := by
    intro tm
    induction tm with
    | nil => intro _ h; cases h
    | cons p tm ih =>
      intro hn ha
      rw [List.map_cons, List.nodup_cons] at hn
      unfold sumT at ih ⊢
      rw [List.map_cons, List.map_cons, List.map_cons, List.sum_cons, List.sum_cons]
      by_cases hp : p.1 = j
      · rw [if_pos hp]
        have hno : tm.map (fun p => if p.1 = j then (p.1, p.2 + 1) else p) = tm := by
          refine (List.map_congr_left fun q hq => ?_).trans (List.map_id tm)
          rw [if_neg]
          · rfl
          · intro h
            exact hn.1 (List.mem_map.mpr ⟨q, hq, h.trans hp.symm⟩)
        rw [hno]
        show (p.2 + 1) * M p.1 + _ = _
        rw [Int.add_mul, Int.one_mul, hp]
        omega
      · rw [if_neg hp]
        have ha' : tm.any (fun p => decide (p.1 = j)) = true := by
          rw [List.any_cons, decide_eq_false hp, Bool.false_or] at ha
          exact ha
        rw [ih hn.2 ha']
        omega
  intro tm hn
  unfold putT
  by_cases h : tm.any (fun p => decide (p.1 = j)) = true
  · rw [if_pos h]
    exact key hn h
  · rw [if_neg h]
    unfold sumT
    rw [List.map_append, List.sum_append]
    simp
theorem putT_nodup {tm : List (Int × Int)} {j : Int} (h : (tm.map (·.1)).Nodup) : ((putT tm j).map (·.1)).Nodup := by
  unfold putT
  by_cases ha : tm.any (fun p => decide (p.1 = j)) = true
  · rw [if_pos ha, List.map_map]
    have : tm.map ((fun p => p.1) ∘ fun p => if p.1 = j then (p.1, p.2 + 1) else p) = tm.map (·.1) := List.map_congr_left fun p _ => by
      show (if p.1 = j then (p.1, p.2 + 1) else p).1 = p.1
      by_cases hp : p.1 = j
      · rw [if_pos hp]
      · rw [if_neg hp]
    rw [this]
    exact h
  · rw [if_neg ha, List.map_append, List.nodup_append]
    refine ⟨h, by simp, fun a h1 b h2 e => ?_⟩
    subst e
    rw [List.mem_singleton.mp h2] at h1
    obtain ⟨p, hp, hp'⟩ := List.mem_map.mp h1
    exact ha (List.any_eq_true.mpr ⟨p, hp, decide_eq_true hp'⟩)
end K66

set_option Elab.async false
set_option linter.all false
set_option pp.maxSteps 900
set_option maxRecDepth 100000
set_option maxHeartbeats 4000000
namespace K66
open PySem PySem.Spec PyProof.Rows L2
open TL (tl)
def wholesB (d : Dt) : Bool := match seqOf d with
  | some l => l.all isInt
  | none => false
def spPow : Sp := fun vs H Q _ => ∃ n : Nat, vs = [.int (n : Nat)] ∧ n ≤ 60 ∧ ∀ H', Same H H' → Q (.int (2 ^ n)) H'
section
variable {P : Program} {w : World} {K : PySem.W.Frag} {mg : Str → Option Value} {base : Heap}
theorem scPow : FnScope ["deep", "found", "lap"] ["deep"] (defScope sPow) := ⟨rfl, rfl, rfl, by decide +kernel, rfl, by decide +kernel, by decide +kernel⟩
theorem ok_pow {f : Addr} {fd : FuncData} (F : Fun K "_law_power" "_law_power" sPow f fd) (T : Bn mg) : FnOk P w K mg base CX0 1 f fd ["deep"] spPow := by
  refine F.ok scPow (fun vs H Q E h => ?_) (fun cdv A outer s H vs Q E hr h => ?_)
  · obtain ⟨n, rfl, _⟩ := h
    rfl
  · obtain ⟨n, rfl, hn, k⟩ := h
    refine ⟨_, (pss_cons (ps_set (i := 1) scPow.nd rfl (Or.inl rfl) pe_int)
      (pss_cons (ps_for PassesOwn.never rfl (pi_range1 (by rfl) T.rng (pa_cons (pv 0) pa_nil)) (pg_name (i := 2) scPow.nd rfl (Or.inl rfl))
          (pss_one (ps_set (i := 1) scPow.nd rfl (Or.inl rfl) (pe_op op_mul (pv 1) pe_int))))
      (pss_one (ps_ret (pv 1))))), ?_⟩
    refine ⟨_, rfl, _, rfl, by omega, by omega, for_range (lo := 0) (n := ((n : Nat) : Int).toNat) (fun i σ H' => ∃ lv : Option V, σ = [some (.int (n : Nat)), some (.int (2 ^ i)), lv] ∧ Same H H') ⟨none, rfl, Same.refl H⟩ ?_ ?_⟩
    · rintro i σ H1 hi ⟨lv, rfl, s1⟩
      refine ⟨_, rfl, _, _, rfl, rfl, .inr (by decide), some (.int (0 + (i : Nat))), ?_, s1⟩
      rw [Int.pow_succ]
      rfl
    · rintro σ H1 ⟨lv, rfl, s1⟩
      rw [Int.toNat_natCast]
      exact ⟨_, rfl, k H1 s1⟩
theorem scWhs : FnScope ["value", "one"] ["value"] (defScope sWhs) := ⟨rfl, rfl, rfl, by decide +kernel, rfl, by decide +kernel, by decide +kernel⟩
theorem ok_whs {f : Addr} {fd : FuncData} (F : Fun K "_law_wb_wholes" "_law_wb_wholes" sWhs f fd) (T : Bn mg) : FnOk P w K mg base CX0 1 f fd ["value"] (spAsk wholesB) := by
  refine F.ok scWhs (fun vs H Q E h => ?_) (fun cdv A outer s H vs Q E hr h => ?_)
  · obtain ⟨g, v, d, rfl, _⟩ := h
    rfl
  · obtain ⟨g, v, d, rfl, hd, k⟩ := h
    refine ⟨_, (pss_cons (ps_if (PW.pt (pw_and (pt_not (pt_val (pe_callB call_isi (by rfl) T.isi (by decide +kernel) (pa_cons (pv 0) (pa_cons (pe_bltn (v := .ty "list") (by rfl) T.lst boot_list rfl) pa_nil))))) (pw_and1 (pt_not (pt_val (pe_callB call_isi (by rfl) T.isi (by decide +kernel) (pa_cons (pv 0) (pa_cons (pe_bltn (v := .ty "tuple") (by rfl) T.tpl boot_tuple rfl) pa_nil)))))))) (pss_one (ps_ret pe_bl)) pss_nil)
      (pss_one (ps_ret (pe_cmpR (op_eqNil hr.units) (pe_lc (own := [("one", 1)]) (g := gName 1) (by rfl) scWhs.nd (pi_or (pi_list (pv 0)) (pi_tup (pv 0))) (blkOk_by (own := [("one", 1)]) (N := ["value", "one"]) (sc := defScope sWhs) (by decide +kernel)) (fun _ _ _ _ _ => (pg_name (i := 1) scWhs.nd rfl (Or.inl rfl))) (fun _ _ _ _ _ => (pts_one (PW.pt (pw_or (pt_not (pt_val (pe_callB (show CallR _ _ (rIsi K) from call_isi) (by rfl) T.isi (by decide +kernel) (pa_cons (pv 1) (pa_cons (pe_bltn (v := .ty "int") (by rfl) T.int boot_int rfl) pa_nil))))) (pw_or1 (pt_val (pe_callB (show CallR _ _ (rIsi K) from call_isi) (by rfl) T.isi (by decide +kernel) (pa_cons (pv 1) (pa_cons (pe_bltn (v := .ty "bool") (by rfl) T.bol boot_bool rfl) pa_nil))))))))) (fun _ _ _ _ _ => (pv 1))) (pe_lst pa_nil) (nomark _))))), ?_⟩
    have tyl : ∃ t, TyX K H v t ∧ PySem.W.kitOne K t (.type "list") = some (match d with | .lst _ => true | _ => false) ∧ PySem.W.kitOne K t (.type "tuple") = some (isTup d) := by
      cases hd with
      | non => exact ⟨_, .base .non, kit_ty (show kitB "NoneType" "list" = some false by decide +kernel), kit_ty (show kitB "NoneType" "tuple" = some false by decide +kernel)⟩
      | bl b => exact ⟨_, .base (.bl _), kit_ty (show kitB "bool" "list" = some false by decide +kernel), kit_ty (show kitB "bool" "tuple" = some false by decide +kernel)⟩
      | int i => exact ⟨_, .base (.int _), kit_ty (show kitB "int" "list" = some false by decide +kernel), kit_ty (show kitB "int" "tuple" = some false by decide +kernel)⟩
      | str h => exact ⟨_, .base (.str _), kit_ty (show kitB "str" "list" = some false by decide +kernel), kit_ty (show kitB "str" "tuple" = some false by decide +kernel)⟩
      | lst e n h r => exact ⟨_, .base (.lst e), kit_ty (show kitB "list" "list" = some true by decide +kernel), kit_ty (show kitB "list" "tuple" = some false by decide +kernel)⟩
      | tup e h r => exact ⟨_, .base (.tup e), kit_ty (show kitB "tuple" "list" = some false by decide +kernel), kit_ty (show kitB "tuple" "tuple" = some true by decide +kernel)⟩
      | dic e => exact ⟨_, .base (.dK e), kit_ty (show kitB "dict" "list" = some false by decide +kernel), kit_ty (show kitB "dict" "tuple" = some false by decide +kernel)⟩
    obtain ⟨t, ht, w1, w2⟩ := tyl
    refine ⟨_, rfl, _, _, _, _, _, rfl, .ty "list", ht, w1, _, rfl, ?_⟩
    cases d with
    | lst l =>
      refine ifF rfl (ifF rfl ?_)
      have hk : ∀ H', Same H H' → Q (.bl (l.all isInt)) H' := k
      cases hd with
      | @lst a xs ds e n hl r =>
        have hlen := r.len
        refine .inl ⟨_, rfl, a, rfl, ⟨_, SqL.of e⟩, fun D hD => ?_⟩
        refine lc_it (walk_list (K := K) (a := a) (xs := xs)) (fun i H' => ∃ ws : List V, H' D = some (.lst ws) ∧ ws.isEmpty = (l.take i).all isInt ∧ ws.length ≤ i ∧ Same H H') ⟨[], upd_same, rfl, Nat.zero_le _, same_new hD⟩ (fun _ H' _ ⟨_, _, _, _, s1⟩ => SqL.of (s1 _ _ e)) ?_ ?_
        · rintro i x H1 H1z hi ⟨ws, e1, hemp, hwl, s1⟩ ⟨rfl, hx⟩
          obtain ⟨dd, hdd, hxd⟩ := r.at_ hx
          have hxd := hxd.keep (Kv.of s1)
          obtain ⟨t2, ht2, _, _, q3, q4⟩ := hxd.ty (K := K)
          have htake : (l.take (i + 1)).all isInt = ((l.take i).all isInt && isInt dd) := by
            rw [List.take_succ, hdd, List.all_append]
            simp
          have keep : isInt dd = false → ∃ acc, H1z D = some (HO.lst acc) ∧ acc.length < sizeLine ∧ ∃ ws, upd H1z D (HO.lst (acc ++ [x])) D = some (.lst ws) ∧ ws.isEmpty = (l.take (i + 1)).all isInt ∧ ws.length ≤ i + 1 ∧ Same H (upd H1z D (HO.lst (acc ++ [x]))) := fun hn => by
            refine ⟨ws, e1, by rw [sizeLine_eq]; omega, ws ++ [x], upd_same, ?_, by rw [List.length_append]; show ws.length + 1 ≤ _; omega, ?_⟩
            · rw [htake, hn, Bool.and_false]
              cases ws <;> rfl
            · intro b o eb
              rw [upd_ne (ne_of_none eb hD)]
              exact s1 _ _ eb
          refine ⟨rfl, ?_⟩
          refine ⟨_, rfl, _, _, _, _, _, rfl, .ty "int", ht2, q4, _, rfl, ?_⟩
          cases hi2 : isInt dd with
          | true =>
            have hb : isBl dd = false := by cases dd <;> first | rfl | cases hi2
            refine ifF rfl ⟨_, rfl, _, _, _, _, _, rfl, .ty "bool", ht2, q3, _, rfl, ?_⟩
            rw [hb]
            refine ifF rfl ⟨ws, e1, ?_, by omega, s1⟩
            rw [htake, hi2, Bool.and_true]
            exact hemp
          | false =>
            cases hb : isBl dd with
            | true => exact ifF rfl ⟨_, rfl, _, _, _, _, _, rfl, .ty "bool", ht2, q3, _, rfl, by rw [hb]; exact ifT rfl ⟨_, rfl, keep hi2⟩⟩
            | false => exact ifT rfl (ifT rfl ⟨_, rfl, keep hi2⟩)
        · rintro H1 ⟨ws, e1, hemp, hwl, s1⟩
          rw [hlen, List.take_length] at hemp
          refine ⟨Nat.zero_le _, fun e0 he0 => ?_⟩
          generalize hH2 : upd H1 e0 _ = H2
          obtain ⟨se0, ee0⟩ := freshF he0 hH2
          refine ⟨D, e0, ws, rfl, rfl, SqL.of (se0 _ _ e1), SqL.of ee0, ?_⟩
          rw [hemp]
          exact hk H2 (s1.trans se0)
    | tup l =>
      refine ifT rfl ⟨_, rfl, _, _, _, _, _, rfl, .ty "tuple", ht, w2, _, rfl, ifF rfl ?_⟩
      have hk : ∀ H', Same H H' → Q (.bl (l.all isInt)) H' := k
      cases hd with
      | @tup a xs ds e hl r =>
        have hlen := r.len
        refine .inr ⟨_, rfl, a, rfl, ⟨_, SqT.of e⟩, fun D hD => ?_⟩
        refine lc_it (walk_tup (K := K) (a := a) (xs := xs)) (fun i H' => ∃ ws : List V, H' D = some (.lst ws) ∧ ws.isEmpty = (l.take i).all isInt ∧ ws.length ≤ i ∧ Same H H') ⟨[], upd_same, rfl, Nat.zero_le _, same_new hD⟩ (fun _ H' _ ⟨_, _, _, _, s1⟩ => SqT.of (s1 _ _ e)) ?_ ?_
        · rintro i x H1 H1z hi ⟨ws, e1, hemp, hwl, s1⟩ ⟨rfl, hx⟩
          obtain ⟨dd, hdd, hxd⟩ := r.at_ hx
          have hxd := hxd.keep (Kv.of s1)
          obtain ⟨t2, ht2, _, _, q3, q4⟩ := hxd.ty (K := K)
          have htake : (l.take (i + 1)).all isInt = ((l.take i).all isInt && isInt dd) := by
            rw [List.take_succ, hdd, List.all_append]
            simp
          have keep : isInt dd = false → ∃ acc, H1z D = some (HO.lst acc) ∧ acc.length < sizeLine ∧ ∃ ws, upd H1z D (HO.lst (acc ++ [x])) D = some (.lst ws) ∧ ws.isEmpty = (l.take (i + 1)).all isInt ∧ ws.length ≤ i + 1 ∧ Same H (upd H1z D (HO.lst (acc ++ [x]))) := fun hn => by
            refine ⟨ws, e1, by rw [sizeLine_eq]; omega, ws ++ [x], upd_same, ?_, by rw [List.length_append]; show ws.length + 1 ≤ _; omega, ?_⟩
            · rw [htake, hn, Bool.and_false]
              cases ws <;> rfl
            · intro b o eb
              rw [upd_ne (ne_of_none eb hD)]
              exact s1 _ _ eb
          refine ⟨rfl, ?_⟩
          refine ⟨_, rfl, _, _, _, _, _, rfl, .ty "int", ht2, q4, _, rfl, ?_⟩
          cases hi2 : isInt dd with
          | true =>
            have hb : isBl dd = false := by cases dd <;> first | rfl | cases hi2
            refine ifF rfl ⟨_, rfl, _, _, _, _, _, rfl, .ty "bool", ht2, q3, _, rfl, ?_⟩
            rw [hb]
            refine ifF rfl ⟨ws, e1, ?_, by omega, s1⟩
            rw [htake, hi2, Bool.and_true]
            exact hemp
          | false =>
            cases hb : isBl dd with
            | true => exact ifF rfl ⟨_, rfl, _, _, _, _, _, rfl, .ty "bool", ht2, q3, _, rfl, by rw [hb]; exact ifT rfl ⟨_, rfl, keep hi2⟩⟩
            | false => exact ifT rfl (ifT rfl ⟨_, rfl, keep hi2⟩)
        · rintro H1 ⟨ws, e1, hemp, hwl, s1⟩
          rw [hlen, List.take_length] at hemp
          refine ⟨Nat.zero_le _, fun e0 he0 => ?_⟩
          generalize hH2 : upd H1 e0 _ = H2
          obtain ⟨se0, ee0⟩ := freshF he0 hH2
          refine ⟨D, e0, ws, rfl, rfl, SqL.of (se0 _ _ e1), SqL.of ee0, ?_⟩
          rw [hemp]
          exact hk H2 (s1.trans se0)
    | _ =>
      refine ifT rfl ⟨_, rfl, _, _, _, _, _, rfl, .ty "tuple", ht, w2, _, rfl, ifT rfl ?_⟩
      exact k H (Same.refl H)
end
end K66

set_option Elab.async false
set_option linter.all false
set_option pp.maxSteps 3000
set_option maxRecDepth 100000
set_option maxHeartbeats 4000000
namespace K66
open PySem PySem.Spec PyProof.Rows L2
/-! zip(a list, a tuple) -/
/-- the list at a and the tuple at b as they stand at each turn, the items in new pairs -/
def ItzM (K : PySem.W.Frag) (a b : Addr) : It :=
  ⟨fun i H => ∃ (xs ys : List V) (x y : V), SqL K H a xs ∧ SqT K H b ys ∧ xs[i]? = some x ∧ ys[i]? = some y,
    fun i H v H' => ∃ T x y, v = .ref T ∧ H T = none ∧ H' = upd H T (.tup [x, y]) ∧ (∀ xs, SqL K H a xs → xs[i]? = some x) ∧ ∀ ys, SqT K H b ys → ys[i]? = some y,
    fun i H => ∃ xs ys : List V, SqL K H a xs ∧ SqT K H b ys ∧ i ≤ xs.length ∧ i ≤ ys.length ∧ (i = xs.length ∨ i = ys.length)⟩
theorem zip_sepM {z TI TO i1 i2 a b : Addr} (D : ZipApart z TI TO i1 i2 a b) : ZipSep2 z TI TO i1 i2 [i1, a] [i2, b] where
  TIz := D.TIz
  TOz := D.TOz
  TITO := D.TITO
  TIi1 := D.TIi1
  mem1 := by simp
  zf1 := by simp [D.i1z.symm, D.l1z.symm]
  Tf1 := by simp [D.TOi1, D.l1TO.symm]
  TIi2 := D.TIi2
  mem2 := by simp
  zf2 := by simp [D.i2z.symm, D.l2z.symm]
  Tf2 := by simp [D.TOi2, D.l2TO.symm]
  sep1_2 := by simp [D.i12, D.l2i1.symm]
  sep2_1 := by simp [D.i12.symm, D.l1i2.symm]
theorem turn_zipM {P : Program} {w : World} {K : PySem.W.Frag} {elts : List Expr} {kk : Nat} {tpos : Pos} {a b z TI TO i1 i2 : Addr} (D : ZipApart z TI TO i1 i2 a b) :
    Turn P w K (.Tuple elts kk tpos) (ItzM K a b) [z, TI, TO, i1, i2] z (fun i h => IsZip h z TI TO .none ∧ IsPair h TI (.ref i1) (.ref i2) ∧ (∃ x y, IsPair h TO x y) ∧ h.IsListIter i1 a i ∧ h.IsTupleIter i2 b i) where
  mem := by simp
  obj := fun i h st c hc => by
    obtain ⟨hz, hTI, ⟨x, y, hTO⟩, ⟨o1, e1, _, d1⟩, ⟨o2, e2, _, d2⟩⟩ := st
    have e' : c = z ∨ c = TI ∨ c = TO ∨ c = i1 ∨ c = i2 := by simpa using hc
    rcases e' with q | q | q | q | q
    · rw [q]; exact ⟨_, hz, fun v q => nomatch q⟩
    · rw [q]; exact ⟨_, hTI, fun v q => nomatch q⟩
    · rw [q]; exact ⟨_, hTO, fun v q => nomatch q⟩
    · rw [q]; exact ⟨o1, e1, fun v q => by rw [d1] at q; cases q⟩
    · rw [q]; exact ⟨o2, e2, fun v q => by rw [d2] at q; cases q⟩
  keep := fun i h h' st k => by
    obtain ⟨hz, hTI, ⟨x, y, hTO⟩, h1, h2⟩ := st
    exact ⟨k z (by simp) _ hz, k TI (by simp) _ hTI, ⟨x, y, k TO (by simp) _ hTO⟩, h1.at fun o q => k i1 (by simp) o q, h2.at fun o q => k i2 (by simp) o q⟩
  item := by
    intro X hP hw hK hc i pins s σ H E I hf st hg
    subst hP hw hK
    obtain ⟨hz, hTI, ⟨x0, y0, hTO⟩, h1, h2⟩ := st
    obtain ⟨xs, ys, x, y, hqx, hqy, hx, hy⟩ := hg
    obtain ⟨its, rv, p, _⟩ := I.list hqx
    obtain ⟨its2, rv2, p2, _⟩ := I.tuple hqy
    obtain ⟨u, hu, ru⟩ := rv.get hx
    obtain ⟨u2, hu2, ru2⟩ := rv2.get hy
    have hzl : z < s.heap.objs.size := Heap.lt_size hz
    have hh : X.A.in1.handled = none := I.ok.hd hc
    have l1 : i < its.toArray.size := by
      have := (List.getElem?_eq_some_iff.mp hu).1
      simpa using this
    have l2 : i < its2.toArray.size := by
      have := (List.getElem?_eq_some_iff.mp hu2).1
      simpa using this
    refine wpAny_pyNext_zipD2_item (zip_sepM D) (Draws.list hh i1 a D.l1i1 its.toArray) (Draws.tuple hh i2 b D.l2i2 its2.toArray) hz hTI hTO ⟨h1, p.isList⟩ ⟨h2, p2⟩ l1 l2 fun v1 v2 h' tk g1 g2 z' TO' st1' st2' hT hsz hk => ?_
    have ev1 : v1 = u := by
      have g1 : its[i]? = some v1 := by simpa using g1
      rw [hu] at g1
      exact (Option.some.inj g1).symm
    have ev2 : v2 = u2 := by
      have g2 : its2[i]? = some v2 := by simpa using g2
      rw [hu2] at g2
      exact (Option.some.inj g2).symm
    subst ev1 ev2
    obtain ⟨h1', _⟩ := st1'
    obtain ⟨h2', _⟩ := st2'
    refine ⟨_, rfl, wpAny_letOwnedTupleGo_zip (s := { s with heap := h', toks := tk }) z' fun h'' z'' sb => ?_⟩
    have hT2 : h''.get? s.heap.objs.size = some { cls := .type "tuple", data := .seq #[v1, v2] } := (sb.2 _ (Nat.ne_of_gt hzl)).trans hT
    have new : ObjOk X.prog X.w (upd H s.heap.objs.size (.tup [x, y])) h'' s.heap.objs.size (.tup [x, y]) :=
      ⟨by show 2 ≤ sizeLine; decide, [v1, v2], .cons ru (.cons ru2 .nil), ⟨_, hT2, rfl, _, rfl⟩⟩
    have I1 : Inv X pins σ (upd H s.heap.objs.size (.tup [x, y])) { s with heap := h'', toks := tk } :=
      I.turnedNew (t' := tk) (ch := [z, TI, TO, i1, i2]) (fun c o hb q => (sb.2 c (fun q' => hb (by simp [q']))).trans (hk c o (fun q' => hb (by simp [q'])) (fun q' => hb (by simp [q'])) (fun q' => hb (by simp [q'])) (fun q' => hb (by simp [q'])) q)) hf (Nat.le_refl _) new
    refine ⟨.ref s.heap.objs.size, _, I1, rfl, ⟨_, x, y, rfl, I.hok.fresh (Nat.le_refl _), rfl, fun l hl => by rw [I.list_inj hl hqx]; exact hx, fun l hl => by rw [I.tuple_inj hl hqy]; exact hy⟩, ⟨z'', ?_, ⟨v1, v2, ?_⟩, ?_, ?_⟩, fun c hcm => ?_⟩
    · exact (sb.2 _ D.TIz).trans (hk _ _ D.TIz D.TITO D.TIi1 D.TIi2 hTI)
    · exact (sb.2 _ D.TOz).trans TO'
    · exact h1'.at fun o q => (sb.2 _ D.i1z).trans q
    · exact h2'.at fun o q => (sb.2 _ D.i2z).trans q
    · have hlt : c < s.heap.objs.size := by
        have e' : c = z ∨ c = TI ∨ c = TO ∨ c = i1 ∨ c = i2 := by simpa using hcm
        rcases e' with q | q | q | q | q
        · rw [q]; exact hzl
        · rw [q]; exact Heap.lt_size hTI
        · rw [q]; exact Heap.lt_size hTO
        · rw [q]; obtain ⟨_, e1, _⟩ := h1; exact Heap.lt_size e1
        · rw [q]; obtain ⟨_, e2, _⟩ := h2; exact Heap.lt_size e2
      rw [upd_ne (Nat.ne_of_lt hlt)]
      exact (hf c hcm).1
  done := by
    intro X hP hw hK hc i pins s σ H E I hf st hg
    subst hP hw hK
    obtain ⟨hz, hTI, ⟨x0, y0, hTO⟩, h1, h2⟩ := st
    obtain ⟨xs, ys, hqx, hqy, n1, n2, hend⟩ := hg
    obtain ⟨its, rv, p, _⟩ := I.list hqx
    obtain ⟨its2, rv2, p2, _⟩ := I.tuple hqy
    have l1 := rv.length
    have l2 := rv2.length
    have hh : X.A.in1.handled = none := I.ok.hd hc
    refine wpAny_pyNext_zipD2_end (zip_sepM D) (Draws.list hh i1 a D.l1i1 its.toArray) (Draws.tuple hh i2 b D.l2i2 its2.toArray) hz hTI hTO (i := i) ⟨h1, p.isList⟩ ⟨h2, p2⟩ (by simp; omega) (by simp; omega) (by simp; omega) fun h' tk hk => ⟨rfl, I.turnedL (t' := tk) (ch := [z, TI, TO, i1, i2]) (fun c o hb q =>
      hk c o (fun q' => hb (by simp [q'])) (fun q' => hb (by simp [q'])) (fun q' => hb (by simp [q'])) (fun q' => hb (by simp [q'])) q) hf⟩
  self := fun A i s Q E st h => wpAny_pyIter_zip st.1 h
def iZipM (K : PySem.W.Frag) (ta : TA) : TI := fun σ H R => ta σ H fun vs H1 => ∃ a b xs ys, vs = [.ref a, .ref b] ∧ SqL K H1 a xs ∧ SqT K H1 b ys ∧ R (ItzM K a b) H1
theorem pi_zipM {X : Cx} {e e2 : Expr} {ta : TA} {p pos tpos : Pos} {elts : List Expr} {kk : Nat} (hg : Gl X "zip") (hm : X.mg "zip" = none) (ha : PA X [e, e2] ta)
    (hs : starEach [e, e2] X.env = (false, eval e X.env) :: starEach [e2] X.env := by rfl) (hpl : (backTo pos (starEach [e2] X.env)).any (·.1) = false := by rfl) :
    PI X (.Tuple elts kk tpos) (.Call (.Name "zip" p) [e, e2] [] pos) (iZipM X.K ta) := by
  refine ⟨fun pins s σ H R I h => ?_⟩
  refine Call_ (ld_blt I hg hm PyProof.Rows.boot_zip (PyProof.Rows.callWith_type1 (thn (ha.run pos pins s σ H _ I h) fun us s1 ⟨vs, H1, I1, r1, q1⟩ => ?_) hs hpl))
  obtain ⟨a, b, xs, ys, ex, hqx, hqy, q⟩ := q1
  subst ex
  cases r1 with
  | cons r rr =>
    cases rr with
    | cons r' rr =>
      cases rr
      cases r
      cases r'
      have fresh5 : ∀ c, c ∈ [s1.heap.objs.size + 4, s1.heap.objs.size + 2, s1.heap.objs.size + 3, s1.heap.objs.size, s1.heap.objs.size + 1] → FpOk X pins H1 c := fun c hcm => by
        have e' : c = s1.heap.objs.size + 4 ∨ c = s1.heap.objs.size + 2 ∨ c = s1.heap.objs.size + 3 ∨ c = s1.heap.objs.size ∨ c = s1.heap.objs.size + 1 := by simpa using hcm
        have hle : s1.heap.objs.size ≤ c := by
          rcases e' with z | z | z | z | z
          · rw [z]; exact Nat.le_add_right _ _
          · rw [z]; exact Nat.le_add_right _ _
          · rw [z]; exact Nat.le_add_right _ _
          · rw [z]; exact Nat.le_refl _
          · rw [z]; exact Nat.le_add_right _ _
        exact I1.fpOk hle (I1.hok.fresh hle)
      obtain ⟨its, rv, p1, _⟩ := I1.list hqx
      obtain ⟨its2, rv2, p2, _⟩ := I1.tuple hqy
      obtain ⟨o2, ho2, _⟩ := id p2
      refine zip_begins2 (begins_list a its.toArray) (begins_tuple b its2.toArray) p1.isList p2 fun h' hz hTI hTO h1 h2 hsz hk => wpAny_pyIter_zip hz ?_
      have I2 : Inv X pins σ H1 { s1 with heap := h' } := I1.kept (t' := s1.toks) hk
      exact ⟨s1.heap.objs.size + 4, [s1.heap.objs.size + 4, s1.heap.objs.size + 2, s1.heap.objs.size + 3, s1.heap.objs.size, s1.heap.objs.size + 1], _, _, H1, rfl, I2, turn_zipM (PySem.W.ktu_apart s1.heap.objs.size a b p1.lt (Heap.lt_size ho2)), ⟨hz, hTI, ⟨_, _, hTO⟩, ⟨_, h1, rfl, rfl⟩, ⟨_, h2, rfl, rfl⟩⟩, fresh5, q⟩
theorem walk_zipM {K : PySem.W.Frag} {a b : Addr} {xs ys : List V} {n : Nat} (h1 : n = xs.length) (h2 : n = ys.length) : Walk (ItzM K a b) n (fun H => SqL K H a xs ∧ SqT K H b ys) (YPair (fun i => xs[i]?) (fun i => ys[i]?)) := by
  refine ⟨fun i _ hi q => ?_, fun _ q => ⟨xs, ys, q.1, q.2, by omega, by omega, by omega⟩, fun i H v H' _ q y => ?_⟩
  · have h1 : i < xs.length := by omega
    have h2 : i < ys.length := by omega
    exact ⟨xs, ys, xs[i], ys[i], q.1, q.2, by simp [h1], by simp [h2]⟩
  · obtain ⟨T, x, z, h1, h2, h3, h4, h5⟩ := y
    exact ⟨T, x, z, h1, h2, h3, h4 xs q.1, h5 ys q.2⟩
end K66

set_option Elab.async false
set_option linter.all false
set_option pp.maxSteps 900
set_option maxRecDepth 100000
set_option maxHeartbeats 4000000
namespace K66
open PySem PySem.Spec PyProof.Rows L2
open TL (tl)
/-! ### the measures of words, as the program reckons them -/
def edK (es : List Ed) (s : Dt) : Option Ed := match atD s with
  | .int k => es[k.toNat]?
  | _ => none
def inI : Dt → Option Int
  | .tup [_, .int j] => some j
  | _ => none
structure MSt where
  c : List Int
  b : Int
  t : List (Int × Int)
def putO (tm : List (Int × Int)) : Option Int → List (Int × Int)
  | some j => putT tm j
  | none => tm
def st1 (es : List Ed) (z : MSt) (s : Dt) : MSt := match edK es s with
  | some e => ⟨bump z.c e.l, z.b + e.b, putO z.t (inI s)⟩
  | none => z
def st2 (fd : List (List Int × Int)) (z : List Int × Int) (p : Int × Int) : List Int × Int := match fd[p.1.toNat]? with
  | some m => (vmul p.2 z.1 m.1, z.2 + p.2 * m.2)
  | none => z
def mSt (W : Web) (es : List Ed) (ss : List Dt) : MSt := ss.foldl (st1 es) ⟨List.replicate W.lb.toNat 0, 0, []⟩
def mOne (W : Web) (fd : List (List Int × Int)) (es : List Ed) (ss : List Dt) : List Int × Int := (mSt W es ss).t.foldl (st2 fd) ((mSt W es ss).c, (mSt W es ss).b)
def stW (W : Web) (fd : List (List Int × Int)) : Dt → List (List Int × Int)
  | .tup [.int n, .tup ss] => match W.ns[n.toNat]? with
    | some nt => fd ++ [mOne W fd nt.2 ss]
    | none => fd
  | _ => fd
def msOf (W : Web) (ws : List Dt) : List (List Int × Int) := ws.foldl (stW W) []
def msD (m : List Int × Int) : Dt := .tup [.tup (m.1.map Dt.int), .int m.2]
/-! #### what a good word's steps are -/
structure OkS (es : List Ed) (known : Nat) (s : Dt) : Prop where
  ex : ∃ (k : Int) (e : Ed), atD s = .int k ∧ 0 ≤ k ∧ es[k.toNat]? = some e ∧ (s = .int k ∨ ∃ j : Int, s = .tup [.int k, .int j] ∧ 0 ≤ j ∧ j.toNat < known)
theorem atD_two {s : Dt} {k : Int} (h : atD s = .int k) : s = .int k ∨ ∃ y, s = .tup [.int k, y] := by
  cases s with
  | int i => exact .inl h
  | tup l =>
    match l, h with
    | [a, y], h =>
      have h : a = .int k := h
      subst h
      exact .inr ⟨y, rfl⟩
    | [], h | [_], h | _ :: _ :: _ :: _, h => cases h
  | _ => cases h
theorem inner_shape {known : Nat} {ws : List Dt} {c : Int} {k : Int} {y : Dt} (h : inner known ws c (.tup [.int k, y]) = true) : ∃ j : Int, y = .int j ∧ 0 ≤ j ∧ j.toNat < known := by
  cases y with
  | int j =>
    have h : (decide (0 ≤ j ∧ j ≤ (known : Int) - 1) && _) = true := h
    rw [Bool.and_eq_true, decide_eq_true_iff] at h
    exact ⟨j, rfl, h.1.1, by omega⟩
  | _ => cases h
theorem stepE_shape {es : List Ed} {ws : List Dt} {known : Nat} {pl t : Int} {s : Dt} (h : stepE es ws known pl s = some t) : OkS es known s := by
  unfold stepE at h
  cases ha : atD s with
  | int k =>
    rw [ha] at h
    by_cases hk : 0 ≤ k ∧ k ≤ (es.length : Int) - 1
    · have h := (if_pos hk).symm.trans h
      cases he : es[k.toNat]? with
      | none =>
        rw [he] at h
        cases h
      | some e =>
        rw [he] at h
        refine ⟨⟨k, e, ha, hk.1, he, ?_⟩⟩
        by_cases hp : e.p = pl
        · have h := (if_pos hp).symm.trans h
          rcases atD_two ha with rfl | ⟨y, rfl⟩
          · exact .inl rfl
          · refine .inr ?_
            cases hc : e.c with
            | none =>
              rw [hc] at h
              cases h
            | some c =>
              rw [hc] at h
              by_cases hi : inner known ws c (.tup [.int k, y]) = true
              · obtain ⟨j, rfl, j0, j1⟩ := inner_shape hi
                exact ⟨j, rfl, j0, j1⟩
              · have h : (if inner known ws c (.tup [.int k, y]) = true then some e.t else none) = some t := h
                rw [if_neg hi] at h
                cases h
        · have h := (if_neg hp).symm.trans h
          cases h
    · have h := (if_neg hk).symm.trans h
      cases h
  | _ =>
    rw [ha] at h
    cases h
theorem pbL_shape {es : List Ed} {ws : List Dt} {known : Nat} : ∀ {ss : List Dt} {pl q : Int}, pbL es ws known ss pl = some q → ∀ s ∈ ss, OkS es known s
  | [], _, _, _, s, hs => by cases hs
  | a :: ss, pl, q, h, s, hs => by
    have h : (stepE es ws known pl a).bind (pbL es ws known ss) = some q := h
    cases e : stepE es ws known pl a with
    | none =>
      rw [e] at h
      cases h
    | some t =>
      rw [e] at h
      rcases List.mem_cons.mp hs with rfl | hs
      · exact stepE_shape e
      · exact pbL_shape (show pbL es ws known ss t = some q from h) s hs
/-- a good word -/
theorem word_shape {W : Web} {ws : List Dt} {j : Nat} (h : wB W ws j = true) : ∃ (n : Int) (ss : List Dt) (nt : Int × List Ed), ws[j]? = some (.tup [.int n, .tup ss]) ∧ 0 ≤ n ∧ W.ns[n.toNat]? = some nt ∧ ∀ s ∈ ss, OkS nt.2 j s := by
  obtain ⟨n, sd, nt, h1, h2, h3, h4⟩ := wB_shape h
  cases sd with
  | tup ss => exact ⟨n, ss, nt, h1, h2, h3, pbL_shape (show pbL nt.2 ws j ss 0 = some (nt.1 - 1) from h4)⟩
  | _ => cases h4
theorem OkS.pur {es : List Ed} {known : Nat} {s : Dt} (h : OkS es known s) : pur s = true := by
  obtain ⟨k, e, _, _, _, h⟩ := h.ex
  rcases h with rfl | ⟨j, rfl, _⟩ <;> rfl
/-! #### the dict of the inner words -/
def tmK (tm : List (Int × Int)) : List (Key × V) := tm.map fun p => (Sum.inl p.1, V.int p.2)
theorem tm_len {tm : List (Int × Int)} : (tmK tm).length = tm.length := by
  unfold tmK
  rw [List.length_map]
def timeOf (tm : List (Int × Int)) (j : Int) : Int := match tm.find? (fun p => decide (p.1 = j)) with
  | some p => p.2
  | none => 0
theorem tm_val (j : Int) : ∀ tm : List (Int × Int), (valV (tmK tm) (Sum.inl j)).getD (.int 0) = .int (timeOf tm j)
  | [] => rfl
  | p :: tm => by
    have ih := tm_val j tm
    by_cases h : p.1 = j
    · rw [show valV (tmK (p :: tm)) (Sum.inl j) = some (V.int p.2) from valV_pos (by show Sum.inl p.1 = _; rw [h])]
      show V.int p.2 = .int (timeOf (p :: tm) j)
      unfold timeOf
      rw [List.find?_cons_of_pos (by simpa using h)]
    · rw [show valV (tmK (p :: tm)) (Sum.inl j) = valV (tmK tm) (Sum.inl j) from valV_neg (fun e => h (Sum.inl.inj e)), ih]
      unfold timeOf
      rw [List.find?_cons_of_neg (by simpa using h)]
theorem tm_any (j : Int) (tm : List (Int × Int)) : ((tmK tm).any fun kv => decide (kv.1 = Sum.inl j)) = tm.any fun p => decide (p.1 = j) := by
  unfold tmK
  rw [List.any_map]
  congr 1
  funext p
  show decide ((Sum.inl p.1 : Key) = Sum.inl j) = decide (p.1 = j)
  by_cases h : p.1 = j
  · rw [decide_eq_true h, decide_eq_true (by rw [h])]
  · rw [decide_eq_false h, decide_eq_false (fun e => h (Sum.inl.inj e))]
theorem putT_time {tm : List (Int × Int)} {j : Int} (hn : (tm.map (·.1)).Nodup) : putT tm j = if tm.any (fun p => decide (p.1 = j)) = true then tm.map fun p => if p.1 = j then (p.1, timeOf tm j + 1) else p else tm ++ [(j, timeOf tm j + 1)] := by
  unfold putT
  by_cases h : tm.any (fun p => decide (p.1 = j)) = true
  · rw [if_pos h, if_pos h]
    refine List.map_congr_left fun p hp => ?_
    by_cases e : p.1 = j
    · rw [if_pos e, if_pos e]
      have : timeOf tm j = p.2 := by
        clear h
        induction tm with
        | nil => cases hp
        | cons q tm ih =>
          rw [List.map_cons, List.nodup_cons] at hn
          unfold timeOf
          by_cases hq : q.1 = j
          · rw [List.find?_cons_of_pos (by simpa using hq)]
            rcases List.mem_cons.mp hp with rfl | hp
            · rfl
            · exact absurd (List.mem_map.mpr ⟨p, hp, e.trans hq.symm⟩) hn.1
          · rw [List.find?_cons_of_neg (by simpa using hq)]
            rcases List.mem_cons.mp hp with rfl | hp
            · exact absurd e hq
            · exact ih hn.2 hp
      rw [this]
    · rw [if_neg e, if_neg e]
  · rw [if_neg h, if_neg h]
    have : timeOf tm j = 0 := by
      unfold timeOf
      rw [List.find?_eq_none.mpr]
      intro p hp e
      exact h (List.any_eq_true.mpr ⟨p, hp, e⟩)
    rw [this]
    rfl
theorem tm_put {tm : List (Int × Int)} {j : Int} (hn : (tm.map (·.1)).Nodup) : putK (tmK tm) (Sum.inl j) (.int (timeOf tm j + 1)) = tmK (putT tm j) := by
  rw [putT_time hn]
  unfold putK
  rw [tm_any]
  by_cases h : tm.any (fun p => decide (p.1 = j)) = true
  · rw [if_pos h, if_pos h]
    unfold tmK
    rw [List.map_map, List.map_map]
    refine List.map_congr_left fun p _ => ?_
    show (if (Sum.inl p.1 : Key) = Sum.inl j then _ else _) = _
    by_cases e : p.1 = j
    · rw [if_pos (by rw [e])]
      show _ = ((fun q : Int × Int => ((Sum.inl q.1 : Key), V.int q.2)) (if p.1 = j then (p.1, timeOf tm j + 1) else p))
      rw [if_pos e]
    · rw [if_neg (fun z => e (Sum.inl.inj z))]
      show _ = ((fun q : Int × Int => ((Sum.inl q.1 : Key), V.int q.2)) (if p.1 = j then (p.1, timeOf tm j + 1) else p))
      rw [if_neg e]
  · rw [if_neg h, if_neg h]
    unfold tmK
    rw [List.map_append]
    rfl
end K66

set_option Elab.async false
set_option linter.all false
set_option pp.maxSteps 900
set_option maxRecDepth 100000
set_option maxHeartbeats 4000000
namespace K66
open PySem PySem.Spec PyProof.Rows L2
open TL (tl)
abbrev sMs : Stmt := top 26
def spMs (C1 C2 : Addr) : Sp := fun vs H Q Ex => ∃ (g : Addr) (vw vws : V) (dw d : Dt), vs = [vw, vws] ∧ DV g H vw dw ∧ DV g H vws d ∧ (webB dw = false → ∀ H', Same H H' → Ex (.ref C1) none H') ∧
  (∀ W, dw = wbD W → OkW W → wordsB W d = false → ∀ H', Same H H' → Ex (.ref C2) none H') ∧
  (∀ W ws, dw = wbD W → OkW W → seqOf d = some ws → wordsB W d = true → ∀ (D : Addr) (ys : List V) (H' : Hp), Same H H' → H D = none → H' D = some (.lst ys) → (∀ g', DVs g' H' ys ((msOf W ws).map msD)) → Q (.ref D) H')
structure InvM (lb known m : Nat) (z : MSt) : Prop where
  c : z.c.length = lb
  n : (z.t.map (·.1)).Nodup
  t : ∀ p ∈ z.t, 0 ≤ p.1 ∧ p.1.toNat < known ∧ 0 ≤ p.2 ∧ p.2 ≤ (m : Int)
  l : z.t.length ≤ m
theorem putT_mem {tm : List (Int × Int)} {j : Int} {p : Int × Int} (h : p ∈ putT tm j) : (∃ q ∈ tm, q.1 = p.1 ∧ (p.2 = q.2 ∨ p.2 = q.2 + 1)) ∨ p = (j, 1) := by
  unfold putT at h
  by_cases ha : tm.any (fun p => decide (p.1 = j)) = true
  · rw [if_pos ha] at h
    obtain ⟨q, hq, rfl⟩ := List.mem_map.mp h
    refine .inl ⟨q, hq, ?_⟩
    by_cases e : q.1 = j
    · rw [if_pos e]
      exact ⟨rfl, .inr rfl⟩
    · rw [if_neg e]
      exact ⟨rfl, .inl rfl⟩
  · rw [if_neg ha] at h
    rcases List.mem_append.mp h with h | h
    · exact .inl ⟨p, h, rfl, .inl rfl⟩
    · exact .inr (List.mem_singleton.mp h)
theorem putT_length {tm : List (Int × Int)} {j : Int} : (putT tm j).length ≤ tm.length + 1 := by
  unfold putT
  by_cases ha : tm.any (fun p => decide (p.1 = j)) = true
  · rw [if_pos ha, List.length_map]
    omega
  · rw [if_neg ha, List.length_append]
    exact Nat.le_refl _
theorem InvM.step {es : List Ed} {lb known m : Nat} {z : MSt} {s : Dt} (h : InvM lb known m z) (hs : OkS es known s) : InvM lb known (m + 1) (st1 es z s) := by
  obtain ⟨k, e, ha, hk, he, hsh⟩ := hs.ex
  have e1 : edK es s = some e := by
    unfold edK
    rw [ha]
    exact he
  unfold st1
  rw [e1]
  show InvM lb known (m + 1) ⟨bump z.c e.l, z.b + e.b, putO z.t (inI s)⟩
  rcases hsh with rfl | ⟨j, rfl, j0, j1⟩
  · exact ⟨by show (bump z.c e.l).length = lb; rw [bump_len]; exact h.c, h.n, fun p hp => by obtain ⟨a, b, c, d⟩ := h.t p hp; exact ⟨a, b, c, by omega⟩, Nat.le_succ_of_le h.l⟩
  · refine ⟨by show (bump z.c e.l).length = lb; rw [bump_len]; exact h.c, putT_nodup h.n, fun p hp => ?_, Nat.le_trans putT_length (Nat.succ_le_succ h.l)⟩
    rcases putT_mem hp with ⟨q, hq, e1, e2⟩ | rfl
    · obtain ⟨a, b, c, d⟩ := h.t q hq
      rw [← e1]
      rcases e2 with e2 | e2 <;> rw [e2] <;> exact ⟨a, b, by omega, by omega⟩
    · exact ⟨j0, j1, by show (0 : Int) ≤ 1; decide, by show (1 : Int) ≤ _; omega⟩
theorem take_fold {α β : Type} (f : β → α → β) (b : β) {l : List α} {i : Nat} {x : α} (h : l[i]? = some x) : (l.take (i + 1)).foldl f b = f ((l.take i).foldl f b) x := by
  rw [List.take_succ, h, List.foldl_append]
  rfl
theorem InvM.fold {es : List Ed} {lb known : Nat} {ss : List Dt} {z : MSt} (h : InvM lb known 0 z) (hs : ∀ s ∈ ss, OkS es known s) : ∀ i, i ≤ ss.length → InvM lb known i ((ss.take i).foldl (st1 es) z)
  | 0, _ => h
  | i + 1, hi => by
    rw [take_fold _ _ (List.getElem?_eq_getElem (show i < ss.length from hi))]
    exact (InvM.fold h hs i (Nat.le_of_succ_le hi)).step (hs _ (List.getElem_mem _))
theorem InvM.zero {lb known : Nat} : InvM lb known 0 ⟨List.replicate lb 0, 0, []⟩ := ⟨List.length_replicate, List.nodup_nil, (fun p hp => by cases hp), Nat.le_refl _⟩
/-- the measures found so far -/
def OkF (lb : Nat) (fd : List (List Int × Int)) : Prop := ∀ m ∈ fd, m.1.length = lb
theorem st2_len {lb : Nat} {fd : List (List Int × Int)} (hf : OkF lb fd) : ∀ {tm : List (Int × Int)} {z : List Int × Int}, z.1.length = lb → (tm.foldl (st2 fd) z).1.length = lb
  | [], _, h => h
  | p :: tm, z, h => by
    refine st2_len hf (tm := tm) (z := st2 fd z p) ?_
    unfold st2
    cases e : fd[p.1.toNat]? with
    | none => exact h
    | some m =>
      show (vmul p.2 z.1 m.1).length = lb
      rw [vmul_len (h.trans (hf m (List.mem_of_getElem? e)).symm)]
      exact h
theorem mOne_len {W : Web} {fd : List (List Int × Int)} {es : List Ed} {ss : List Dt} {known : Nat} (hf : OkF W.lb.toNat fd) (hs : ∀ s ∈ ss, OkS es known s) : (mOne W fd es ss).1.length = W.lb.toNat := by
  refine st2_len hf ?_
  have := (InvM.fold (InvM.zero (lb := W.lb.toNat) (known := known)) hs ss.length (Nat.le_refl _)).c
  rw [List.take_length] at this
  exact this
theorem msOf_ok {W : Web} {ws : List Dt} (hw : ∀ j, j < ws.length → wB W ws j = true) : ∀ i, i ≤ ws.length → OkF W.lb.toNat (msOf W (ws.take i)) ∧ (msOf W (ws.take i)).length = i
  | 0, _ => ⟨(fun m hm => by cases hm), rfl⟩
  | i + 1, hi => by
    obtain ⟨h1, h2⟩ := msOf_ok hw i (Nat.le_of_succ_le hi)
    obtain ⟨n, ss, nt, g1, g2, g3, g4⟩ := word_shape (hw i hi)
    have e : msOf W (ws.take (i + 1)) = msOf W (ws.take i) ++ [mOne W (msOf W (ws.take i)) nt.2 ss] := by
      show (ws.take (i + 1)).foldl (stW W) [] = _
      rw [take_fold _ _ g1]
      show (match W.ns[n.toNat]? with | some nt => msOf W (ws.take i) ++ [mOne W (msOf W (ws.take i)) nt.2 ss] | none => _) = _
      rw [g3]
    rw [e]
    refine ⟨fun m hm => ?_, by rw [List.length_append, h2]; rfl⟩
    rcases List.mem_append.mp hm with hm | hm
    · exact h1 m hm
    · rw [List.mem_singleton.mp hm]
      exact mOne_len h1 g4
theorem words_all {W : Web} {d : Dt} {ws : List Dt} (hs : seqOf d = some ws) (h : wordsB W d = true) : ∀ j, j < ws.length → wB W ws j = true := fun j hj => by
  unfold wordsB at h
  rw [hs] at h
  exact List.all_eq_true.mp (show (List.range ws.length).all (wB W ws) = true from h) j (List.mem_range.mpr hj)
theorem tm_at {p : Int × Int} : ∀ {tm : List (Int × Int)}, (tm.map (·.1)).Nodup → p ∈ tm → valV (tmK tm) (Sum.inl p.1) = some (V.int p.2)
  | q :: tm, hn, hp => by
    rw [List.map_cons, List.nodup_cons] at hn
    rcases List.mem_cons.mp hp with rfl | hp
    · exact valV_pos rfl
    · have hq : ¬ q.1 = p.1 := fun e => hn.1 (List.mem_map.mpr ⟨p, hp, e.symm⟩)
      rw [show valV (tmK (q :: tm)) (Sum.inl p.1) = valV (tmK tm) (Sum.inl p.1) from valV_neg (fun e => hq (Sum.inl.inj e))]
      exact tm_at hn.2 hp
theorem dvs_of_ints {g : Addr} {H : Hp} : ∀ {xs : List V} {l : List Int}, DVs g H xs (l.map Dt.int) → xs = l.map V.int
  | xs, [], h => by cases h; rfl
  | xs, i :: l, h => by
    cases h with
    | cons hx r =>
      obtain rfl := hx.int_inv
      rw [dvs_of_ints r]
      rfl
section
variable {X : Cx}
theorem get_pos : PGet X (fun o i H Q => ∃ (p : Addr) (xs : List V) (k : Int) (z : V), o = .ref p ∧ i = .int k ∧ 0 ≤ k ∧ SqL X.K H p xs ∧ atI xs k = some z ∧ Q z H) := by
  intro pins s σ H o i ov iv Q I ro ri h
  obtain ⟨p, xs, k, z, rfl, rfl, h0, hq, he, q⟩ := h
  cases ro
  obtain ⟨t, rfl⟩ := ri
  obtain ⟨its, r, pl, hz⟩ := I.list hq
  obtain ⟨j, h1, h2, h3, h4, h5⟩ := atI_get he
  obtain ⟨w, ew, rw'⟩ := r.get h2
  have hl := r.length
  have hn := line63
  have hj : k.toNat = j := by
    rw [seqIndex_of h0 h5] at h1
    exact Option.some.inj h1
  exact wpAny_getItem_list pl.isList h0 (by omega) (by rw [hj]; simpa using ew) ⟨z, H, I, rw', q⟩
end
section
variable {P : Program} {w : World} {K : PySem.W.Frag} {mg : Str → Option Value} {base : Heap}
theorem scMs : FnScope ["web", "words", "found", "net", "steps", "counts", "beats", "times", "at", "inner", "edge", "label", "one", "other"] ["web", "words"] (defScope sMs) := ⟨rfl, rfl, rfl, by decide +kernel, rfl, by decide +kernel, by decide +kernel⟩
theorem ok_ms {f C1 C2 : Addr} {fd : FuncData} (F : Fun K "measures" "measures" sMs f fd) (T : Bn mg) (cNeed : ClX (L2.CX P w) P w K mg base "need_web" ["web"] 5 (spNeed C1)) (cNW : ClX (L2.CX P w) P w K mg base "need_words" ["web", "words"] 5 (spNWd C2))
    (cSA : Cl P w K mg base "steps_apart" ["steps"] 1 spSA) : FnOk P w K mg base (L2.CX P w) 6 f fd ["web", "words"] (spMs C1 C2) := by
  obtain ⟨fNeed, fdNeed, GNeed, mNeed, kNeed, bNeed⟩ := cNeed
  obtain ⟨fNW, fdNW, GNW, mNW, kNW, bNW⟩ := cNW
  obtain ⟨fSA, fdSA, GSA, mSA, kSA, bSA⟩ := cSA
  refine F.okX scMs (fun vs H Q E h => ?_) (fun cdv A outer s H vs Q Ex hr h => ?_)
  · obtain ⟨g, a, b, c, d, rfl, _⟩ := h
    rfl
  · obtain ⟨g, vw, vws, dw, d, rfl, hw, hws, k1, k2, k3⟩ := h
    have hr1 : Room 1 _ := hr.mono (by decide)
    have hr5 : Room 5 _ := hr.mono (by decide)
    refine ⟨_, (pss_cons (ps_expr (pe_call GNeed hr5 (by rfl) mNeed kNeed bNeed .nil (passes_call (takes_of rfl rfl rfl rfl) (fun _ _ _ _ h => h)) (pa_cons (pv 0) pa_nil)))
      (pss_cons (ps_expr (pe_call GNW hr5 (by rfl) mNW kNW bNW .nil (passes_call (takes_of rfl rfl rfl rfl) (fun _ _ _ _ h => h)) (pa_cons (pv 0) (pa_cons (pv 1) pa_nil))))
      (pss_cons (ps_set (i := 2) scMs.nd rfl (Or.inl rfl) (pe_lst pa_nil))
      (pss_cons (ps_for (passes_of rfl) rfl (pi_or (pi_list (pv 1)) (pi_tup (pv 1))) (pg_tup (by rfl) (pgs_cons (pg_name (i := 3) scMs.nd rfl (Or.inl rfl)) (pgs_cons (pg_name (i := 4) scMs.nd rfl (Or.inl rfl)) pgs_nil)))
          (pss_cons (ps_set (i := 5) scMs.nd rfl (Or.inl rfl) (pe_op op_rep (pe_lst (pa_cons pe_int pa_nil)) (pe_ix ix_tup (pv 0) pe_int (fun _ _ => rfl))))
          (pss_cons (ps_set (i := 6) scMs.nd rfl (Or.inl rfl) pe_int)
          (pss_cons (ps_set (i := 7) scMs.nd rfl (Or.inr rfl) pe_dnewK)
          (pss_cons (ps_for (passes_of rfl) rfl (pi_list (pe_call GSA hr1 (by rfl) mSA kSA bSA .nil pass0 (pa_cons (pv 4) pa_nil))) (pg_tup (by rfl) (pgs_cons (pg_name (i := 8) scMs.nd rfl (Or.inl rfl)) (pgs_cons (pg_name (i := 9) scMs.nd rfl (Or.inr rfl)) pgs_nil)))
              (pss_cons (ps_set (i := 10) scMs.nd rfl (Or.inl rfl) (pe_ix ix_tup (pe_ix ix_tup (pe_ix ix_tup (pe_ix ix_tup (pv 0) pe_int (fun _ _ => rfl)) (pv 3) (fun _ _ => rfl)) pe_int (fun _ _ => rfl)) (pv 8) (fun _ _ => rfl)))
              (pss_cons (ps_aug (i := 6) scMs.nd rfl (Or.inl rfl) (pe_ix ix_tup (pv 10) pe_int (fun _ _ => rfl)) ip_add)
              (pss_cons (ps_for (passes_of rfl) rfl (pi_tup (pe_ix ix_tup (pv 10) pe_int (fun _ _ => rfl))) (pg_name (i := 11) scMs.nd rfl (Or.inl rfl))
                  (pss_one (ps_augS (pv 5) (pv 11) get_pos pe_int ip_add set_list)))
              (pss_one (ps_if (pt_cmpR op_notN (pv 9) pe_non (nomark _)) (pss_one (ps_dput (hu_of hr) (pv 7) (pv 9) (pe_op op_add (pe_dget2 (hu_of hr) (pv 7) (pv 9) pe_int ⟨rfl, rfl, rfl, rfl⟩) pe_int) (by rfl))) pss_nil))))))
          (pss_mid (ps_lock (ps_for (passes_of rfl) rfl (pi_keys (pv 7)) (pg_name (i := 9) scMs.nd rfl (Or.inr rfl))
              (pss_cons (ps_aug (i := 6) scMs.nd rfl (Or.inl rfl) (pe_op op_mul (pe_dget (hu_of hr) (pv 7) (pv 9) (fun _ _ => rfl)) (pe_ix ix_tup (pe_ix ix_list (pv 2) (pv 9) (fun _ _ => rfl)) pe_int (fun _ _ => rfl))) ip_add)
              (pss_one (ps_setLc (i := 5) (own := [("one", 12), ("other", 13)]) (g := gTup K 2 (gCons (gName 12) (gCons (gName 13) gNil))) (tt := tYes) (by rfl) scMs.nd rfl rfl (sw_true rfl rfl rfl (by decide +kernel)) (pi_zipM (by rfl) T.zip (pa_cons (pv 5) (pa_cons (pe_ix ix_tup (pe_ix ix_list (pv 2) (pv 9) (fun _ _ => rfl)) pe_int (fun _ _ => rfl)) pa_nil))) (blkOk_by (own := [("one", 12), ("other", 13)]) (N := ["web", "words", "found", "net", "steps", "counts", "beats", "times", "at", "inner", "edge", "label", "one", "other"]) (sc := defScope sMs) (by decide +kernel)) (fun _ _ _ _ _ => (pg_tup (by rfl) (pgs_cons (pg_name (i := 12) scMs.nd rfl (Or.inl rfl)) (pgs_cons (pg_name (i := 13) scMs.nd rfl (Or.inl rfl)) pgs_nil)))) (fun _ _ _ _ _ => pts_nil) (fun _ _ _ _ _ => (pe_op op_add (pv 12) (pe_op op_mul (pe_dget (hu_of hr) (pv 7) (pv 9) (fun _ _ => rfl)) (pv 13)))))))))
          (pss_one (ps_expr (qApp (pv 2) (pe_tup (pa_cons (pe_callTy call_tuple_of (by rfl) T.tpl (by decide +kernel) (pa_cons (pv 5) pa_nil)) (pa_cons (pv 6) pa_nil))))))))))))
      (pss_one (ps_ret (pv 2))))))), ?_⟩
    refine ⟨_, rfl, g, vw, dw, rfl, hw, fun hb H1 s1 => ?_, fun hb H1 s1 => k1 hb H1 s1⟩
    obtain ⟨W, rfl, okw⟩ := web_dec hb
    have hw1 := hw.keep (Kv.of s1)
    have hws1 := hws.keep (Kv.of s1)
    refine ⟨_, rfl, _, rfl, g, vw, vws, W, d, rfl, hw1, okw, hws1, fun hd H2 s2 => ?_, fun hd H2 s2 => k2 W rfl okw hd H2 (s1.trans s2)⟩
    have s02 := s1.trans s2
    have hw2 := hw.keep (Kv.of s02)
    have hws2 := hws.keep (Kv.of s02)
    refine ⟨Nat.zero_le _, fun F0 hF0 => ?_⟩
    generalize hH3 : upd H2 F0 _ = H3
    obtain ⟨sF0, eF0⟩ := freshF hF0 hH3
    obtain ⟨b0, c0, xn, rfl, eb0, ec0, rn⟩ := wb_at hw2
    obtain ⟨ws, hsq⟩ : ∃ ws, seqOf d = some ws := by
      cases h : seqOf d with
      | none =>
        unfold wordsB at hd
        rw [h] at hd
        cases hd
      | some ws => exact ⟨ws, rfl⟩
    have hgood := words_all hsq hd
    have k4 := k3 W ws rfl okw hsq hd
    cases hws2 with
    | @lst a xs ds e n hl r =>
      obtain rfl : ds = ws := Option.some.inj hsq
      refine .inl ⟨_, rfl, a, rfl, ⟨_, SqL.of (sF0 _ _ e)⟩, ?_⟩
      have hlen := r.len
      refine for_it (walk_list (K := K) (a := a) (xs := xs)) (fun i σ H' => ∃ (v3 v4 v5 v6 v7 v8 v9 v10 v11 : Option V) (ys : List V), σ = [some (.ref b0), some (.ref a), some (.ref F0), v3, v4, v5, v6, v7, v8, v9, v10, v11, none, none] ∧ Same H2 H' ∧ H' F0 = some (.lst ys) ∧ ∀ g', DVs g' H' ys ((msOf W (ds.take i)).map msD))
        ⟨none, none, none, none, none, none, none, none, none, [], rfl, sF0, eF0, fun _ => .nil⟩ (fun i σ H' _ ⟨_, _, _, _, _, _, _, _, _, _, _, s3, _⟩ => SqL.of (s3 _ _ e)) ?_ ?_
      · rintro i x σ H4 H4z hi ⟨v3, v4, v5, v6, v7, v8, v9, v10, v11, ys, rfl, s24, eF, rys⟩ ⟨rfl, hx⟩
        obtain ⟨d0, hd0, hdv⟩ := r.at_ hx
        have hi' : i < ds.length := (List.getElem?_eq_some_iff.mp hd0).1
        obtain ⟨n, ss, nt, g1, g2, g3, g4⟩ := word_shape (hgood i hi')
        obtain rfl : d0 = _ := Option.some.inj (hd0.symm.trans g1)
        have hdv4 := hdv.keep (Kv.of s24)
        obtain ⟨bw, vn, vs, rfl, ebw, hn, hss⟩ := hdv4.tup2
        obtain rfl := hn.int_inv
        refine ⟨bw, _, rfl, SqT.of ebw, rfl, _, _, rfl, _, _, rfl, rfl, ?_⟩
        refine ⟨(by show 1 ≤ sizeLine; decide), fun z1 hz1 => ?_⟩
        generalize hH5 : upd H4z z1 _ = H5
        obtain ⟨sz1, ez1⟩ := freshF hz1 hH5
        have s25 := s24.trans sz1
        refine ⟨_, rfl, b0, _, 0, _, rfl, rfl, SqT.of (s25 _ _ eb0), atI_nat (j := 0) rfl, z1, W.lb, [.int 0], rfl, rfl, ez1, (by have := okw.lb.1; omega), (by have := okw.lb.2; omega), (by show 1 * W.lb.toNat ≤ sizeLine; rw [sizeLine_eq]; have := okw.lb.2; omega), fun z2 hz2 => ?_⟩
        generalize hH6 : upd H5 z2 _ = H6
        obtain ⟨sz2, ez2⟩ := freshF hz2 hH6
        have s26 := s25.trans sz2
        have hrep : (List.replicate W.lb.toNat [V.int 0]).flatten = (List.replicate W.lb.toNat (0 : Int)).map V.int := by
          generalize W.lb.toNat = m
          induction m with
          | zero => rfl
          | succ m ih => rw [List.replicate_succ, List.flatten_cons, ih, List.replicate_succ, List.map_cons]; rfl
        have ez2' : H6 z2 = some (.lst ((List.replicate W.lb.toNat (0 : Int)).map V.int)) := by
          rw [← hrep]
          exact ez2
        refine fun T0 hT0 => ?_
        generalize hH7 : upd H6 T0 _ = H7
        obtain ⟨sT0, eT0⟩ := freshF hT0 hH7
        have s27 := s26.trans sT0
        have hss7 : DV g H7 vs (.tup ss) := (hss.keep (Kv.of sz1)).keep (Kv.of (sz2.trans sT0))
        refine ⟨_, rfl, g, vs, ss, rfl, hss7, purs_all.trans (List.all_eq_true.mpr fun s hs => (g4 s hs).pur), fun D zs H8 s78 hD eD rzs => ?_⟩
        have s28 := s27.trans s78
        have hz24 : H4z z2 = none := sz1.free hz2
        have hT06 : H4z T0 = none := sz1.free (sz2.free hT0)
        have e8c := s78 _ _ (sT0 _ _ ez2')
        have e8t := s78 _ _ eT0
        have neD : D ≠ z2 := fun z => by
          rw [z, sT0 _ _ ez2'] at hD
          cases hD
        have neDT : D ≠ T0 := fun z => by
          rw [z, eT0] at hD
          cases hD
        have neT2 : T0 ≠ z2 := fun z => by
          rw [z, ez2'] at hT0
          cases hT0
        have hss4 : ss.length ≤ 20000 := by
          obtain ⟨_, _, _, _, h, _⟩ := hss.tup_inv
          exact h
        refine ⟨D, rfl, ⟨_, SqL.of eD⟩, ?_⟩
        have hlz : zs.length = ss.length := by rw [(rzs 0).len, List.length_map]
        have hmS : ∀ j, j ≤ ss.length → InvM W.lb.toNat i j ((ss.take j).foldl (st1 nt.2) ⟨List.replicate W.lb.toNat 0, 0, []⟩) := fun j hj => InvM.fold InvM.zero g4 j hj
        refine for_it (walk_list (K := K) (a := D) (xs := zs)) (fun j σ H' => ∃ (v8 v9 v10 v11 : Option V), σ = [some (.ref b0), some (.ref a), some (.ref F0), some (.int n), some vs, some (.ref z2), some (.int ((ss.take j).foldl (st1 nt.2) ⟨List.replicate W.lb.toNat 0, 0, []⟩).b), some (.ref T0), v8, v9, v10, v11, none, none] ∧
            Same H4z H' ∧ H' D = some (.lst zs) ∧ H' z2 = some (.lst (((ss.take j).foldl (st1 nt.2) ⟨List.replicate W.lb.toNat 0, 0, []⟩).c.map V.int)) ∧ H' T0 = some (.dK (tmK ((ss.take j).foldl (st1 nt.2) ⟨List.replicate W.lb.toNat 0, 0, []⟩).t)) ∧ ∀ g', DVs g' H' zs (ss.map apD))
          ⟨v8, v9, v10, v11, rfl, ((sz1.trans sz2).trans sT0).trans s78, eD, e8c, e8t, rzs⟩ (fun j σ H' _ ⟨_, _, _, _, _, _, e', _⟩ => SqL.of e') ?_ ?_
        · rintro j x σ H9 H9z hj ⟨v8', v9', v10', v11', rfl, s49, eD9, ec9, et9, rz9⟩ ⟨rfl, hx'⟩
          have hjs : j < ss.length := hlz ▸ hj
          obtain ⟨d1, hd1, hxd⟩ := (rz9 0).at_ hx'
          rw [List.getElem?_map] at hd1
          obtain ⟨st, hst, rfl⟩ := Option.map_eq_some_iff.mp hd1
          have hok := g4 st (List.mem_of_getElem? hst)
          obtain ⟨k, e0, ha, hk, he, hsh⟩ := hok.ex
          have hme : e0 ∈ nt.2 := List.mem_of_getElem? he
          have hoe := okw.ed nt (List.mem_of_getElem? g3) e0 hme
          obtain ⟨q, rfl, eq⟩ : ∃ q, x = .ref q ∧ H9z q = some (.tup [.int k, oIV (inI st)]) := by
            rcases hsh with rfl | ⟨jj, rfl, _⟩
            · obtain ⟨q, vx, vy, rfl, eq, h1, h2⟩ := DV.tup2 (x := .int k) (y := .non) hxd
              obtain rfl := h1.int_inv
              cases h2
              exact ⟨q, rfl, eq⟩
            · obtain ⟨q, vx, vy, rfl, eq, h1, h2⟩ := DV.tup2 (x := .int k) (y := .int jj) hxd
              obtain rfl := h1.int_inv
              obtain rfl := h2.int_inv
              exact ⟨q, rfl, eq⟩
          have hiv := hmS j (Nat.le_of_lt hjs)
          have hstep := take_fold (st1 nt.2) ⟨List.replicate W.lb.toNat 0, 0, []⟩ hst
          have hek : edK nt.2 st = some e0 := by
            unfold edK
            rw [ha]
            exact he
          generalize hzj : (ss.take j).foldl (st1 nt.2) ⟨List.replicate W.lb.toNat 0, 0, []⟩ = zj at *
          have hst1 : st1 nt.2 zj st = ⟨bump zj.c e0.l, zj.b + e0.b, putO zj.t (inI st)⟩ := by
            unfold st1
            rw [hek]
          rw [hst1] at hstep
          obtain ⟨vnt, hvnt, hnd⟩ := rn.at' (i := n.toNat) (d := ntD nt) (by rw [List.getElem?_map, g3]; rfl)
          obtain ⟨b3, c3, xe, rfl, eb3, ec3, re⟩ := nt_at hnd
          obtain ⟨ve, hve, hed⟩ := re.at' (i := k.toNat) (d := edD e0) (by rw [List.getElem?_map, he]; rfl)
          obtain ⟨be, ae, rfl, ebe, xl, eae, rl⟩ := ed_at hed
          have s29 := s24.trans s49
          have hxl : xl.length = e0.l.length := by rw [rl.len, List.length_map]
          have hpu : purs (ss.map apD) = true := purs_map fun s hs => ap_pur (g4 s hs).pur
          refine ⟨q, _, rfl, SqT.of eq, rfl, _, _, rfl, _, _, rfl, rfl, ?_⟩
          refine ⟨_, rfl, b0, _, 1, _, rfl, rfl, SqT.of (s29 _ _ eb0), atI_nat (j := 1) rfl, _, rfl, c0, xn, n, _, rfl, rfl, SqT.of (s29 _ _ ec0), at_int g2 hvnt, b3, _, 1, _, rfl, rfl, SqT.of (s29 _ _ eb3), atI_nat (j := 1) rfl, _, rfl, c3, xe, k, _, rfl, rfl, SqT.of (s29 _ _ ec3), at_int hk hve, ?_⟩
          refine ⟨_, rfl, _, rfl, be, _, 3, _, rfl, rfl, SqT.of (s29 _ _ ebe), atI_nat (j := 3) rfl, _, _, rfl, rfl, ?_⟩
          refine ⟨_, rfl, be, _, 4, _, rfl, rfl, SqT.of (s29 _ _ ebe), atI_nat (j := 4) rfl, ae, rfl, ⟨_, SqT.of (s29 _ _ eae)⟩, ?_⟩
          refine for_it (walk_tup (K := K) (a := ae) (xs := xl)) (fun m σ H' => ∃ (v11 : Option V), σ = [some (.ref b0), some (.ref a), some (.ref F0), some (.int n), some vs, some (.ref z2), some (.int (zj.b + e0.b)), some (.ref T0), some (.int k), some (oIV (inI st)), some (.ref be), v11, none, none] ∧
            Same H4z H' ∧ H' D = some (.lst zs) ∧ H' z2 = some (.lst ((bump zj.c (e0.l.take m)).map V.int)) ∧ H' T0 = some (.dK (tmK zj.t)) ∧ ∀ g', DVs g' H' zs (ss.map apD))
            ⟨v11', rfl, s49, eD9, ec9, et9, rz9⟩ (fun m σ H' _ ⟨_, _, s4', _⟩ => SqT.of ((s24.trans s4') _ _ eae)) ?_ ?_
          · rintro m x σ Ha Hb hm ⟨v11, rfl, s4a, eDa, eca, eta, rza⟩ ⟨rfl, hxm⟩
            obtain ⟨dk, hdk, hxd2⟩ := rl.at_ hxm
            rw [List.getElem?_map] at hdk
            obtain ⟨kk, hkk, rfl⟩ := Option.map_eq_some_iff.mp hdk
            obtain rfl := hxd2.int_inv
            obtain ⟨k0, k1'⟩ := hoe.k kk (List.mem_of_getElem? hkk)
            have hbl : (bump zj.c (e0.l.take m)).length = W.lb.toNat := by rw [bump_len]; exact hiv.c
            have hb2 : bump zj.c (e0.l.take (m + 1)) = (bump zj.c (e0.l.take m)).set kk.toNat ((bump zj.c (e0.l.take m)).getD kk.toNat 0 + 1) := take_fold _ _ hkk
            generalize hbv : bump zj.c (e0.l.take m) = bv at *
            have hkl : kk.toNat < bv.length := by omega
            have hget : (bv.map V.int)[kk.toNat]? = some (V.int (bv.getD kk.toNat 0)) := by
              rw [List.getElem?_map, List.getElem?_eq_getElem hkl, List.getD_eq_getElem?_getD, List.getElem?_eq_getElem hkl]
              rfl
            have hix : ixN (bv.map V.int).length kk = some kk.toNat := by
              unfold ixN
              rw [List.length_map]
              rw [if_pos k0, if_pos (by omega)]
            refine ⟨_, rfl, _, rfl, z2, _, kk, _, rfl, rfl, k0, SqL.of eca, at_int k0 hget, _, _, rfl, rfl, z2, _, kk, kk.toNat, rfl, rfl, eca, hix, ?_⟩
            refine ⟨_, rfl, ?_, ?_, ?_, ?_, fun g' => ?_⟩
            · intro b' o eb
              rw [upd_ne (ne_of_none eb hz24)]
              exact s4a _ _ eb
            · rw [upd_ne neD]
              exact eDa
            · rw [upd_same, hb2, List.map_set]
            · rw [upd_ne (fun z => by rw [z, eca] at eta; cases eta)]
              exact eta
            · exact DVs.keepP (g := 0) (Kt.put eca) hpu (rza 0)
          · rintro σ Ha ⟨v11, rfl, s4a, eDa, eca, eta, rza⟩
            rw [hxl, List.take_length] at eca
            refine ⟨_, rfl, rfl, _, rfl, ?_⟩
            rcases hsh with rfl | ⟨jj, rfl, jj0, jj1⟩
            · exact ifF rfl ⟨some (.int k), some .non, some (.ref be), v11, (by rw [hstep] <;> rfl), s4a, eDa, (by rw [hstep] <;> exact eca), (by rw [hstep] <;> exact eta), rza⟩
            · refine ifT rfl ?_
              have hlt : (tmK zj.t).length < sizeLine := by
                have := hiv.l
                rw [tm_len, sizeLine_eq]
                omega
              refine ⟨_, rfl, T0, rfl, .inl ⟨_, .inl eta⟩, _, rfl, _, DGet.k (k := Sum.inl jj) eta, _, _, tm_val jj zj.t, rfl, _, rfl, _, rfl, T0, _, rfl, DPut.k (k := Sum.inl jj) eta hlt, ?_⟩
              rw [tm_put hiv.n]
              refine ⟨some (.int k), some (.int jj), some (.ref be), v11, (by rw [hstep] <;> rfl), ?_, ?_, ?_, ?_, fun g' => ?_⟩
              · intro b' o eb
                rw [upd_ne (ne_of_none eb hT06)]
                exact s4a _ _ eb
              · rw [upd_ne neDT]
                exact eDa
              · rw [upd_ne (Ne.symm neT2), hstep]
                exact eca
              · rw [upd_same, hstep]
                rfl
              · refine DVs.keepP (g := 0) (fun b xs e => ?_) hpu (rza 0)
                rw [upd_ne (fun z => by rw [z, eta] at e; cases e)]
                exact e
        · rintro σ H9 ⟨v8', v9', v10', v11', rfl, s49, eD9, ec9, et9, rz9⟩
          rw [hlz, List.take_length] at ec9 et9
          rw [hlz, List.take_length]
          have hiv := hmS ss.length (Nat.le_refl _)
          rw [List.take_length] at hiv
          obtain ⟨okf, hfl⟩ := msOf_ok hgood i (Nat.le_of_lt hi')
          have hone : mOne W (msOf W (ds.take i)) nt.2 ss = (ss.foldl (st1 nt.2) ⟨List.replicate W.lb.toNat 0, 0, []⟩).t.foldl (st2 (msOf W (ds.take i))) ((ss.foldl (st1 nt.2) ⟨List.replicate W.lb.toNat 0, 0, []⟩).c, (ss.foldl (st1 nt.2) ⟨List.replicate W.lb.toNat 0, 0, []⟩).b) := rfl
          generalize hzz : ss.foldl (st1 nt.2) ⟨List.replicate W.lb.toNat 0, 0, []⟩ = zz at *
          generalize hfd : msOf W (ds.take i) = fd' at *
          refine ⟨fun σ H' => ∃ (v8 v9 v10 v11 : Option V) (z5 : Addr), σ = [some (.ref b0), some (.ref a), some (.ref F0), some (.int n), some vs, some (.ref z5), some (.int (mOne W fd' nt.2 ss).2), some (.ref T0), v8, v9, v10, v11, none, none] ∧ Same H4z H' ∧ H4z z5 = none ∧ H' z5 = some (.lst ((mOne W fd' nt.2 ss).1.map V.int)), ?_, ?_⟩
          · refine ⟨T0, _, et9, trivial, fun od => ?_⟩
            have s4f : Same H4z (upd H9 T0 (.frz od (.dK (tmK zz.t)))) := fun b' o eb => by
              rw [upd_ne (ne_of_none eb hT06)]
              exact s49 _ _ eb
            refine ⟨_, rfl, T0, od, rfl, .inl ⟨_, upd_same, ?_⟩⟩
            refine for_it (walk_keys (d := T0) (o := od) (kvs := tmK zz.t)) (fun m σ H' => ∃ (v8 v9 v10 v11 : Option V) (z5 : Addr), σ = [some (.ref b0), some (.ref a), some (.ref F0), some (.int n), some vs, some (.ref z5), some (.int ((zz.t.take m).foldl (st2 fd') (zz.c, zz.b)).2), some (.ref T0), v8, v9, v10, v11, none, none] ∧ Same H4z H' ∧ H' T0 = some (.frz od (.dK (tmK zz.t))) ∧ H4z z5 = none ∧ H' z5 = some (.lst (((zz.t.take m).foldl (st2 fd') (zz.c, zz.b)).1.map V.int)))
              ⟨v8', v9', v10', v11', z2, rfl, s4f, upd_same, hz24, (upd_ne (Ne.symm neT2)).trans ec9⟩ (fun m σ H' _ ⟨_, _, _, _, _, _, _, e', _⟩ => e') ?_ ?_
            · rintro m x σ Ha Hb hm ⟨v8, v9, v10, v11, z5, rfl, s4a, etf, hz5, ez5⟩ ⟨rfl, kx, vx, hkv, rfl⟩
              obtain ⟨p, hp, hpp⟩ : ∃ p, zz.t[m]? = some p ∧ ((Sum.inl p.1 : Key), V.int p.2) = (kx, vx) := by
                unfold tmK at hkv
                rw [List.getElem?_map] at hkv
                exact Option.map_eq_some_iff.mp hkv
              obtain ⟨rfl, rfl⟩ := Prod.mk.inj hpp
              have hpm := List.mem_of_getElem? hp
              obtain ⟨p0, p1, p2, p3⟩ := hiv.t p hpm
              obtain ⟨mm, hmm⟩ : ∃ mm, fd'[p.1.toNat]? = some mm := ⟨fd'[p.1.toNat]'(by omega), List.getElem?_eq_getElem (by omega)⟩
              have hml := okf mm (List.mem_of_getElem? hmm)
              have hstep2 := take_fold (st2 fd') (zz.c, zz.b) hp
              have hlc : ((zz.t.take m).foldl (st2 fd') (zz.c, zz.b)).1.length = W.lb.toNat := st2_len okf hiv.c
              generalize hzc : (zz.t.take m).foldl (st2 fd') (zz.c, zz.b) = zc at *
              have hst2 : st2 fd' zc p = (vmul p.2 zc.1 mm.1, zc.2 + p.2 * mm.2) := by
                unfold st2
                rw [hmm]
              rw [hst2] at hstep2
              obtain ⟨vm, hvm, hmd⟩ := (rys 0).at' (i := p.1.toNat) (d := msD mm) (by rw [List.getElem?_map, hmm]; rfl)
              obtain ⟨bm, vt, vb, rfl, ebm, hvt, hvb⟩ := DV.tup2 hmd
              obtain rfl := hvb.int_inv
              obtain ⟨bc, xc, rfl, ebc, _, rc⟩ := hvt.tup_inv
              obtain rfl := dvs_of_ints rc
              have hget : DGet Hb T0 (.int p.1) (some (.int p.2)) := .inl ⟨_, Sum.inl p.1, .inr ⟨od, etf⟩, rfl, (tm_at hiv.n hpm).symm⟩
              have eFb := s4a _ _ eF
              have ebmb := s4a _ _ ebm
              have ebcb := s4a _ _ ebc
              have hlb := okw.lb
              refine ⟨_, rfl, _, rfl, _, rfl, T0, V.int p.2, rfl, hget, _, rfl, _, rfl, F0, ys, p.1, _, rfl, rfl, SqL.of eFb, at_int p0 hvm, bm, _, 1, _, rfl, rfl, SqT.of ebmb, atI_nat (j := 1) rfl, _, _, rfl, rfl, .inl ⟨by omega, by omega⟩, _, _, rfl, rfl, ?_⟩
              refine ⟨_, rfl, _, rfl, _, rfl, F0, ys, p.1, _, rfl, rfl, SqL.of eFb, at_int p0 hvm, bm, _, 0, _, rfl, rfl, SqT.of ebmb, atI_nat (j := 0) rfl, z5, bc, _, _, rfl, SqL.of ez5, SqT.of ebcb, fun D2 hD2 => ?_⟩
              refine lc_it (walk_zipM (K := K) (a := z5) (b := bc) (xs := zc.1.map V.int) (ys := mm.1.map V.int) (n := zc.1.length) (by rw [List.length_map]) (by rw [List.length_map]; omega)) (fun u H' => H' D2 = some (.lst (((vmul p.2 zc.1 mm.1).take u).map V.int)) ∧ Same Hb H') ⟨upd_same, same_new hD2⟩ (fun _ _ _ h => ⟨SqL.of (h.2 _ _ ez5), SqT.of (h.2 _ _ ebcb)⟩) ?_ ?_
              · rintro u x Hc Hd hu ⟨e1, s1'⟩ ⟨T1, x', y', rfl, hT, rfl, hx2, hy2⟩
                have hx2 : (zc.1.map V.int)[u]? = some x' := hx2
                have hy2 : (mm.1.map V.int)[u]? = some y' := hy2
                rw [List.getElem?_map] at hx2 hy2
                obtain ⟨ia, hia, rfl⟩ := Option.map_eq_some_iff.mp hx2
                obtain ⟨ib, hib, rfl⟩ := Option.map_eq_some_iff.mp hy2
                have sT := same_new (o := .tup [V.int ia, V.int ib]) hT
                generalize hHe : upd Hc T1 _ = He
                have eT : He T1 = some (.tup [V.int ia, V.int ib]) := by rw [← hHe, upd_same]
                have s12 : Same Hc He := by rw [← hHe]; exact sT
                have e2 := s12 _ _ e1
                have hget2 : DGet He T0 (.int p.1) (some (.int p.2)) := .inl ⟨_, Sum.inl p.1, .inr ⟨od, s12 _ _ (s1' _ _ etf)⟩, rfl, (tm_at hiv.n hpm).symm⟩
                refine ⟨T1, _, rfl, SqT.of eT, rfl, _, _, rfl, _, _, rfl, rfl, rfl, ?_⟩
                refine ⟨_, rfl, _, rfl, _, rfl, T0, V.int p.2, rfl, hget2, _, rfl, _, _, rfl, rfl, .inl ⟨by omega, by omega⟩, _, _, rfl, rfl, _, e2, ?_, ?_, ?_⟩
                · rw [List.length_map, List.length_take, sizeLine_eq]
                  omega
                · rw [upd_same, List.take_succ]
                  unfold vmul
                  rw [List.getElem?_zipWith, hia, hib, List.map_append]
                  rfl
                · intro b' o eb
                  rw [upd_ne (ne_of_none eb hD2)]
                  exact s12 _ _ (s1' _ _ eb)
              · rintro Hc ⟨e1, s1'⟩
                rw [List.take_of_length_le (by unfold vmul; rw [List.length_zipWith]; omega)] at e1
                refine ⟨v8, some (.int p.1), v10, v11, D2, ?_, s4a.trans s1', s1' _ _ etf, s4a.free hD2, ?_⟩
                · rw [hstep2] <;> rfl
                · rw [hstep2] <;> exact e1
            · rintro σ Ha ⟨v8, v9, v10, v11, z5, rfl, s4a, etf, hz5, ez5⟩
              rw [tm_len, List.take_length, ← hone] at ez5
              rw [tm_len, List.take_length, ← hone]
              have neZ : z5 ≠ T0 := fun z => by
                rw [z, etf] at ez5
                cases ez5
              refine ⟨etf, v8, v9, v10, v11, z5, rfl, fun b' o eb => ?_, hz5, (upd_ne neZ).trans ez5⟩
              rw [upd_ne (ne_of_none eb hT06)]
              exact s4a _ _ eb
          · rintro σ Ha ⟨v8, v9, v10, v11, z5, rfl, s4a, hz5, ez5⟩
            have eFa := s4a _ _ eF
            have hml : (mOne W fd' nt.2 ss).1.length = W.lb.toNat := by
              rw [← hfd]
              exact mOne_len (hfd ▸ okf) g4
            have hms : msOf W (ds.take (i + 1)) = fd' ++ [mOne W fd' nt.2 ss] := by
              show (ds.take (i + 1)).foldl (stW W) [] = _
              rw [take_fold _ _ g1]
              show (match W.ns[n.toNat]? with | some nt => msOf W (ds.take i) ++ [mOne W (msOf W (ds.take i)) nt.2 ss] | none => _) = _
              rw [g3, hfd]
            refine ⟨_, rfl, .inl ⟨rfl, _, SqL.of eFa⟩, _, rfl, z5, _, rfl, .inl ⟨SqL.of ez5, fun t1 ht1 => ?_⟩⟩
            generalize hHb : upd Ha t1 _ = Hb
            obtain ⟨st1, et1⟩ := freshF ht1 hHb
            refine ⟨_, rfl, (by show 2 ≤ sizeLine; decide), fun t2 ht2 => ?_⟩
            generalize hHc : upd Hb t2 _ = Hc
            obtain ⟨st2, et2⟩ := freshF ht2 hHc
            have eFc := st2 _ _ (st1 _ _ eFa)
            have hyl : ys.length = i := by rw [(rys 0).len, List.length_map, hfl]
            have sc : Same H4z Hc := s4a.trans (st1.trans st2)
            have hpu : purs (fd'.map msD) = true := purs_map fun m _ => (Bool.and_eq_true _ _).mpr ⟨purs_map fun i _ => rfl, rfl⟩
            refine ⟨F0, ys, _, rfl, rfl, eFc, by rw [hyl, sizeLine_eq]; omega, some (.int n), some vs, some (.ref z5), some (.int (mOne W fd' nt.2 ss).2), some (.ref T0), v8, v9, v10, v11, _, rfl, ?_, upd_same, fun g' => ?_⟩
            · intro b' o eb
              rw [upd_ne (ne_of_none eb hF0)]
              exact sc _ _ (s24 _ _ eb)
            · rw [hms, List.map_append]
              have kt : Kt Hc (upd Hc F0 (.lst (ys ++ [.ref t2]))) := Kt.put eFc
              refine DVs.app (DVs.keepP (g := 0) (fun b xs e => kt _ _ (sc _ _ e)) hpu (rys 0)) (.cons ?_ .nil)
              exact .tup (kt _ _ et2) (by show 2 ≤ 20000; decide) (.cons (.tup (kt _ _ (st2 _ _ et1)) (by rw [List.length_map, hml]; have := okw.lb; omega) (dvs_ints _)) (.cons (.int _) .nil))
      · rintro σ H4 ⟨v3, v4, v5, v6, v7, v8, v9, v10, v11, ys, rfl, s24, eF, rys⟩
        rw [hlen, List.take_length] at rys
        exact ⟨_, rfl, k4 F0 ys H4 (s02.trans s24) (s02.free hF0) eF rys⟩
    | @tup a xs ds e hl r =>
      obtain rfl : ds = ws := Option.some.inj hsq
      refine .inr ⟨_, rfl, a, rfl, ⟨_, SqT.of (sF0 _ _ e)⟩, ?_⟩
      have hlen := r.len
      refine for_it (walk_tup (K := K) (a := a) (xs := xs)) (fun i σ H' => ∃ (v3 v4 v5 v6 v7 v8 v9 v10 v11 : Option V) (ys : List V), σ = [some (.ref b0), some (.ref a), some (.ref F0), v3, v4, v5, v6, v7, v8, v9, v10, v11, none, none] ∧ Same H2 H' ∧ H' F0 = some (.lst ys) ∧ ∀ g', DVs g' H' ys ((msOf W (ds.take i)).map msD))
        ⟨none, none, none, none, none, none, none, none, none, [], rfl, sF0, eF0, fun _ => .nil⟩ (fun i σ H' _ ⟨_, _, _, _, _, _, _, _, _, _, _, s3, _⟩ => SqT.of (s3 _ _ e)) ?_ ?_
      · rintro i x σ H4 H4z hi ⟨v3, v4, v5, v6, v7, v8, v9, v10, v11, ys, rfl, s24, eF, rys⟩ ⟨rfl, hx⟩
        obtain ⟨d0, hd0, hdv⟩ := r.at_ hx
        have hi' : i < ds.length := (List.getElem?_eq_some_iff.mp hd0).1
        obtain ⟨n, ss, nt, g1, g2, g3, g4⟩ := word_shape (hgood i hi')
        obtain rfl : d0 = _ := Option.some.inj (hd0.symm.trans g1)
        have hdv4 := hdv.keep (Kv.of s24)
        obtain ⟨bw, vn, vs, rfl, ebw, hn, hss⟩ := hdv4.tup2
        obtain rfl := hn.int_inv
        refine ⟨bw, _, rfl, SqT.of ebw, rfl, _, _, rfl, _, _, rfl, rfl, ?_⟩
        refine ⟨(by show 1 ≤ sizeLine; decide), fun z1 hz1 => ?_⟩
        generalize hH5 : upd H4z z1 _ = H5
        obtain ⟨sz1, ez1⟩ := freshF hz1 hH5
        have s25 := s24.trans sz1
        refine ⟨_, rfl, b0, _, 0, _, rfl, rfl, SqT.of (s25 _ _ eb0), atI_nat (j := 0) rfl, z1, W.lb, [.int 0], rfl, rfl, ez1, (by have := okw.lb.1; omega), (by have := okw.lb.2; omega), (by show 1 * W.lb.toNat ≤ sizeLine; rw [sizeLine_eq]; have := okw.lb.2; omega), fun z2 hz2 => ?_⟩
        generalize hH6 : upd H5 z2 _ = H6
        obtain ⟨sz2, ez2⟩ := freshF hz2 hH6
        have s26 := s25.trans sz2
        have hrep : (List.replicate W.lb.toNat [V.int 0]).flatten = (List.replicate W.lb.toNat (0 : Int)).map V.int := by
          generalize W.lb.toNat = m
          induction m with
          | zero => rfl
          | succ m ih => rw [List.replicate_succ, List.flatten_cons, ih, List.replicate_succ, List.map_cons]; rfl
        have ez2' : H6 z2 = some (.lst ((List.replicate W.lb.toNat (0 : Int)).map V.int)) := by
          rw [← hrep]
          exact ez2
        refine fun T0 hT0 => ?_
        generalize hH7 : upd H6 T0 _ = H7
        obtain ⟨sT0, eT0⟩ := freshF hT0 hH7
        have s27 := s26.trans sT0
        have hss7 : DV g H7 vs (.tup ss) := (hss.keep (Kv.of sz1)).keep (Kv.of (sz2.trans sT0))
        refine ⟨_, rfl, g, vs, ss, rfl, hss7, purs_all.trans (List.all_eq_true.mpr fun s hs => (g4 s hs).pur), fun D zs H8 s78 hD eD rzs => ?_⟩
        have s28 := s27.trans s78
        have hz24 : H4z z2 = none := sz1.free hz2
        have hT06 : H4z T0 = none := sz1.free (sz2.free hT0)
        have e8c := s78 _ _ (sT0 _ _ ez2')
        have e8t := s78 _ _ eT0
        have neD : D ≠ z2 := fun z => by
          rw [z, sT0 _ _ ez2'] at hD
          cases hD
        have neDT : D ≠ T0 := fun z => by
          rw [z, eT0] at hD
          cases hD
        have neT2 : T0 ≠ z2 := fun z => by
          rw [z, ez2'] at hT0
          cases hT0
        have hss4 : ss.length ≤ 20000 := by
          obtain ⟨_, _, _, _, h, _⟩ := hss.tup_inv
          exact h
        refine ⟨D, rfl, ⟨_, SqL.of eD⟩, ?_⟩
        have hlz : zs.length = ss.length := by rw [(rzs 0).len, List.length_map]
        have hmS : ∀ j, j ≤ ss.length → InvM W.lb.toNat i j ((ss.take j).foldl (st1 nt.2) ⟨List.replicate W.lb.toNat 0, 0, []⟩) := fun j hj => InvM.fold InvM.zero g4 j hj
        refine for_it (walk_list (K := K) (a := D) (xs := zs)) (fun j σ H' => ∃ (v8 v9 v10 v11 : Option V), σ = [some (.ref b0), some (.ref a), some (.ref F0), some (.int n), some vs, some (.ref z2), some (.int ((ss.take j).foldl (st1 nt.2) ⟨List.replicate W.lb.toNat 0, 0, []⟩).b), some (.ref T0), v8, v9, v10, v11, none, none] ∧
            Same H4z H' ∧ H' D = some (.lst zs) ∧ H' z2 = some (.lst (((ss.take j).foldl (st1 nt.2) ⟨List.replicate W.lb.toNat 0, 0, []⟩).c.map V.int)) ∧ H' T0 = some (.dK (tmK ((ss.take j).foldl (st1 nt.2) ⟨List.replicate W.lb.toNat 0, 0, []⟩).t)) ∧ ∀ g', DVs g' H' zs (ss.map apD))
          ⟨v8, v9, v10, v11, rfl, ((sz1.trans sz2).trans sT0).trans s78, eD, e8c, e8t, rzs⟩ (fun j σ H' _ ⟨_, _, _, _, _, _, e', _⟩ => SqL.of e') ?_ ?_
        · rintro j x σ H9 H9z hj ⟨v8', v9', v10', v11', rfl, s49, eD9, ec9, et9, rz9⟩ ⟨rfl, hx'⟩
          have hjs : j < ss.length := hlz ▸ hj
          obtain ⟨d1, hd1, hxd⟩ := (rz9 0).at_ hx'
          rw [List.getElem?_map] at hd1
          obtain ⟨st, hst, rfl⟩ := Option.map_eq_some_iff.mp hd1
          have hok := g4 st (List.mem_of_getElem? hst)
          obtain ⟨k, e0, ha, hk, he, hsh⟩ := hok.ex
          have hme : e0 ∈ nt.2 := List.mem_of_getElem? he
          have hoe := okw.ed nt (List.mem_of_getElem? g3) e0 hme
          obtain ⟨q, rfl, eq⟩ : ∃ q, x = .ref q ∧ H9z q = some (.tup [.int k, oIV (inI st)]) := by
            rcases hsh with rfl | ⟨jj, rfl, _⟩
            · obtain ⟨q, vx, vy, rfl, eq, h1, h2⟩ := DV.tup2 (x := .int k) (y := .non) hxd
              obtain rfl := h1.int_inv
              cases h2
              exact ⟨q, rfl, eq⟩
            · obtain ⟨q, vx, vy, rfl, eq, h1, h2⟩ := DV.tup2 (x := .int k) (y := .int jj) hxd
              obtain rfl := h1.int_inv
              obtain rfl := h2.int_inv
              exact ⟨q, rfl, eq⟩
          have hiv := hmS j (Nat.le_of_lt hjs)
          have hstep := take_fold (st1 nt.2) ⟨List.replicate W.lb.toNat 0, 0, []⟩ hst
          have hek : edK nt.2 st = some e0 := by
            unfold edK
            rw [ha]
            exact he
          generalize hzj : (ss.take j).foldl (st1 nt.2) ⟨List.replicate W.lb.toNat 0, 0, []⟩ = zj at *
          have hst1 : st1 nt.2 zj st = ⟨bump zj.c e0.l, zj.b + e0.b, putO zj.t (inI st)⟩ := by
            unfold st1
            rw [hek]
          rw [hst1] at hstep
          obtain ⟨vnt, hvnt, hnd⟩ := rn.at' (i := n.toNat) (d := ntD nt) (by rw [List.getElem?_map, g3]; rfl)
          obtain ⟨b3, c3, xe, rfl, eb3, ec3, re⟩ := nt_at hnd
          obtain ⟨ve, hve, hed⟩ := re.at' (i := k.toNat) (d := edD e0) (by rw [List.getElem?_map, he]; rfl)
          obtain ⟨be, ae, rfl, ebe, xl, eae, rl⟩ := ed_at hed
          have s29 := s24.trans s49
          have hxl : xl.length = e0.l.length := by rw [rl.len, List.length_map]
          have hpu : purs (ss.map apD) = true := purs_map fun s hs => ap_pur (g4 s hs).pur
          refine ⟨q, _, rfl, SqT.of eq, rfl, _, _, rfl, _, _, rfl, rfl, ?_⟩
          refine ⟨_, rfl, b0, _, 1, _, rfl, rfl, SqT.of (s29 _ _ eb0), atI_nat (j := 1) rfl, _, rfl, c0, xn, n, _, rfl, rfl, SqT.of (s29 _ _ ec0), at_int g2 hvnt, b3, _, 1, _, rfl, rfl, SqT.of (s29 _ _ eb3), atI_nat (j := 1) rfl, _, rfl, c3, xe, k, _, rfl, rfl, SqT.of (s29 _ _ ec3), at_int hk hve, ?_⟩
          refine ⟨_, rfl, _, rfl, be, _, 3, _, rfl, rfl, SqT.of (s29 _ _ ebe), atI_nat (j := 3) rfl, _, _, rfl, rfl, ?_⟩
          refine ⟨_, rfl, be, _, 4, _, rfl, rfl, SqT.of (s29 _ _ ebe), atI_nat (j := 4) rfl, ae, rfl, ⟨_, SqT.of (s29 _ _ eae)⟩, ?_⟩
          refine for_it (walk_tup (K := K) (a := ae) (xs := xl)) (fun m σ H' => ∃ (v11 : Option V), σ = [some (.ref b0), some (.ref a), some (.ref F0), some (.int n), some vs, some (.ref z2), some (.int (zj.b + e0.b)), some (.ref T0), some (.int k), some (oIV (inI st)), some (.ref be), v11, none, none] ∧
            Same H4z H' ∧ H' D = some (.lst zs) ∧ H' z2 = some (.lst ((bump zj.c (e0.l.take m)).map V.int)) ∧ H' T0 = some (.dK (tmK zj.t)) ∧ ∀ g', DVs g' H' zs (ss.map apD))
            ⟨v11', rfl, s49, eD9, ec9, et9, rz9⟩ (fun m σ H' _ ⟨_, _, s4', _⟩ => SqT.of ((s24.trans s4') _ _ eae)) ?_ ?_
          · rintro m x σ Ha Hb hm ⟨v11, rfl, s4a, eDa, eca, eta, rza⟩ ⟨rfl, hxm⟩
            obtain ⟨dk, hdk, hxd2⟩ := rl.at_ hxm
            rw [List.getElem?_map] at hdk
            obtain ⟨kk, hkk, rfl⟩ := Option.map_eq_some_iff.mp hdk
            obtain rfl := hxd2.int_inv
            obtain ⟨k0, k1'⟩ := hoe.k kk (List.mem_of_getElem? hkk)
            have hbl : (bump zj.c (e0.l.take m)).length = W.lb.toNat := by rw [bump_len]; exact hiv.c
            have hb2 : bump zj.c (e0.l.take (m + 1)) = (bump zj.c (e0.l.take m)).set kk.toNat ((bump zj.c (e0.l.take m)).getD kk.toNat 0 + 1) := take_fold _ _ hkk
            generalize hbv : bump zj.c (e0.l.take m) = bv at *
            have hkl : kk.toNat < bv.length := by omega
            have hget : (bv.map V.int)[kk.toNat]? = some (V.int (bv.getD kk.toNat 0)) := by
              rw [List.getElem?_map, List.getElem?_eq_getElem hkl, List.getD_eq_getElem?_getD, List.getElem?_eq_getElem hkl]
              rfl
            have hix : ixN (bv.map V.int).length kk = some kk.toNat := by
              unfold ixN
              rw [List.length_map]
              rw [if_pos k0, if_pos (by omega)]
            refine ⟨_, rfl, _, rfl, z2, _, kk, _, rfl, rfl, k0, SqL.of eca, at_int k0 hget, _, _, rfl, rfl, z2, _, kk, kk.toNat, rfl, rfl, eca, hix, ?_⟩
            refine ⟨_, rfl, ?_, ?_, ?_, ?_, fun g' => ?_⟩
            · intro b' o eb
              rw [upd_ne (ne_of_none eb hz24)]
              exact s4a _ _ eb
            · rw [upd_ne neD]
              exact eDa
            · rw [upd_same, hb2, List.map_set]
            · rw [upd_ne (fun z => by rw [z, eca] at eta; cases eta)]
              exact eta
            · exact DVs.keepP (g := 0) (Kt.put eca) hpu (rza 0)
          · rintro σ Ha ⟨v11, rfl, s4a, eDa, eca, eta, rza⟩
            rw [hxl, List.take_length] at eca
            refine ⟨_, rfl, rfl, _, rfl, ?_⟩
            rcases hsh with rfl | ⟨jj, rfl, jj0, jj1⟩
            · exact ifF rfl ⟨some (.int k), some .non, some (.ref be), v11, (by rw [hstep] <;> rfl), s4a, eDa, (by rw [hstep] <;> exact eca), (by rw [hstep] <;> exact eta), rza⟩
            · refine ifT rfl ?_
              have hlt : (tmK zj.t).length < sizeLine := by
                have := hiv.l
                rw [tm_len, sizeLine_eq]
                omega
              refine ⟨_, rfl, T0, rfl, .inl ⟨_, .inl eta⟩, _, rfl, _, DGet.k (k := Sum.inl jj) eta, _, _, tm_val jj zj.t, rfl, _, rfl, _, rfl, T0, _, rfl, DPut.k (k := Sum.inl jj) eta hlt, ?_⟩
              rw [tm_put hiv.n]
              refine ⟨some (.int k), some (.int jj), some (.ref be), v11, (by rw [hstep] <;> rfl), ?_, ?_, ?_, ?_, fun g' => ?_⟩
              · intro b' o eb
                rw [upd_ne (ne_of_none eb hT06)]
                exact s4a _ _ eb
              · rw [upd_ne neDT]
                exact eDa
              · rw [upd_ne (Ne.symm neT2), hstep]
                exact eca
              · rw [upd_same, hstep]
                rfl
              · refine DVs.keepP (g := 0) (fun b xs e => ?_) hpu (rza 0)
                rw [upd_ne (fun z => by rw [z, eta] at e; cases e)]
                exact e
        · rintro σ H9 ⟨v8', v9', v10', v11', rfl, s49, eD9, ec9, et9, rz9⟩
          rw [hlz, List.take_length] at ec9 et9
          rw [hlz, List.take_length]
          have hiv := hmS ss.length (Nat.le_refl _)
          rw [List.take_length] at hiv
          obtain ⟨okf, hfl⟩ := msOf_ok hgood i (Nat.le_of_lt hi')
          have hone : mOne W (msOf W (ds.take i)) nt.2 ss = (ss.foldl (st1 nt.2) ⟨List.replicate W.lb.toNat 0, 0, []⟩).t.foldl (st2 (msOf W (ds.take i))) ((ss.foldl (st1 nt.2) ⟨List.replicate W.lb.toNat 0, 0, []⟩).c, (ss.foldl (st1 nt.2) ⟨List.replicate W.lb.toNat 0, 0, []⟩).b) := rfl
          generalize hzz : ss.foldl (st1 nt.2) ⟨List.replicate W.lb.toNat 0, 0, []⟩ = zz at *
          generalize hfd : msOf W (ds.take i) = fd' at *
          refine ⟨fun σ H' => ∃ (v8 v9 v10 v11 : Option V) (z5 : Addr), σ = [some (.ref b0), some (.ref a), some (.ref F0), some (.int n), some vs, some (.ref z5), some (.int (mOne W fd' nt.2 ss).2), some (.ref T0), v8, v9, v10, v11, none, none] ∧ Same H4z H' ∧ H4z z5 = none ∧ H' z5 = some (.lst ((mOne W fd' nt.2 ss).1.map V.int)), ?_, ?_⟩
          · refine ⟨T0, _, et9, trivial, fun od => ?_⟩
            have s4f : Same H4z (upd H9 T0 (.frz od (.dK (tmK zz.t)))) := fun b' o eb => by
              rw [upd_ne (ne_of_none eb hT06)]
              exact s49 _ _ eb
            refine ⟨_, rfl, T0, od, rfl, .inl ⟨_, upd_same, ?_⟩⟩
            refine for_it (walk_keys (d := T0) (o := od) (kvs := tmK zz.t)) (fun m σ H' => ∃ (v8 v9 v10 v11 : Option V) (z5 : Addr), σ = [some (.ref b0), some (.ref a), some (.ref F0), some (.int n), some vs, some (.ref z5), some (.int ((zz.t.take m).foldl (st2 fd') (zz.c, zz.b)).2), some (.ref T0), v8, v9, v10, v11, none, none] ∧ Same H4z H' ∧ H' T0 = some (.frz od (.dK (tmK zz.t))) ∧ H4z z5 = none ∧ H' z5 = some (.lst (((zz.t.take m).foldl (st2 fd') (zz.c, zz.b)).1.map V.int)))
              ⟨v8', v9', v10', v11', z2, rfl, s4f, upd_same, hz24, (upd_ne (Ne.symm neT2)).trans ec9⟩ (fun m σ H' _ ⟨_, _, _, _, _, _, _, e', _⟩ => e') ?_ ?_
            · rintro m x σ Ha Hb hm ⟨v8, v9, v10, v11, z5, rfl, s4a, etf, hz5, ez5⟩ ⟨rfl, kx, vx, hkv, rfl⟩
              obtain ⟨p, hp, hpp⟩ : ∃ p, zz.t[m]? = some p ∧ ((Sum.inl p.1 : Key), V.int p.2) = (kx, vx) := by
                unfold tmK at hkv
                rw [List.getElem?_map] at hkv
                exact Option.map_eq_some_iff.mp hkv
              obtain ⟨rfl, rfl⟩ := Prod.mk.inj hpp
              have hpm := List.mem_of_getElem? hp
              obtain ⟨p0, p1, p2, p3⟩ := hiv.t p hpm
              obtain ⟨mm, hmm⟩ : ∃ mm, fd'[p.1.toNat]? = some mm := ⟨fd'[p.1.toNat]'(by omega), List.getElem?_eq_getElem (by omega)⟩
              have hml := okf mm (List.mem_of_getElem? hmm)
              have hstep2 := take_fold (st2 fd') (zz.c, zz.b) hp
              have hlc : ((zz.t.take m).foldl (st2 fd') (zz.c, zz.b)).1.length = W.lb.toNat := st2_len okf hiv.c
              generalize hzc : (zz.t.take m).foldl (st2 fd') (zz.c, zz.b) = zc at *
              have hst2 : st2 fd' zc p = (vmul p.2 zc.1 mm.1, zc.2 + p.2 * mm.2) := by
                unfold st2
                rw [hmm]
              rw [hst2] at hstep2
              obtain ⟨vm, hvm, hmd⟩ := (rys 0).at' (i := p.1.toNat) (d := msD mm) (by rw [List.getElem?_map, hmm]; rfl)
              obtain ⟨bm, vt, vb, rfl, ebm, hvt, hvb⟩ := DV.tup2 hmd
              obtain rfl := hvb.int_inv
              obtain ⟨bc, xc, rfl, ebc, _, rc⟩ := hvt.tup_inv
              obtain rfl := dvs_of_ints rc
              have hget : DGet Hb T0 (.int p.1) (some (.int p.2)) := .inl ⟨_, Sum.inl p.1, .inr ⟨od, etf⟩, rfl, (tm_at hiv.n hpm).symm⟩
              have eFb := s4a _ _ eF
              have ebmb := s4a _ _ ebm
              have ebcb := s4a _ _ ebc
              have hlb := okw.lb
              refine ⟨_, rfl, _, rfl, _, rfl, T0, V.int p.2, rfl, hget, _, rfl, _, rfl, F0, ys, p.1, _, rfl, rfl, SqL.of eFb, at_int p0 hvm, bm, _, 1, _, rfl, rfl, SqT.of ebmb, atI_nat (j := 1) rfl, _, _, rfl, rfl, .inl ⟨by omega, by omega⟩, _, _, rfl, rfl, ?_⟩
              refine ⟨_, rfl, _, rfl, _, rfl, F0, ys, p.1, _, rfl, rfl, SqL.of eFb, at_int p0 hvm, bm, _, 0, _, rfl, rfl, SqT.of ebmb, atI_nat (j := 0) rfl, z5, bc, _, _, rfl, SqL.of ez5, SqT.of ebcb, fun D2 hD2 => ?_⟩
              refine lc_it (walk_zipM (K := K) (a := z5) (b := bc) (xs := zc.1.map V.int) (ys := mm.1.map V.int) (n := zc.1.length) (by rw [List.length_map]) (by rw [List.length_map]; omega)) (fun u H' => H' D2 = some (.lst (((vmul p.2 zc.1 mm.1).take u).map V.int)) ∧ Same Hb H') ⟨upd_same, same_new hD2⟩ (fun _ _ _ h => ⟨SqL.of (h.2 _ _ ez5), SqT.of (h.2 _ _ ebcb)⟩) ?_ ?_
              · rintro u x Hc Hd hu ⟨e1, s1'⟩ ⟨T1, x', y', rfl, hT, rfl, hx2, hy2⟩
                have hx2 : (zc.1.map V.int)[u]? = some x' := hx2
                have hy2 : (mm.1.map V.int)[u]? = some y' := hy2
                rw [List.getElem?_map] at hx2 hy2
                obtain ⟨ia, hia, rfl⟩ := Option.map_eq_some_iff.mp hx2
                obtain ⟨ib, hib, rfl⟩ := Option.map_eq_some_iff.mp hy2
                have sT := same_new (o := .tup [V.int ia, V.int ib]) hT
                generalize hHe : upd Hc T1 _ = He
                have eT : He T1 = some (.tup [V.int ia, V.int ib]) := by rw [← hHe, upd_same]
                have s12 : Same Hc He := by rw [← hHe]; exact sT
                have e2 := s12 _ _ e1
                have hget2 : DGet He T0 (.int p.1) (some (.int p.2)) := .inl ⟨_, Sum.inl p.1, .inr ⟨od, s12 _ _ (s1' _ _ etf)⟩, rfl, (tm_at hiv.n hpm).symm⟩
                refine ⟨T1, _, rfl, SqT.of eT, rfl, _, _, rfl, _, _, rfl, rfl, rfl, ?_⟩
                refine ⟨_, rfl, _, rfl, _, rfl, T0, V.int p.2, rfl, hget2, _, rfl, _, _, rfl, rfl, .inl ⟨by omega, by omega⟩, _, _, rfl, rfl, _, e2, ?_, ?_, ?_⟩
                · rw [List.length_map, List.length_take, sizeLine_eq]
                  omega
                · rw [upd_same, List.take_succ]
                  unfold vmul
                  rw [List.getElem?_zipWith, hia, hib, List.map_append]
                  rfl
                · intro b' o eb
                  rw [upd_ne (ne_of_none eb hD2)]
                  exact s12 _ _ (s1' _ _ eb)
              · rintro Hc ⟨e1, s1'⟩
                rw [List.take_of_length_le (by unfold vmul; rw [List.length_zipWith]; omega)] at e1
                refine ⟨v8, some (.int p.1), v10, v11, D2, ?_, s4a.trans s1', s1' _ _ etf, s4a.free hD2, ?_⟩
                · rw [hstep2] <;> rfl
                · rw [hstep2] <;> exact e1
            · rintro σ Ha ⟨v8, v9, v10, v11, z5, rfl, s4a, etf, hz5, ez5⟩
              rw [tm_len, List.take_length, ← hone] at ez5
              rw [tm_len, List.take_length, ← hone]
              have neZ : z5 ≠ T0 := fun z => by
                rw [z, etf] at ez5
                cases ez5
              refine ⟨etf, v8, v9, v10, v11, z5, rfl, fun b' o eb => ?_, hz5, (upd_ne neZ).trans ez5⟩
              rw [upd_ne (ne_of_none eb hT06)]
              exact s4a _ _ eb
          · rintro σ Ha ⟨v8, v9, v10, v11, z5, rfl, s4a, hz5, ez5⟩
            have eFa := s4a _ _ eF
            have hml : (mOne W fd' nt.2 ss).1.length = W.lb.toNat := by
              rw [← hfd]
              exact mOne_len (hfd ▸ okf) g4
            have hms : msOf W (ds.take (i + 1)) = fd' ++ [mOne W fd' nt.2 ss] := by
              show (ds.take (i + 1)).foldl (stW W) [] = _
              rw [take_fold _ _ g1]
              show (match W.ns[n.toNat]? with | some nt => msOf W (ds.take i) ++ [mOne W (msOf W (ds.take i)) nt.2 ss] | none => _) = _
              rw [g3, hfd]
            refine ⟨_, rfl, .inl ⟨rfl, _, SqL.of eFa⟩, _, rfl, z5, _, rfl, .inl ⟨SqL.of ez5, fun t1 ht1 => ?_⟩⟩
            generalize hHb : upd Ha t1 _ = Hb
            obtain ⟨st1, et1⟩ := freshF ht1 hHb
            refine ⟨_, rfl, (by show 2 ≤ sizeLine; decide), fun t2 ht2 => ?_⟩
            generalize hHc : upd Hb t2 _ = Hc
            obtain ⟨st2, et2⟩ := freshF ht2 hHc
            have eFc := st2 _ _ (st1 _ _ eFa)
            have hyl : ys.length = i := by rw [(rys 0).len, List.length_map, hfl]
            have sc : Same H4z Hc := s4a.trans (st1.trans st2)
            have hpu : purs (fd'.map msD) = true := purs_map fun m _ => (Bool.and_eq_true _ _).mpr ⟨purs_map fun i _ => rfl, rfl⟩
            refine ⟨F0, ys, _, rfl, rfl, eFc, by rw [hyl, sizeLine_eq]; omega, some (.int n), some vs, some (.ref z5), some (.int (mOne W fd' nt.2 ss).2), some (.ref T0), v8, v9, v10, v11, _, rfl, ?_, upd_same, fun g' => ?_⟩
            · intro b' o eb
              rw [upd_ne (ne_of_none eb hF0)]
              exact sc _ _ (s24 _ _ eb)
            · rw [hms, List.map_append]
              have kt : Kt Hc (upd Hc F0 (.lst (ys ++ [.ref t2]))) := Kt.put eFc
              refine DVs.app (DVs.keepP (g := 0) (fun b xs e => kt _ _ (sc _ _ e)) hpu (rys 0)) (.cons ?_ .nil)
              exact .tup (kt _ _ et2) (by show 2 ≤ 20000; decide) (.cons (.tup (kt _ _ (st2 _ _ et1)) (by rw [List.length_map, hml]; have := okw.lb; omega) (dvs_ints _)) (.cons (.int _) .nil))
      · rintro σ H4 ⟨v3, v4, v5, v6, v7, v8, v9, v10, v11, ys, rfl, s24, eF, rys⟩
        rw [hlen, List.take_length] at rys
        exact ⟨_, rfl, k4 F0 ys H4 (s02.trans s24) (s02.free hF0) eF rys⟩
    | _ => cases hsq
end
end K66

set_option Elab.async false
set_option linter.all false
set_option pp.maxSteps 900
set_option maxRecDepth 100000
set_option maxHeartbeats 4000000
namespace K66
open PySem PySem.Spec PyProof.Rows L2
open TL (tl)
/-! ### the law's own reckoning is the program's (mathematics) -/
/-- a measure, the beats behind the labels -/
def flat (m : List Int × Int) : List Int := m.1 ++ [m.2]
def lawS (lb : Int) (es : List Ed) (fd : List (List Int × Int)) (v : List Int) (s : Dt) : List Int := match edK es s with
  | some e => match inI s with
    | some j => match fd[j.toNat]? with
      | some m => vadd (vadd v (own lb e)) (flat m)
      | none => v
    | none => vadd v (own lb e)
  | none => v
theorem flat_len {m : List Int × Int} {lb : Nat} (h : m.1.length = lb) : (flat m).length = lb + 1 := by
  unfold flat
  rw [List.length_append, h]
  rfl
theorem cnt_zero {l : List Int} {x : Nat} (h : ∀ k ∈ l, k.toNat < x) : cnt l x = 0 := by
  unfold cnt
  rw [List.filter_eq_nil_iff.mpr]
  · rfl
  · intro k hk
    have := h k hk
    simp
    omega
theorem cnt_zero' {l : List Int} {x n : Nat} (h : ∀ k ∈ l, k.toNat < n) (hx : n ≤ x) : cnt l x = 0 := cnt_zero fun k hk => Nat.lt_of_lt_of_le (h k hk) hx
theorem ev_rep (n x : Nat) : ev (List.replicate n 0) x = 0 := by
  unfold ev
  rw [List.getD_eq_getElem?_getD]
  by_cases h : x < n
  · rw [List.getElem?_replicate, if_pos h]
    rfl
  · rw [List.getElem?_replicate, if_neg h]
    rfl
theorem ev_st1 {lb : Int} {c : List Int} {b : Int} {e : Ed} (hc : c.length = lb.toNat) (hl : ∀ k ∈ e.l, k.toNat < lb.toNat) (x : Nat) : ev (flat (bump c e.l, b + e.b)) x = ev (flat (c, b)) x + ev (own lb e) x := by
  have h1 : ev (own lb e) x = ev (List.replicate lb.toNat 0 ++ [e.b]) x + cnt e.l x := by
    unfold own
    refine ev_bump _ _ (fun k hk => ?_) x
    rw [List.length_append, List.length_replicate]
    have := hl k hk
    show _ < _ + 1
    omega
  rw [h1]
  unfold flat
  rw [ev_app, ev_app, ev_app, bump_len, hc, List.length_replicate, ev_rep]
  by_cases hx : x < lb.toNat
  · rw [if_pos hx, if_pos hx, if_pos hx, ev_bump _ _ (fun k hk => by rw [hc]; exact hl k hk)]
    show ev c x + cnt e.l x = ev c x + (0 + cnt e.l x)
    omega
  · rw [if_neg hx, if_neg hx, if_neg hx, cnt_zero' hl (by omega)]
    by_cases h2 : x = lb.toNat
    · rw [if_pos h2, if_pos h2, if_pos h2]
      omega
    · rw [if_neg h2, if_neg h2, if_neg h2]
      rfl
theorem ev_st2 {t : Int} {c d : List Int} {b u : Int} (h : c.length = d.length) (x : Nat) : ev (flat (vmul t c d, b + t * u)) x = ev (flat (c, b)) x + t * ev (flat (d, u)) x := by
  unfold flat
  rw [ev_app, ev_app, ev_app, vmul_len h, ← h]
  by_cases hx : x < c.length
  · rw [if_pos hx, if_pos hx, if_pos hx, ev_vmul h]
  · rw [if_neg hx, if_neg hx, if_neg hx]
    by_cases h2 : x = c.length
    · rw [if_pos h2, if_pos h2, if_pos h2]
    · rw [if_neg h2, if_neg h2, if_neg h2]
      omega
/-- what the measure numbered j says of x -/
def mAt (fd : List (List Int × Int)) (x : Nat) (j : Int) : Int := match fd[j.toNat]? with
  | some m => ev (flat m) x
  | none => 0
theorem ev_fold2 {lb : Nat} {fd : List (List Int × Int)} (hf : OkF lb fd) (x : Nat) : ∀ (tm : List (Int × Int)) (z : List Int × Int), z.1.length = lb → (∀ p ∈ tm, p.1.toNat < fd.length) → ev (flat (tm.foldl (st2 fd) z)) x = ev (flat z) x + sumT (mAt fd x) tm
  | [], z, _, _ => by
    show ev (flat z) x = ev (flat z) x + 0
    omega
  | p :: tm, z, hz, hp => by
    have hlt := hp p List.mem_cons_self
    have hm : fd[p.1.toNat]? = some fd[p.1.toNat] := List.getElem?_eq_getElem hlt
    have hml := hf _ (List.getElem_mem hlt)
    have e : st2 fd z p = (vmul p.2 z.1 fd[p.1.toNat].1, z.2 + p.2 * fd[p.1.toNat].2) := by
      unfold st2
      rw [hm]
    have ea : mAt fd x p.1 = ev (flat fd[p.1.toNat]) x := by
      unfold mAt
      rw [hm]
    rw [List.foldl_cons, e, ev_fold2 hf x tm _ (by show (vmul _ _ _).length = _; rw [vmul_len (hz.trans hml.symm)]; exact hz) (fun q hq => hp q (List.mem_cons_of_mem _ hq))]
    rw [ev_st2 (hz.trans hml.symm)]
    unfold sumT
    rw [List.map_cons, List.sum_cons, ea]
    show ev (flat z) x + p.2 * ev (flat fd[p.1.toNat]) x + _ = ev (flat z) x + (p.2 * ev (flat fd[p.1.toNat]) x + _)
    omega
/-- both reckonings, step by step -/
theorem law_fold {lb : Int} {es : List Ed} {fd : List (List Int × Int)} {known : Nat} {ss : List Dt} (hf : OkF lb.toNat fd) (hk : known = fd.length) (hs : ∀ s ∈ ss, OkS es known s) (hl : ∀ e ∈ es, ∀ k ∈ e.l, k.toNat < lb.toNat) : ∀ i, i ≤ ss.length →
    ((ss.take i).foldl (lawS lb es fd) (List.replicate (lb.toNat + 1) 0)).length = lb.toNat + 1 ∧ ∀ x, ev ((ss.take i).foldl (lawS lb es fd) (List.replicate (lb.toNat + 1) 0)) x =
      ev (flat (((ss.take i).foldl (st1 es) ⟨List.replicate lb.toNat 0, 0, []⟩).c, ((ss.take i).foldl (st1 es) ⟨List.replicate lb.toNat 0, 0, []⟩).b)) x + sumT (mAt fd x) ((ss.take i).foldl (st1 es) ⟨List.replicate lb.toNat 0, 0, []⟩).t
  | 0, _ => by
    refine ⟨List.length_replicate, fun x => ?_⟩
    show ev (List.replicate (lb.toNat + 1) 0) x = ev (List.replicate lb.toNat 0 ++ [0]) x + 0
    rw [ev_rep, ev_app, ev_rep, List.length_replicate]
    by_cases hx : x < lb.toNat
    · rw [if_pos hx] <;> rfl
    · rw [if_neg hx]
      by_cases h2 : x = lb.toNat
      · rw [if_pos h2] <;> rfl
      · rw [if_neg h2] <;> rfl
  | i + 1, hi => by
    obtain ⟨h1, h2⟩ := law_fold hf hk hs hl i (Nat.le_of_succ_le hi)
    have hst : ss[i]? = some ss[i] := List.getElem?_eq_getElem hi
    have hiv := InvM.fold (InvM.zero (lb := lb.toNat) (known := known)) hs i (Nat.le_of_succ_le hi)
    obtain ⟨k, e, ha, hk0, he, hsh⟩ := (hs ss[i] (List.getElem_mem _)).ex
    have hek : edK es ss[i] = some e := by
      unfold edK
      rw [ha]
      exact he
    rw [take_fold _ _ hst, take_fold _ _ hst]
    generalize hz : (ss.take i).foldl (st1 es) ⟨List.replicate lb.toNat 0, 0, []⟩ = z at *
    generalize hv : (ss.take i).foldl (lawS lb es fd) (List.replicate (lb.toNat + 1) 0) = v at *
    have e1 : st1 es z ss[i] = ⟨bump z.c e.l, z.b + e.b, putO z.t (inI ss[i])⟩ := by
      unfold st1
      rw [hek]
    have hle := hl e (List.mem_of_getElem? he)
    have hol : (own lb e).length = lb.toNat + 1 := own_len e
    have step := fun x => ev_st1 (lb := lb) (c := z.c) (b := z.b) (e := e) hiv.c hle x
    rw [e1]
    rcases hsh with hss | ⟨j, hss, j0, j1⟩
    · have e2 : lawS lb es fd v ss[i] = vadd v (own lb e) := by
        unfold lawS
        rw [hek, hss]
        rfl
      rw [e2]
      refine ⟨by rw [vadd_len (h1.trans hol.symm)]; exact h1, fun x => ?_⟩
      rw [ev_vadd (h1.trans hol.symm), h2 x]
      show _ = ev (flat (bump z.c e.l, z.b + e.b)) x + sumT (mAt fd x) (putO z.t (inI ss[i]))
      rw [step x, hss]
      show _ = _ + sumT (mAt fd x) z.t
      omega
    · have hm : fd[j.toNat]? = some (fd[j.toNat]'(by omega)) := List.getElem?_eq_getElem (by omega)
      generalize hme : fd[j.toNat]'(by omega) = m at hm
      have hml := hf m (List.mem_of_getElem? hm)
      have e2 : lawS lb es fd v ss[i] = vadd (vadd v (own lb e)) (flat m) := by
        unfold lawS
        rw [hek, hss]
        show (match fd[j.toNat]? with | some m => vadd (vadd v (own lb e)) (flat m) | none => v) = _
        rw [hm]
      have l1 : (vadd v (own lb e)).length = lb.toNat + 1 := by rw [vadd_len (h1.trans hol.symm)]; exact h1
      rw [e2]
      refine ⟨by rw [vadd_len (l1.trans (flat_len hml).symm)]; exact l1, fun x => ?_⟩
      rw [ev_vadd (l1.trans (flat_len hml).symm), ev_vadd (h1.trans hol.symm), h2 x]
      show _ = ev (flat (bump z.c e.l, z.b + e.b)) x + sumT (mAt fd x) (putO z.t (inI ss[i]))
      rw [step x, hss]
      show _ = _ + sumT (mAt fd x) (putT z.t j)
      rw [sumT_put hiv.n]
      have : mAt fd x j = ev (flat m) x := by
        unfold mAt
        rw [hm]
      rw [this]
      omega
/-- the law's measure of a good word is the program's -/
theorem law_mOne {W : Web} {es : List Ed} {fd : List (List Int × Int)} {ss : List Dt} (hf : OkF W.lb.toNat fd) (hs : ∀ s ∈ ss, OkS es fd.length s) (hl : ∀ e ∈ es, ∀ k ∈ e.l, k.toNat < W.lb.toNat) :
    ss.foldl (lawS W.lb es fd) (List.replicate (W.lb.toNat + 1) 0) = flat (mOne W fd es ss) := by
  obtain ⟨h1, h2⟩ := law_fold hf rfl hs hl ss.length (Nat.le_refl _)
  rw [List.take_length] at h1 h2
  have hiv := InvM.fold (InvM.zero (lb := W.lb.toNat) (known := fd.length)) hs ss.length (Nat.le_refl _)
  rw [List.take_length] at hiv
  refine ev_ext (h1.trans (flat_len (mOne_len hf hs)).symm) fun x => ?_
  rw [h2 x]
  exact (ev_fold2 hf x _ _ hiv.c (fun p hp => (hiv.t p hp).2.1)).symm
end K66

set_option Elab.async false
set_option linter.all false
set_option pp.maxSteps 900
set_option maxRecDepth 100000
set_option maxHeartbeats 4000000
namespace K66
open PySem PySem.Spec PyProof.Rows L2
open TL (tl)
/-! ### the law's own walk over a word's steps, on any data (mathematics) -/
def prD : Dt → List Dt
  | .tup l => l
  | d => [d, .non]
def lwW (kn : List (Int × List Int)) (c : Int) : Dt → Option (List Int)
  | .int j => if 0 ≤ j ∧ j < (kn.length : Int) then (match kn[j.toNat]? with
    | some m => if m.1 = c then some m.2 else none
    | none => none) else none
  | _ => none
def lwE (lb : Int) (kn : List (Int × List Int)) (e : Ed) (tp : Bool) (z : Int × List Int) (word : Dt) : Option (Int × List Int) :=
  if e.p = z.1 then
    (match e.c with
      | none => if tp = true then none else some (e.t, vadd z.2 (own lb e))
      | some c => if tp = true then (lwW kn c word).map fun m => (e.t, vadd (vadd z.2 (own lb e)) m) else none)
  else none
def lwP (lb : Int) (es : List Ed) (kn : List (Int × List Int)) (tp : Bool) (z : Int × List Int) : List Dt → Option (Int × List Int)
  | [.int k, word] => if 0 ≤ k ∧ k < (es.length : Int) then (match es[k.toNat]? with
    | some e => lwE lb kn e tp z word
    | none => none) else none
  | _ => none
def lwS (lb : Int) (es : List Ed) (kn : List (Int × List Int)) (z : Int × List Int) (s : Dt) : Option (Int × List Int) := lwP lb es kn (isTup s) z (prD s)
def lwL (lb : Int) (es : List Ed) (kn : List (Int × List Int)) : List Dt → Int × List Int → Option (Int × List Int)
  | [], z => some z
  | s :: r, z => (lwS lb es kn z s).bind (lwL lb es kn r)
/-- the words told so far, in both reckonings -/
structure RelKn (ws : List Dt) (known : Nat) (kn : List (Int × List Int)) (fd : List (List Int × Int)) : Prop where
  l : kn.length = known
  w : ∀ (j : Nat) (m : Int × List Int), kn[j]? = some m → (∃ sd : Dt, ws[j]? = some (Dt.tup [Dt.int m.1, sd])) ∧ ∃ f : List Int × Int, fd[j]? = some f ∧ m.2 = flat f
theorem lw_word {ws : List Dt} {known : Nat} {kn : List (Int × List Int)} {fd : List (List Int × Int)} (R : RelKn ws known kn fd) {c k : Int} {y : Dt} :
    (inner known ws c (.tup [.int k, y]) = true → ∃ (j : Int) (f : List Int × Int), y = .int j ∧ fd[j.toNat]? = some f ∧ lwW kn c y = some (flat f)) ∧ (inner known ws c (.tup [.int k, y]) = false → lwW kn c y = none) := by
  cases y with
  | int j =>
    have e : inner known ws c (.tup [.int k, .int j]) = (decide (0 ≤ j ∧ j ≤ (known : Int) - 1) && (match ws[j.toNat]? with
      | some (.tup [.int n, _]) => decide (n = c)
      | _ => false)) := rfl
    rw [e]
    have e2 : lwW kn c (.int j) = if 0 ≤ j ∧ j < (kn.length : Int) then (match kn[j.toNat]? with
      | some m => if m.1 = c then some m.2 else none
      | none => none) else none := rfl
    rw [e2]
    have hk := R.l
    by_cases h : 0 ≤ j ∧ j < (kn.length : Int)
    · rw [if_pos h, decide_eq_true (show 0 ≤ j ∧ j ≤ (known : Int) - 1 by omega)]
      have hm : kn[j.toNat]? = some (kn[j.toNat]'(by omega)) := List.getElem?_eq_getElem (by omega)
      generalize hme : kn[j.toNat]'(by omega) = m at hm
      obtain ⟨⟨sd, hw⟩, f, hf, hmf⟩ := R.w _ _ hm
      rw [hm, hw]
      show ((true && decide (m.1 = c)) = true → _) ∧ ((true && decide (m.1 = c)) = false → (if m.1 = c then some m.2 else none) = none)
      by_cases hc : m.1 = c
      · rw [decide_eq_true hc]
        refine ⟨fun _ => ⟨j, f, rfl, hf, ?_⟩, fun h => by cases h⟩
        show (if m.1 = c then some m.2 else none) = _
        rw [if_pos hc, hmf]
      · rw [decide_eq_false hc, if_neg hc]
        exact ⟨(fun h => by cases h), fun _ => rfl⟩
    · rw [if_neg h, decide_eq_false (show ¬ (0 ≤ j ∧ j ≤ (known : Int) - 1) by omega)]
      exact ⟨(fun h => by cases h), fun _ => rfl⟩
  | _ => exact ⟨(fun h => by cases h), fun _ => rfl⟩
theorem lw_step {lb : Int} {es : List Ed} {ws : List Dt} {known : Nat} {kn : List (Int × List Int)} {fd : List (List Int × Int)} (R : RelKn ws known kn fd) (pl : Int) (v : List Int) (s : Dt) :
    lwS lb es kn (pl, v) s = (stepE es ws known pl s).map fun t => (t, lawS lb es fd v s) := by
  have key : ∀ (k : Int) (y : Dt), s = .int k ∧ y = .non ∨ s = .tup [.int k, y] → lwP lb es kn (isTup s) (pl, v) [.int k, y] = (stepE es ws known pl s).map fun t => (t, lawS lb es fd v s) := by
    intro k y hs
    have ha : atD s = .int k := by rcases hs with ⟨rfl, _⟩ | rfl <;> rfl
    unfold stepE
    rw [ha]
    show (if 0 ≤ k ∧ k < (es.length : Int) then (match es[k.toNat]? with | some e => lwE lb kn e (isTup s) (pl, v) y | none => none) else none) = _
    by_cases hk : 0 ≤ k ∧ k < (es.length : Int)
    · rw [if_pos hk]
      show _ = (if 0 ≤ k ∧ k ≤ (es.length : Int) - 1 then _ else none : Option Int).map _
      rw [if_pos (show 0 ≤ k ∧ k ≤ (es.length : Int) - 1 by omega)]
      have he : es[k.toNat]? = some (es[k.toNat]'(by omega)) := List.getElem?_eq_getElem (by omega)
      generalize hee : es[k.toNat]'(by omega) = e at he
      have hek : edK es s = some e := by
        unfold edK
        rw [ha]
        exact he
      rw [he]
      show lwE lb kn e (isTup s) (pl, v) y = (if e.p = pl then _ else none : Option Int).map _
      unfold lwE
      by_cases hp : e.p = pl
      · rw [if_pos (show e.p = (pl, v).1 from hp), if_pos hp]
        cases hc : e.c with
        | none =>
          rcases hs with ⟨rfl, rfl⟩ | rfl
          · show some (e.t, vadd v (own lb e)) = some (e.t, lawS lb es fd v (.int k))
            unfold lawS
            rw [hek]
            rfl
          · rfl
        | some c =>
          rcases hs with ⟨rfl, rfl⟩ | rfl
          · rfl
          · show ((lwW kn c y).map fun m => (e.t, vadd (vadd v (own lb e)) m)) = (if inner known ws c (.tup [.int k, y]) = true then some e.t else none : Option Int).map _
            obtain ⟨w1, w2⟩ := lw_word R (c := c) (k := k) (y := y)
            cases hi : inner known ws c (.tup [.int k, y]) with
            | false =>
              rw [w2 hi]
              rfl
            | true =>
              obtain ⟨j, f, rfl, hf, hw⟩ := w1 hi
              rw [hw]
              show some (e.t, vadd (vadd v (own lb e)) (flat f)) = some (e.t, lawS lb es fd v (.tup [.int k, .int j]))
              unfold lawS
              rw [hek]
              show _ = some (e.t, match fd[j.toNat]? with | some m => vadd (vadd v (own lb e)) (flat m) | none => v)
              rw [hf]
      · rw [if_neg (show ¬ e.p = (pl, v).1 from hp), if_neg hp]
        rfl
    · rw [if_neg hk]
      show _ = (if 0 ≤ k ∧ k ≤ (es.length : Int) - 1 then _ else none : Option Int).map _
      rw [if_neg (show ¬ (0 ≤ k ∧ k ≤ (es.length : Int) - 1) by omega)]
      rfl
  cases s with
  | int k => exact key k .non (.inl ⟨rfl, rfl⟩)
  | tup l =>
    match l, key with
    | [.int k, y], key => exact key k y (.inr rfl)
    | [], _ => rfl
    | [a], _ => cases a <;> rfl
    | a :: _ :: _ :: _, _ => cases a <;> rfl
    | [.non, _], _ | [.bl _, _], _ | [.str _, _], _ | [.lst _, _], _ | [.tup _, _], _ | [.dic, _], _ => rfl
  | _ => rfl
theorem lw_all {lb : Int} {es : List Ed} {ws : List Dt} {known : Nat} {kn : List (Int × List Int)} {fd : List (List Int × Int)} (R : RelKn ws known kn fd) : ∀ (ss : List Dt) (pl : Int) (v : List Int),
    lwL lb es kn ss (pl, v) = (pbL es ws known ss pl).map fun t => (t, ss.foldl (lawS lb es fd) v)
  | [], pl, v => rfl
  | s :: ss, pl, v => by
    show (lwS lb es kn (pl, v) s).bind (lwL lb es kn ss) = ((stepE es ws known pl s).bind (pbL es ws known ss)).map _
    rw [lw_step R]
    cases e : stepE es ws known pl s with
    | none => rfl
    | some t =>
      show lwL lb es kn ss (t, lawS lb es fd v s) = _
      exact lw_all R ss t _
end K66

set_option Elab.async false
set_option linter.all false
set_option pp.maxSteps 900
set_option maxRecDepth 100000
set_option maxHeartbeats 4000000
namespace K66
open PySem PySem.Spec PyProof.Rows L2
open TL (tl)
abbrev sLS : Stmt := top 42
/-- the words told so far, as they stand -/
def KnR (lb : Nat) (H : Hp) (xs : List V) (kn : List (Int × List Int)) : Prop := xs.length = kn.length ∧ ∀ (j : Nat) (m : Int × List Int), kn[j]? = some m → ∃ q p : Addr, xs[j]? = some (.ref q) ∧ H q = some (.tup [.int m.1, .ref p]) ∧ H p = some (.lst (m.2.map V.int)) ∧ m.2.length = lb + 1
def lwT (lb : Int) (es : List Ed) (kn : List (Int × List Int)) (here : Int) : Dt → Option (Int × List Int)
  | .tup ss => lwL lb es kn ss (here, List.replicate (lb.toNat + 1) 0)
  | _ => none
def spLS : Sp := fun vs H Q _ => ∃ (g Kn : Addr) (vw vd : V) (W : Web) (at_ here : Int) (nt : Int × List Ed) (d : Dt) (kn : List (Int × List Int)) (xs : List V), vs = [vw, .int at_, vd, .int here, .ref Kn] ∧ DV g H vw (wbD W) ∧ OkW W ∧ 0 ≤ at_ ∧ W.ns[at_.toNat]? = some nt ∧ DV g H vd d ∧ (isTup d = true → pur d = true) ∧
  H Kn = some (.lst xs) ∧ KnR W.lb.toNat H xs kn ∧ (lwT W.lb nt.2 kn here d = none → ∀ H', Same H H' → Q .non H') ∧
  (∀ z, lwT W.lb nt.2 kn here d = some z → ∀ (p r : Addr) (H' : Hp), Same H H' → H' p = some (.tup [.int z.1, .ref r]) → H' r = some (.lst (z.2.map V.int)) → z.2.length = W.lb.toNat + 1 → Q (.ref p) H')
section
variable {P : Program} {w : World} {K : PySem.W.Frag} {mg : Str → Option Value} {base : Heap}
theorem scLst : FnScope ["web", "at", "steps", "here", "known", "found", "step", "pair", "edge", "word"] ["web", "at", "steps", "here", "known"] (defScope sLS) := ⟨rfl, rfl, rfl, by decide +kernel, rfl, by decide +kernel, by decide +kernel⟩
theorem ok_lst {f : Addr} {fd : FuncData} (F : Fun K "_law_wb_steps" "_law_wb_steps" sLS f fd) (T : Bn mg) (cWh : Cl P w K mg base "_law_wb_wholes" ["value"] 1 (spAsk wholesB)) (cSum : Cl P w K mg base "_law_wb_sum" ["one", "other", "times"] 1 spSum) (cOwn : Cl P w K mg base "_law_wb_own" ["web", "edge"] 1 spOwn) :
    FnOk P w K mg base CX0 2 f fd ["web", "at", "steps", "here", "known"] spLS := by
  obtain ⟨fWh, fdWh, GWh, mWh, kWh, bWh⟩ := cWh
  obtain ⟨fSum, fdSum, GSum, mSum, kSum, bSum⟩ := cSum
  obtain ⟨fOwn, fdOwn, GOwn, mOwn, kOwn, bOwn⟩ := cOwn
  refine F.ok scLst (fun vs H Q E h => ?_) (fun cdv A outer s H vs Q E hr h => ?_)
  · obtain ⟨g, Kn, a, b, c, d, e, f, i, j, k, rfl, _⟩ := h
    rfl
  · obtain ⟨g, Kn, vw, vd, W, at_, here, nt, d, kn, xs, rfl, hw, okw, ha0, hnt, hd, hpur, eKn, hkn, k1, k2⟩ := h
    have hr1 : Room 1 _ := hr.mono (by decide)
    refine ⟨_, (pss_cons (ps_set (i := 5) scLst.nd rfl (Or.inl rfl) (pe_op op_rep (pe_lst (pa_cons pe_int pa_nil)) (pe_op op_add (pe_ix ix_tup (pv 0) pe_int (fun _ _ => rfl)) pe_int)))
      (pss_cons (ps_if (pt_not (pt_val (pe_callB call_isi (by rfl) T.isi (by decide +kernel) (pa_cons (pv 2) (pa_cons (pe_bltn (v := .ty "tuple") (by rfl) T.tpl boot_tuple rfl) pa_nil))))) (pss_one (ps_ret pe_non)) pss_nil)
      (pss_cons (ps_for PassesOwn.never rfl (pi_tup (pv 2)) (pg_name (i := 6) scLst.nd rfl (Or.inl rfl))
          (pss_mid (ps_set (i := 7) scLst.nd rfl (Or.inl rfl) (pe_ifExp (pt_val (pe_callB call_isi (by rfl) T.isi (by decide +kernel) (pa_cons (pv 6) (pa_cons (pe_bltn (v := .ty "tuple") (by rfl) T.tpl boot_tuple rfl) pa_nil)))) (pv 6) (pe_tup (pa_cons (pv 6) (pa_cons pe_non pa_nil)))))
          (pss_cons (ps_if (PW.pt (pw_or (pt_cmpR op_ne (pe_callB call_len_seq (by rfl) T.len PySem.boot_len (pa_cons (pv 7) pa_nil)) pe_int (nomark _)) (pw_or (pt_not (pt_val (pe_call GWh hr1 (by rfl) mWh kWh bWh .nil pass0 (pa_cons (pe_lst (pa_cons (pe_ix ix_tup (pv 7) pe_int (fun _ _ => rfl)) pa_nil)) pa_nil)))) (pw_or1 (pt_not (pt_chain op_le op_lt pe_int (pe_ix ix_tup (pv 7) pe_int (fun _ _ => rfl)) (pe_callB call_len_seq (by rfl) T.len PySem.boot_len (pa_cons (pe_ix ix_tup (pe_ix ix_tup (pe_ix ix_tup (pv 0) pe_int (fun _ _ => rfl)) (pv 1) (fun _ _ => rfl)) pe_int (fun _ _ => rfl)) pa_nil)))))))) (pss_one (ps_ret pe_non)) pss_nil)
          (pss_cons (ps_par (i := 8) (j := 9) (by rfl) scLst.nd rfl rfl (by decide) rfl rfl (pa_cons (pe_ix ix_tup (pe_ix ix_tup (pe_ix ix_tup (pe_ix ix_tup (pv 0) pe_int (fun _ _ => rfl)) (pv 1) (fun _ _ => rfl)) pe_int (fun _ _ => rfl)) (pe_ix ix_tup (pv 7) pe_int (fun _ _ => rfl)) (fun _ _ => rfl)) (pa_cons (pe_ix ix_tup (pv 7) pe_int (fun _ _ => rfl)) pa_nil)) (by rfl))
          (pss_cons (ps_if (PW.pt (pw_or (pt_cmpR op_ne (pe_ix ix_tup (pv 8) pe_int (fun _ _ => rfl)) (pv 3) (nomark _)) (pw_or1 (pt_cmpR op_ne (pe_cmpR op_isN (pe_ix ix_tup (pv 8) pe_int (fun _ _ => rfl)) pe_non (nomark _)) (pe_not (pe_callB call_isi (by rfl) T.isi (by decide +kernel) (pa_cons (pv 6) (pa_cons (pe_bltn (v := .ty "tuple") (by rfl) T.tpl boot_tuple rfl) pa_nil)))) (nomark _))))) (pss_one (ps_ret pe_non)) pss_nil)
          (pss_cons (ps_set (i := 5) scLst.nd rfl (Or.inl rfl) (pe_call GSum hr1 (by rfl) mSum kSum bSum .nil pass0 (pa_cons (pv 5) (pa_cons (pe_call GOwn hr1 (by rfl) mOwn kOwn bOwn .nil pass0 (pa_cons (pv 0) (pa_cons (pv 8) pa_nil))) (pa_cons pe_int pa_nil)))))
          (pss_mid (ps_if (pt_cmpR op_notN (pe_ix ix_tup (pv 8) pe_int (fun _ _ => rfl)) pe_non (nomark _)) (pss_cons (ps_if (PW.pt (pw_or (pt_not (pt_val (pe_call GWh hr1 (by rfl) mWh kWh bWh .nil pass0 (pa_cons (pe_lst (pa_cons (pv 9) pa_nil)) pa_nil)))) (pw_or (pt_not (pt_chain op_le op_lt pe_int (pv 9) (pe_callB call_len_seq (by rfl) T.len PySem.boot_len (pa_cons (pv 4) pa_nil)))) (pw_or1 (pt_cmpR op_ne (pe_ix ix_tup (pe_ix ix_list (pv 4) (pv 9) (fun _ _ => rfl)) pe_int (fun _ _ => rfl)) (pe_ix ix_tup (pv 8) pe_int (fun _ _ => rfl)) (nomark _)))))) (pss_one (ps_ret pe_non)) pss_nil)
              (pss_one (ps_set (i := 5) scLst.nd rfl (Or.inl rfl) (pe_call GSum hr1 (by rfl) mSum kSum bSum .nil pass0 (pa_cons (pv 5) (pa_cons (pe_ix ix_tup (pe_ix ix_list (pv 4) (pv 9) (fun _ _ => rfl)) pe_int (fun _ _ => rfl)) (pa_cons pe_int pa_nil))))))) pss_nil)
          (pss_one (ps_set (i := 3) scLst.nd rfl (Or.inl rfl) (pe_ix ix_tup (pv 8) pe_int (fun _ _ => rfl)))))))))))
      (pss_one (ps_ret (pe_tup (pa_cons (pv 3) (pa_cons (pv 5) pa_nil)))))))), ?_⟩
    obtain ⟨b0, c0, xn, rfl, eb0, ec0, rn⟩ := wb_at hw
    obtain ⟨vnt, hvnt, hnd⟩ := rn.at' (i := at_.toNat) (d := ntD nt) (by rw [List.getElem?_map, hnt]; rfl)
    obtain ⟨b3, c3, xe, rfl, eb3, ec3, re⟩ := nt_at hnd
    have hlx : xe.length = nt.2.length := by rw [re.len, List.length_map]
    refine ⟨(by show 1 ≤ sizeLine; decide), fun z1 hz1 => ?_⟩
    generalize hH1 : upd H z1 _ = H1
    obtain ⟨sz1, ez1⟩ := freshF hz1 hH1
    have hlb := okw.lb
    refine ⟨_, rfl, b0, _, 0, _, rfl, rfl, SqT.of (sz1 _ _ eb0), atI_nat (j := 0) rfl, _, _, rfl, rfl, z1, W.lb + 1, [.int 0], rfl, rfl, ez1, (by omega), (by omega), (by show 1 * (W.lb + 1).toNat ≤ sizeLine; rw [sizeLine_eq]; omega), fun z2 hz2 => ?_⟩
    generalize hH2 : upd H1 z2 _ = H2
    obtain ⟨sz2, ez2⟩ := freshF hz2 hH2
    have hrep : (List.replicate (W.lb + 1).toNat [V.int 0]).flatten = (List.replicate (W.lb.toNat + 1) (0 : Int)).map V.int := by
      rw [show (W.lb + 1).toNat = W.lb.toNat + 1 by omega]
      generalize W.lb.toNat + 1 = m
      induction m with
      | zero => rfl
      | succ m ih => rw [List.replicate_succ, List.flatten_cons, ih, List.replicate_succ, List.map_cons]; rfl
    have ez2' : H2 z2 = some (.lst ((List.replicate (W.lb.toNat + 1) (0 : Int)).map V.int)) := by
      rw [← hrep]
      exact ez2
    have s02 := sz1.trans sz2
    have hd2 := hd.keep (Kv.of s02)
    obtain ⟨t, ht, _, q2, _, _⟩ := hd2.ty (K := K)
    refine ⟨_, rfl, _, _, _, _, _, rfl, .ty "tuple", ht, q2, _, rfl, ?_⟩
    cases d with
    | tup ss =>
      refine ifF rfl ?_
      have k1 : lwL W.lb nt.2 kn ss (here, List.replicate (W.lb.toNat + 1) 0) = none → ∀ H', Same H H' → Q .non H' := k1
      have k2 : ∀ z, lwL W.lb nt.2 kn ss (here, List.replicate (W.lb.toNat + 1) 0) = some z → ∀ (p r : Addr) (H' : Hp), Same H H' → H' p = some (.tup [.int z.1, .ref r]) → H' r = some (.lst (z.2.map V.int)) → z.2.length = W.lb.toNat + 1 → Q (.ref p) H' := k2
      obtain ⟨ta, xt, rfl, eta, hl, rt⟩ := hd2.tup_inv
      have hlen := rt.len
      refine ⟨_, rfl, ta, rfl, ⟨_, SqT.of eta⟩, ?_⟩
      refine for_it (walk_tup (K := K) (a := ta) (xs := xt)) (fun i σ H' => ∃ (f5 : Addr) (hi : Int) (vi : List Int) (v6 v7 v8 v9 : Option V), σ = [some (.ref b0), some (.int at_), some (.ref ta), some (.int hi), some (.ref Kn), some (.ref f5), v6, v7, v8, v9] ∧ Same H2 H' ∧ H' f5 = some (.lst (vi.map V.int)) ∧ vi.length = W.lb.toNat + 1 ∧
          lwL W.lb nt.2 kn ss (here, List.replicate (W.lb.toNat + 1) 0) = lwL W.lb nt.2 kn (ss.drop i) (hi, vi))
        ⟨z2, here, _, none, none, none, none, rfl, Same.refl H2, ez2', List.length_replicate, rfl⟩ (fun i σ H' _ ⟨_, _, _, _, _, _, _, _, s3, _⟩ => SqT.of (s3 _ _ eta)) ?_ ?_
      · rintro i x σ H3 H3z hi ⟨f5, hi', vi, v6, v7, v8, v9, rfl, s23, ef5, hvl, hlw⟩ ⟨rfl, hx⟩
        obtain ⟨st, hst, hxd⟩ := rt.at_ hx
        have hxd3 := hxd.keep (Kv.of s23)
        have hdrop : ss.drop i = st :: ss.drop (i + 1) := by
          obtain ⟨hlt, rfl⟩ := List.getElem?_eq_some_iff.mp hst
          exact List.drop_eq_getElem_cons hlt
        rw [hdrop] at hlw
        have hlw : lwL W.lb nt.2 kn ss (here, List.replicate (W.lb.toNat + 1) 0) = (lwS W.lb nt.2 kn (hi', vi) st).bind (lwL W.lb nt.2 kn (ss.drop (i + 1))) := hlw
        have bad : lwS W.lb nt.2 kn (hi', vi) st = none → ∀ H', Same H H' → Q .non H' := fun h => k1 (by rw [hlw, h]; rfl)
        obtain ⟨t', ht', _, q2', _, _⟩ := hxd3.ty (K := K)
        refine ⟨fun σ H' => ∃ (q : Addr) (xp : List V), σ = [some (.ref b0), some (.int at_), some (.ref ta), some (.int hi'), some (.ref Kn), some (.ref f5), some x, some (.ref q), v8, v9] ∧ Same H3z H' ∧ H' q = some (.tup xp) ∧ DVs g H' xp (prD st), ?_, ?_⟩
        · refine ⟨_, rfl, _, _, _, _, _, rfl, .ty "tuple", ht', q2', _, rfl, ?_⟩
          cases st with
          | tup l =>
            obtain ⟨q, xp, rfl, eq, _, rp⟩ := hxd3.tup_inv
            exact ifT rfl ⟨_, rfl, q, xp, rfl, Same.refl _, eq, rp⟩
          | _ =>
            refine ifF rfl ⟨_, rfl, (by show 2 ≤ sizeLine; decide), fun q hq => ?_⟩
            generalize hH4 : upd H3z q _ = H4
            obtain ⟨sq, eq⟩ := freshF hq hH4
            exact ⟨q, _, rfl, sq, eq, .cons (hxd3.keep (Kv.of sq)) (.cons .non .nil)⟩
        · rintro σ H4 ⟨q, xp, rfl, s34, eq, rp⟩
          have hpst : pur st = true := purs_mem (show purs ss = true from hpur rfl) (List.mem_of_getElem? hst)
          have hpps : purs (prD st) = true := by
            cases st with
            | tup l => exact hpst
            | lst l => cases hpst
            | dic => cases hpst
            | str s => exact (Bool.and_eq_true _ _).mpr ⟨hpst, rfl⟩
            | _ => rfl
          have hls : lwS W.lb nt.2 kn (hi', vi) st = lwP W.lb nt.2 kn (isTup st) (hi', vi) (prD st) := rfl
          generalize hps : prD st = ps at rp hls hpps
          have s04 : Same H H4 := s02.trans (s23.trans s34)
          have two : ∀ n : Nat, n ≠ 2 → (!decide (V.int (n : Nat) = V.int 2)) = true := fun n hn => by
            rw [decide_eq_false]
            · rfl
            · intro h
              injection h with h
              omega
          refine ⟨_, rfl, q, xp, rfl, .inr (SqT.of eq), rfl, _, rfl, ?_⟩
          cases rp with
          | nil => exact ifT (two 0 (by decide)) (bad hls H4 s04)
          | @cons va xp' a ps' h1 rp =>
          cases rp with
          | nil => exact ifT (two 1 (by decide)) (bad (hls.trans (by cases a <;> rfl)) H4 s04)
          | @cons vwd xp'' wd ps'' h2 rp =>
          cases rp with
          | cons h3 rp => exact ifT (two _ (by simp)) (bad (hls.trans (by cases a <;> rfl)) H4 s04)
          | nil =>
          refine ifF (show (!decide (V.int ((2 : Nat) : Int) = V.int 2)) = false from by rw [decide_eq_true (show V.int ((2 : Nat) : Int) = V.int 2 from rfl)]; rfl) ?_
          refine ⟨_, rfl, q, _, 0, _, rfl, rfl, SqT.of eq, atI_nat (j := 0) rfl, (by show 1 ≤ sizeLine; decide), fun z3 hz3 => ?_⟩
          generalize hH5 : upd H4 z3 _ = H5
          obtain ⟨sz3, ez3⟩ := freshF hz3 hH5
          have hpa : pur a = true := ((Bool.and_eq_true _ _).mp hpps).1
          refine ⟨z3 + 1, .ref z3, .lst [a], rfl, .lst ez3 (Nat.succ_ne_self z3).symm (by show 1 ≤ 20000; decide) (.cons (DV.keepP (g := g) (Kt.of sz3) hpa h1) .nil), fun H6 s6 => ⟨_, rfl, ?_⟩⟩
          have s46 := sz3.trans s6
          have s06 := s04.trans s46
          cases a with
          | int k =>
            obtain rfl := h1.int_inv
            refine ifF rfl ?_
            have e3' := s06 _ _ (eb3)
            have ec3' := s06 _ _ ec3
            refine ⟨_, rfl, q, _, 0, _, rfl, rfl, SqT.of (s46 _ _ eq), atI_nat (j := 0) rfl, ?_⟩
            refine ⟨_, _, rfl, rfl, _, rfl, ?_⟩
            by_cases h0 : 0 ≤ k
            · refine ifT (decide_eq_true h0) ?_
              refine ⟨_, rfl, b0, _, 1, _, rfl, rfl, SqT.of (s06 _ _ eb0), atI_nat (j := 1) rfl, _, rfl, c0, xn, at_, _, rfl, rfl, SqT.of (s06 _ _ ec0), at_int ha0 hvnt, b3, _, 1, _, rfl, rfl, SqT.of e3', atI_nat (j := 1) rfl, c3, xe, rfl, .inr (SqT.of ec3'), _, _, rfl, rfl, _, rfl, ?_⟩
              rw [hlx]
              by_cases h9 : k < (nt.2.length : Int)
              · refine ifF (by rw [decide_eq_true h9]; rfl) ?_
                have hk1 : k.toNat < nt.2.length := by omega
                have he0 : nt.2[k.toNat]? = some (nt.2[k.toNat]'hk1) := List.getElem?_eq_getElem hk1
                generalize hee : nt.2[k.toNat]'hk1 = e0 at he0
                obtain ⟨ve, hve, hed⟩ := re.at' (i := k.toNat) (d := edD e0) (by rw [List.getElem?_map, he0]; rfl)
                obtain ⟨be, ae, rfl, ebe, xl, eae, rl⟩ := ed_at hed
                have hoe := okw.ed nt (List.mem_of_getElem? hnt) e0 (List.mem_of_getElem? he0)
                have hls : lwS W.lb nt.2 kn (hi', vi) st = lwE W.lb kn e0 (isTup st) (hi', vi) wd := by
                  rw [hls]
                  show (if 0 ≤ k ∧ k < (nt.2.length : Int) then (match nt.2[k.toNat]? with | some e => lwE W.lb kn e (isTup st) (hi', vi) wd | none => none) else none) = _
                  rw [if_pos ⟨h0, h9⟩, he0]
                refine ⟨_, rfl, b0, _, 1, _, rfl, rfl, SqT.of (s06 _ _ eb0), atI_nat (j := 1) rfl, _, rfl, c0, xn, at_, _, rfl, rfl, SqT.of (s06 _ _ ec0), at_int ha0 hvnt, b3, _, 1, _, rfl, rfl, SqT.of e3', atI_nat (j := 1) rfl, _, rfl, q, _, 0, _, rfl, rfl, SqT.of (s46 _ _ eq), atI_nat (j := 0) rfl, c3, xe, k, _, rfl, rfl, SqT.of ec3', at_int h0 hve, _, rfl, q, _, 1, _, rfl, rfl, SqT.of (s46 _ _ eq), atI_nat (j := 1) rfl, ?_⟩
                refine ⟨_, _, rfl, ?_⟩
                have hwd := h2.keep (Kv.of s46)
                have hst6 := hxd3.keep (Kv.of (s34.trans s46))
                have ebe6 := s06 _ _ ebe
                refine ⟨_, rfl, be, _, 0, _, rfl, rfl, SqT.of ebe6, atI_nat (j := 0) rfl, _, rfl, rfl, _, rfl, ?_⟩
                by_cases hp : e0.p = hi'
                · refine ifF (by rw [decide_eq_true (show V.int e0.p = V.int hi' by rw [hp])]; rfl) ?_
                  obtain ⟨t6, ht6, _, q6, _, _⟩ := hst6.ty (K := K)
                  have hls : lwS W.lb nt.2 kn (hi', vi) st = (match e0.c with
                      | none => if isTup st = true then none else some (e0.t, vadd vi (own W.lb e0))
                      | some c => if isTup st = true then (lwW kn c wd).map fun m => (e0.t, vadd (vadd vi (own W.lb e0)) m) else none) := by
                    rw [hls]
                    unfold lwE
                    rw [if_pos (show e0.p = (hi', vi).1 from hp)] <;> rfl
                  refine ⟨_, rfl, be, _, 2, _, rfl, rfl, SqT.of ebe6, atI_nat (j := 2) rfl, rfl, _, rfl, _, _, _, _, _, rfl, .ty "tuple", ht6, q6, _, rfl, rfl, _, rfl, ?_⟩
                  cases hc : e0.c with
                  | none =>
                    cases htp : isTup st with
                    | true => exact ifT rfl (bad (hls.trans (by rw [hc, htp] <;> rfl)) H6 s06)
                    | false =>
                      refine ifF rfl ?_
                      have hw6 := hw.keep (Kv.of s06)
                      have hed6 := hed.keep (Kv.of s06)
                      have ef6 : H6 f5 = some (.lst (vi.map V.int)) := s46 _ _ (s34 _ _ ef5)
                      refine ⟨_, rfl, _, rfl, _, rfl, g, _, _, W, e0, rfl, hw6, hlb.1, hlb.2, hed6, hoe.k, fun D H7 s7 hD eD => ?_⟩
                      have hol : (own W.lb e0).length = W.lb.toNat + 1 := own_len e0
                      refine ⟨f5, D, vi, own W.lb e0, 1, rfl, s7 _ _ ef6, eD, by rw [hvl, hol], by omega, by decide, by decide, fun D2 H8 s8 hD2 eD2 => ?_⟩
                      have eD2 : H8 D2 = some (.lst ((vadd vi (own W.lb e0)).map V.int)) := eD2
                      have l2 : (vadd vi (own W.lb e0)).length = W.lb.toNat + 1 := by rw [vadd_len (by rw [hvl, hol])]; exact hvl
                      have s68 := s7.trans s8
                      have s48 := s46.trans s68
                      have s08 := s06.trans s68
                      have ebe8 := s68 _ _ ebe6
                      refine ⟨fun σ H' => ∃ (f : Addr) (v' : List Int), σ = [some (.ref b0), some (.int at_), some (.ref ta), some (.int hi'), some (.ref Kn), some (.ref f), some x, some (.ref q), some (.ref be), some vwd] ∧ Same H8 H' ∧ H' f = some (.lst (v'.map V.int)) ∧ v'.length = W.lb.toNat + 1 ∧ lwS W.lb nt.2 kn (hi', vi) st = some (e0.t, v'), ?_, ?_⟩
                      rotate_left
                      · rintro σ H9 ⟨f, v', rfl, s89, ef, hv', hls9⟩
                        refine ⟨_, rfl, be, _, 1, _, rfl, rfl, SqT.of (s89 _ _ ebe8), atI_nat (j := 1) rfl, ?_⟩
                        refine ⟨f, e0.t, v', _, _, _, _, rfl, s23.trans (s34.trans (s48.trans s89)), ef, hv', ?_⟩
                        rw [hlw, hls9]
                        rfl
                      · refine ⟨_, rfl, be, _, 2, _, rfl, rfl, SqT.of ebe8, atI_nat (j := 2) rfl, ?_⟩
                        refine ⟨rfl, _, rfl, ?_⟩
                        rw [hc]
                        exact ifF rfl ⟨D2, _, rfl, Same.refl _, eD2, l2, hls.trans (by rw [hc, htp] <;> rfl)⟩
                  | some c =>
                    cases htp : isTup st with
                    | false => exact ifT rfl (bad (hls.trans (by rw [hc, htp] <;> rfl)) H6 s06)
                    | true =>
                      refine ifF rfl ?_
                      have hw6 := hw.keep (Kv.of s06)
                      have hed6 := hed.keep (Kv.of s06)
                      have ef6 : H6 f5 = some (.lst (vi.map V.int)) := s46 _ _ (s34 _ _ ef5)
                      refine ⟨_, rfl, _, rfl, _, rfl, g, _, _, W, e0, rfl, hw6, hlb.1, hlb.2, hed6, hoe.k, fun D H7 s7 hD eD => ?_⟩
                      have hol : (own W.lb e0).length = W.lb.toNat + 1 := own_len e0
                      refine ⟨f5, D, vi, own W.lb e0, 1, rfl, s7 _ _ ef6, eD, by rw [hvl, hol], by omega, by decide, by decide, fun D2 H8 s8 hD2 eD2 => ?_⟩
                      have eD2 : H8 D2 = some (.lst ((vadd vi (own W.lb e0)).map V.int)) := eD2
                      have l2 : (vadd vi (own W.lb e0)).length = W.lb.toNat + 1 := by rw [vadd_len (by rw [hvl, hol])]; exact hvl
                      have s68 := s7.trans s8
                      have s48 := s46.trans s68
                      have s08 := s06.trans s68
                      have ebe8 := s68 _ _ ebe6
                      refine ⟨fun σ H' => ∃ (f : Addr) (v' : List Int), σ = [some (.ref b0), some (.int at_), some (.ref ta), some (.int hi'), some (.ref Kn), some (.ref f), some x, some (.ref q), some (.ref be), some vwd] ∧ Same H8 H' ∧ H' f = some (.lst (v'.map V.int)) ∧ v'.length = W.lb.toNat + 1 ∧ lwS W.lb nt.2 kn (hi', vi) st = some (e0.t, v'), ?_, ?_⟩
                      rotate_left
                      · rintro σ H9 ⟨f, v', rfl, s89, ef, hv', hls9⟩
                        refine ⟨_, rfl, be, _, 1, _, rfl, rfl, SqT.of (s89 _ _ ebe8), atI_nat (j := 1) rfl, ?_⟩
                        refine ⟨f, e0.t, v', _, _, _, _, rfl, s23.trans (s34.trans (s48.trans s89)), ef, hv', ?_⟩
                        rw [hlw, hls9]
                        rfl
                      · refine ⟨_, rfl, be, _, 2, _, rfl, rfl, SqT.of ebe8, atI_nat (j := 2) rfl, ?_⟩
                        refine ⟨rfl, _, rfl, ?_⟩
                        rw [hc]
                        refine ifT rfl ?_
                        have hls : lwS W.lb nt.2 kn (hi', vi) st = (lwW kn c wd).map fun m => (e0.t, vadd (vadd vi (own W.lb e0)) m) := hls.trans (by rw [hc, htp] <;> rfl)
                        have bad8 : lwW kn c wd = none → ∀ H', Same H8 H' → Q .non H' := fun h H' s' => bad (hls.trans (by rw [h] <;> rfl)) H' (s08.trans s')
                        have hpw : pur wd = true := ((Bool.and_eq_true _ _).mp ((Bool.and_eq_true _ _).mp hpps).2).1
                        refine ⟨_, rfl, (by show 1 ≤ sizeLine; decide), fun z5 hz5 => ?_⟩
                        generalize hH9 : upd H8 z5 _ = H9
                        obtain ⟨sz5, ez5⟩ := freshF hz5 hH9
                        have hwd8 := h2.keep (Kv.of s48)
                        refine ⟨z5 + 1, .ref z5, .lst [wd], rfl, .lst ez5 (Nat.succ_ne_self z5).symm (by show 1 ≤ 20000; decide) (.cons (DV.keepP (g := g) (Kt.of sz5) hpw hwd8) .nil), fun H10 s10 => ⟨_, rfl, ?_⟩⟩
                        have s8a := sz5.trans s10
                        have s0a := s08.trans s8a
                        have eKn10 := s0a _ _ eKn
                        cases wd with
                        | int j =>
                          obtain rfl := h2.int_inv
                          refine ifF rfl ?_
                          refine ⟨_, rfl, _, _, rfl, rfl, _, rfl, ?_⟩
                          by_cases hj0 : 0 ≤ j
                          · refine ifT (decide_eq_true hj0) ?_
                            refine ⟨_, rfl, Kn, xs, rfl, .inl (SqL.of eKn10), _, _, rfl, rfl, _, rfl, ?_⟩
                            rw [hkn.1]
                            by_cases hj1 : j < (kn.length : Int)
                            · refine ifF (by rw [decide_eq_true hj1]; rfl) ?_
                              have hm : kn[j.toNat]? = some (kn[j.toNat]'(by omega)) := List.getElem?_eq_getElem (by omega)
                              generalize hme : kn[j.toNat]'(by omega) = m at hm
                              obtain ⟨qq, pp, hxj, eqq, epp, hml⟩ := hkn.2 _ _ hm
                              have hlw2 : lwW kn c (.int j) = if m.1 = c then some m.2 else none := by
                                show (if 0 ≤ j ∧ j < (kn.length : Int) then (match kn[j.toNat]? with | some m => if m.1 = c then some m.2 else none | none => none) else none) = _
                                rw [if_pos ⟨hj0, hj1⟩, hm]
                              refine ⟨_, rfl, _, rfl, Kn, xs, j, _, rfl, rfl, SqL.of eKn10, at_int hj0 hxj, qq, _, 0, _, rfl, rfl, SqT.of (s0a _ _ eqq), atI_nat (j := 0) rfl, _, rfl, be, _, 2, _, rfl, rfl, SqT.of (s8a _ _ ebe8), atI_nat (j := 2) rfl, ?_⟩
                              rw [hc]
                              refine ⟨rfl, _, rfl, ?_⟩
                              by_cases hmc : m.1 = c
                              · refine ifF (by rw [hmc, decide_eq_true (show V.int c = oIV (some c) from rfl)]; rfl) ?_
                                have hls : lwS W.lb nt.2 kn (hi', vi) st = some (e0.t, vadd (vadd vi (own W.lb e0)) m.2) := by rw [hls, hlw2, if_pos hmc] <;> rfl
                                refine ⟨_, rfl, _, rfl, _, rfl, Kn, xs, j, _, rfl, rfl, SqL.of eKn10, at_int hj0 hxj, qq, _, 1, _, rfl, rfl, SqT.of (s0a _ _ eqq), atI_nat (j := 1) rfl, D2, pp, vadd vi (own W.lb e0), m.2, 1, rfl, s8a _ _ eD2, s0a _ _ epp, by rw [l2, hml], by omega, by decide, by decide, fun D3 H11 s11 hD3 eD3 => ?_⟩
                                exact ⟨D3, _, rfl, s8a.trans s11, eD3, by show (vadd _ _).length = _; rw [vadd_len (by rw [l2, hml])]; exact l2, hls⟩
                              · exact ifT (by rw [decide_eq_false (fun h => hmc (by injection h))]; rfl) (bad8 (by rw [hlw2, if_neg hmc]) H10 s8a)
                            · refine ifT (by rw [decide_eq_false hj1]; rfl) (bad8 ?_ H10 s8a)
                              show (if 0 ≤ j ∧ j < (kn.length : Int) then _ else none) = _
                              rw [if_neg (fun h => hj1 h.2)]
                          · refine ifF (decide_eq_false hj0) ⟨_, rfl, ifT rfl (bad8 ?_ H10 s8a)⟩
                            show (if 0 ≤ j ∧ j < (kn.length : Int) then _ else none) = _
                            rw [if_neg (fun h => hj0 h.1)]
                        | _ => exact ifT rfl (bad8 rfl H10 s8a)
                · refine ifT (by rw [decide_eq_false (fun h => hp (by injection h))]; rfl) (bad (hls.trans ?_) H6 s06)
                  unfold lwE
                  rw [if_neg (show ¬ e0.p = (hi', vi).1 from hp)]
              · refine ifT (by rw [decide_eq_false h9]; rfl) (bad (hls.trans ?_) H6 s06)
                show (if 0 ≤ k ∧ k < (nt.2.length : Int) then _ else none) = _
                rw [if_neg (fun h => h9 h.2)]
            · refine ifF (decide_eq_false h0) ⟨_, rfl, ifT rfl (bad (hls.trans ?_) H6 s06)⟩
              show (if 0 ≤ k ∧ k < (nt.2.length : Int) then _ else none) = _
              rw [if_neg (fun h => h0 h.1)]
          | _ => exact ifT rfl (bad (hls.trans rfl) H6 s06)
      · rintro σ H3 ⟨f5, hi', vi, v6, v7, v8, v9, rfl, s23, ef5, hvl, hlw⟩
        rw [hlen, List.drop_length] at hlw
        refine ⟨_, rfl, _, rfl, (by show 2 ≤ sizeLine; decide), fun q hq => ?_⟩
        generalize hH4 : upd H3 q _ = H4
        obtain ⟨sq, eq⟩ := freshF hq hH4
        exact k2 _ hlw q f5 H4 (s02.trans (s23.trans sq)) eq (sq _ _ ef5) hvl
    | _ => exact ifT rfl (k1 rfl H2 s02)
end
end K66

set_option Elab.async false
set_option linter.all false
set_option pp.maxSteps 900
set_option maxRecDepth 100000
set_option maxHeartbeats 4000000
namespace K66
open PySem PySem.Spec PyProof.Rows L2
open TL (tl)
abbrev sLW : Stmt := top 43
/-! ### the law's own reckoning over a list of words -/
def lwV (W : Web) (kn : List (Int × List Int)) (n : Int) (sd : Dt) : Option (Int × List Int) :=
  if 0 ≤ n ∧ n < (W.ns.length : Int) then (match W.ns[n.toNat]? with
    | some nt => (match lwT W.lb nt.2 kn 0 sd with
      | some z => if z.1 = nt.1 - 1 then some (n, z.2) else none
      | none => none)
    | none => none)
  else none
def lw1 (W : Web) (kn : List (Int × List Int)) : Dt → Option (Int × List Int)
  | .tup [.int n, sd] => lwV W kn n sd
  | _ => none
def lwWs (W : Web) : List Dt → List (Int × List Int) → Option (List (Int × List Int))
  | [], kn => some kn
  | d :: r, kn => (lw1 W kn d).bind fun m => lwWs W r (kn ++ [m])
def lwD (W : Web) (d : Dt) : Option (List (Int × List Int)) := match seqOf d with
  | some ws => lwWs W ws []
  | none => none
/-- what the words are made of is no list -/
def PurW (d : Dt) : Prop := ∀ ws, seqOf d = some ws → ∀ a sd, Dt.tup [a, sd] ∈ ws → pur a = true ∧ (isTup sd = true → pur sd = true)
def spLW : Sp := fun vs H Q _ => ∃ (g : Addr) (vw vws : V) (W : Web) (d : Dt), vs = [vw, vws] ∧ DV g H vw (wbD W) ∧ OkW W ∧ DV g H vws d ∧ PurW d ∧ (lwD W d = none → ∀ H', Same H H' → Q .non H') ∧
  (∀ kn, lwD W d = some kn → ∀ (Kn : Addr) (xs : List V) (H' : Hp), Same H H' → H Kn = none → H' Kn = some (.lst xs) → KnR W.lb.toNat H' xs kn → Q (.ref Kn) H')
theorem KnR.keep {lb : Nat} {H H' : Hp} {xs : List V} {kn : List (Int × List Int)} (R : KnR lb H xs kn) (s : ∀ b o, H b = some o → (∃ ys, o = .tup ys) ∨ (∃ ns : List Int, o = .lst (ns.map V.int) ∧ ns.length = lb + 1) → H' b = some o) : KnR lb H' xs kn := by
  refine ⟨R.1, fun j m h => ?_⟩
  obtain ⟨q, p, h1, h2, h3, h4⟩ := R.2 j m h
  exact ⟨q, p, h1, s _ _ h2 (.inl ⟨_, rfl⟩), s _ _ h3 (.inr ⟨_, rfl, h4⟩), h4⟩
theorem KnR.ints {lb : Nat} {H : Hp} {xs : List V} {kn : List (Int × List Int)} (R : KnR lb H xs kn) {ns : List Int} (h : xs = ns.map V.int) (hl : ns.length = lb + 1) : False := by
  have h1 := R.1
  rw [h, List.length_map, hl] at h1
  obtain ⟨q, p, h2, _⟩ := R.2 0 (kn[0]'(by omega)) (List.getElem?_eq_getElem _)
  rw [h] at h2
  cases ns with
  | nil => cases hl
  | cons a r => cases h2
theorem KnR.snoc {lb : Nat} {H : Hp} {xs : List V} {kn : List (Int × List Int)} (R : KnR lb H xs kn) {n : Int} {v : List Int} {q p : Addr} (hq : H q = some (.tup [.int n, .ref p])) (hp : H p = some (.lst (v.map V.int))) (hl : v.length = lb + 1) : KnR lb H (xs ++ [.ref q]) (kn ++ [(n, v)]) := by
  refine ⟨by rw [List.length_append, List.length_append, R.1]; rfl, fun j m h => ?_⟩
  by_cases hj : j < kn.length
  · rw [List.getElem?_append_left hj] at h
    obtain ⟨q', p', h1, h2, h3, h4⟩ := R.2 j m h
    exact ⟨q', p', by rw [List.getElem?_append_left (by rw [R.1]; exact hj)]; exact h1, h2, h3, h4⟩
  · rw [List.getElem?_append_right (by omega)] at h
    have e : j - kn.length = 0 := by
      have := (List.getElem?_eq_some_iff.mp h).1
      simp at this
      omega
    rw [e] at h
    obtain rfl := Option.some.inj h
    refine ⟨q, p, ?_, hq, hp, hl⟩
    rw [List.getElem?_append_right (by rw [R.1]; omega), R.1, e]
    rfl
/-- a list or a tuple, walked -/
@[irreducible] def iSeq (K : PySem.W.Frag) (tl : TE) : TI := fun σ H R => tl σ H fun x H1 => ∃ a xs, x = .ref a ∧ ((SqL K H1 a xs ∧ R (Itl K a) H1) ∨ (SqT K H1 a xs ∧ R (Itt K a) H1))
theorem pi_seq {X : Cx} {tg l : Expr} {tl : TE} (hl : PE X l tl) : PI X tg l (iSeq X.K tl) := by
  refine ⟨fun pins s σ H R I h => ?_⟩
  unfold iSeq at h
  refine thn (hl.run pins s σ H _ I h) fun v s1 ⟨x, H1, I1, r1, q1⟩ => ?_
  obtain ⟨a, xs, e, q⟩ := q1
  subst e
  cases r1
  rcases q with ⟨hq, q⟩ | ⟨hq, q⟩
  · obtain ⟨its, rv, p, hz⟩ := I1.list hq
    refine wpAny_pyIter_list p.isList ?_
    refine ⟨s1.heap.objs.size, [s1.heap.objs.size], _, _, H1, rfl, I1.kept (t' := s1.toks) fun b o e => Heap.get?_push_of_some _ e, turn_list a _, ⟨_, Heap.get?_push_size _ rfl, rfl, rfl⟩, fun b hb => ?_, q⟩
    have e : b = s1.heap.objs.size := by simpa using hb
    subst e
    exact I1.fpOk (Nat.le_refl _) (I1.hok.fresh (Nat.le_refl _))
  · obtain ⟨its, rv, p, hz⟩ := I1.tuple hq
    refine wpAny_pyIter_tuple (show s1.heap.IsTuple a its.toArray from p) ?_
    refine ⟨s1.heap.objs.size, [s1.heap.objs.size], _, _, H1, rfl, I1.kept (t' := s1.toks) fun b o e => Heap.get?_push_of_some _ e, turn_tuple a _, ⟨_, Heap.get?_push_size _ rfl, rfl, rfl⟩, fun b hb => ?_, q⟩
    have e : b = s1.heap.objs.size := by simpa using hb
    subst e
    exact I1.fpOk (Nat.le_refl _) (I1.hok.fresh (Nat.le_refl _))
theorem iSeq_of {K : PySem.W.Frag} {a : Addr} {xs : List V} {H H0 : Hp} {i : Nat} {σ : L2.St} {R : It → Hp → Prop} (hi : σ[i]? = some (some (.ref a))) (h : (∀ H', Same H0 H' → SqL K H' a xs) ∨ (∀ H', Same H0 H' → SqT K H' a xs)) (s : Same H0 H)
    (hs : ∀ (J : It) (G : Hp → Prop), L2.Walk J xs.length G (YAt xs) → (∀ H', Same H0 H' → G H') → R J H) : iSeq K (tVar i) σ H R := by
  unfold iSeq
  refine ⟨_, hi, a, xs, rfl, ?_⟩
  rcases h with h | h
  · exact .inl ⟨h H s, hs _ _ walk_list h⟩
  · exact .inr ⟨h H s, hs _ _ walk_tup h⟩
theorem seq_w {K : PySem.W.Frag} {g : Addr} {H : Hp} {v : V} {d : Dt} {ws : List Dt} (h : DV g H v d) (hs : seqOf d = some ws) : ∃ a xs, v = .ref a ∧ DVs g H xs ws ∧ ws.length ≤ 20000 ∧ ((∀ H', Same H H' → SqL K H' a xs) ∨ (∀ H', Same H H' → SqT K H' a xs)) := by
  cases h with
  | lst e n hl r =>
    obtain rfl := Option.some.inj hs
    exact ⟨_, _, rfl, r, hl, .inl fun H' s' => SqL.of (s' _ _ e)⟩
  | tup e hl r =>
    obtain rfl := Option.some.inj hs
    exact ⟨_, _, rfl, r, hl, .inr fun H' s' => SqT.of (s' _ _ e)⟩
  | _ => cases hs
theorem DV.tyL2 {K : PySem.W.Frag} {g : Addr} {H : Hp} {v : V} {d : Dt} (h : DV g H v d) : ∃ t, TyX K H v t ∧ PySem.W.kitOne K t (.type "list") = some (match d with | .lst _ => true | _ => false) ∧ PySem.W.kitOne K t (.type "tuple") = some (isTup d) := by
  cases h with
  | non => exact ⟨_, .base .non, (kit_ty (show kitB "NoneType" "list" = some false by decide +kernel)), (kit_ty (show kitB "NoneType" "tuple" = some false by decide +kernel))⟩
  | bl b => exact ⟨_, .base (.bl _), (kit_ty (show kitB "bool" "list" = some false by decide +kernel)), (kit_ty (show kitB "bool" "tuple" = some false by decide +kernel))⟩
  | int i => exact ⟨_, .base (.int _), (kit_ty (show kitB "int" "list" = some false by decide +kernel)), (kit_ty (show kitB "int" "tuple" = some false by decide +kernel))⟩
  | str h => exact ⟨_, .base (.str _), (kit_ty (show kitB "str" "list" = some false by decide +kernel)), (kit_ty (show kitB "str" "tuple" = some false by decide +kernel))⟩
  | lst e n h r => exact ⟨_, .base (.lst e), (kit_ty (show kitB "list" "list" = some true by decide +kernel)), (kit_ty (show kitB "list" "tuple" = some false by decide +kernel))⟩
  | tup e h r => exact ⟨_, .base (.tup e), (kit_ty (show kitB "tuple" "list" = some false by decide +kernel)), (kit_ty (show kitB "tuple" "tuple" = some true by decide +kernel))⟩
  | dic e => exact ⟨_, .base (.dK e), (kit_ty (show kitB "dict" "list" = some false by decide +kernel)), (kit_ty (show kitB "dict" "tuple" = some false by decide +kernel))⟩
section
variable {P : Program} {w : World} {K : PySem.W.Frag} {mg : Str → Option Value} {base : Heap}
theorem scLw : FnScope ["web", "words", "known", "word", "led"] ["web", "words"] (defScope sLW) := ⟨rfl, rfl, rfl, by decide +kernel, rfl, by decide +kernel, by decide +kernel⟩
theorem ok_lw {f : Addr} {fd : FuncData} (F : Fun K "_law_wb_words" "_law_wb_words" sLW f fd) (T : Bn mg) (cWh : Cl P w K mg base "_law_wb_wholes" ["value"] 1 (spAsk wholesB)) (cLS : Cl P w K mg base "_law_wb_steps" ["web", "at", "steps", "here", "known"] 2 spLS) :
    FnOk P w K mg base CX0 3 f fd ["web", "words"] spLW := by
  obtain ⟨fWh, fdWh, GWh, mWh, kWh, bWh⟩ := cWh
  obtain ⟨fLS, fdLS, GLS, mLS, kLS, bLS⟩ := cLS
  refine F.ok scLw (fun vs H Q E h => ?_) (fun cdv A outer s H vs Q E hr h => ?_)
  · obtain ⟨g, a, b, c, d, rfl, _⟩ := h
    rfl
  · obtain ⟨g, vw, vws, W, d, rfl, hw, okw, hd, hpur, k1, k2⟩ := h
    have hr1 : Room 1 _ := hr.mono (by decide)
    refine ⟨_, (pss_cons (ps_set (i := 2) scLw.nd rfl (Or.inl rfl) (pe_lst pa_nil))
      (pss_mid (ps_if (PW.pt (pw_and (pt_not (pt_val (pe_callB call_isi (by rfl) T.isi (by decide +kernel) (pa_cons (pv 1) (pa_cons (pe_bltn (v := .ty "list") (by rfl) T.lst boot_list rfl) pa_nil))))) (pw_and1 (pt_not (pt_val (pe_callB call_isi (by rfl) T.isi (by decide +kernel) (pa_cons (pv 1) (pa_cons (pe_bltn (v := .ty "tuple") (by rfl) T.tpl boot_tuple rfl) pa_nil)))))))) (pss_one (ps_ret pe_non)) pss_nil)
      (pss_cons (ps_for PassesOwn.never rfl (pi_seq (pv 1)) (pg_name (i := 3) scLw.nd rfl (Or.inl rfl))
          (pss_cons (ps_if (PW.pt (pw_or (pt_not (pt_val (pe_callB call_isi (by rfl) T.isi (by decide +kernel) (pa_cons (pv 3) (pa_cons (pe_bltn (v := .ty "tuple") (by rfl) T.tpl boot_tuple rfl) pa_nil))))) (pw_or (pt_cmpR op_ne (pe_callB call_len_seq (by rfl) T.len PySem.boot_len (pa_cons (pv 3) pa_nil)) pe_int (nomark _)) (pw_or1 (pt_not (pt_val (pe_call GWh hr1 (by rfl) mWh kWh bWh .nil pass0 (pa_cons (pe_lst (pa_cons (pe_ix ix_tup (pv 3) pe_int (fun _ _ => rfl)) pa_nil)) pa_nil)))))))) (pss_one (ps_ret pe_non)) pss_nil)
          (pss_cons (ps_if (pt_not (pt_chain op_le op_lt pe_int (pe_ix ix_tup (pv 3) pe_int (fun _ _ => rfl)) (pe_callB call_len_seq (by rfl) T.len PySem.boot_len (pa_cons (pe_ix ix_tup (pv 0) pe_int (fun _ _ => rfl)) pa_nil)))) (pss_one (ps_ret pe_non)) pss_nil)
          (pss_cons (ps_set (i := 4) scLw.nd rfl (Or.inl rfl) (pe_call GLS hr (by rfl) mLS kLS bLS .nil pass0 (pa_cons (pv 0) (pa_cons (pe_ix ix_tup (pv 3) pe_int (fun _ _ => rfl)) (pa_cons (pe_ix ix_tup (pv 3) pe_int (fun _ _ => rfl)) (pa_cons pe_int (pa_cons (pv 2) pa_nil)))))))
          (pss_cons (ps_if (PW.pt (pw_or (pt_cmpR op_isN (pv 4) pe_non (nomark _)) (pw_or1 (pt_cmpR op_ne (pe_ix ix_tup (pv 4) pe_int (fun _ _ => rfl)) (pe_op op_sub (pe_ix ix_tup (pe_ix ix_tup (pe_ix ix_tup (pv 0) pe_int (fun _ _ => rfl)) (pe_ix ix_tup (pv 3) pe_int (fun _ _ => rfl)) (fun _ _ => rfl)) pe_int (fun _ _ => rfl)) pe_int) (nomark _))))) (pss_one (ps_ret pe_non)) pss_nil)
          (pss_one (ps_expr (qApp (pv 2) (pe_tup (pa_cons (pe_ix ix_tup (pv 3) pe_int (fun _ _ => rfl)) (pa_cons (pe_ix ix_tup (pv 4) pe_int (fun _ _ => rfl)) pa_nil)))))))))))
      (pss_one (ps_ret (pv 2)))))), ?_⟩
    refine ⟨Nat.zero_le _, fun z1 hz1 => ?_⟩
    generalize hH1 : upd H z1 _ = H1
    obtain ⟨sz1, ez1⟩ := freshF hz1 hH1
    have hd1 := hd.keep (Kv.of sz1)
    have hw1 := hw.keep (Kv.of sz1)
    obtain ⟨t, ht, q1, q2⟩ := hd1.tyL2 (K := K)
    refine ⟨fun σ H' => ∃ ws, seqOf d = some ws ∧ σ = [some vw, some vws, some (.ref z1), none, none] ∧ H' = H1, ?_, ?_⟩
    · refine ⟨_, rfl, _, _, _, _, _, rfl, .ty "list", ht, q1, _, rfl, ?_⟩
      cases d with
      | lst l => exact ifF rfl (ifF rfl ⟨l, rfl, rfl, rfl⟩)
      | tup l => exact ifT rfl ⟨_, rfl, _, _, _, _, _, rfl, .ty "tuple", ht, q2, _, rfl, ifF rfl ⟨l, rfl, rfl, rfl⟩⟩
      | _ => exact ifT rfl ⟨_, rfl, _, _, _, _, _, rfl, .ty "tuple", ht, q2, _, rfl, ifT rfl (k1 rfl H1 sz1)⟩
    rintro σ H1' ⟨ws, hseq, rfl, rfl⟩
    have hpw := hpur ws hseq
    have hld : lwD W d = lwWs W ws [] := by
      unfold lwD
      rw [hseq]
    rw [hld] at k1 k2
    obtain ⟨a, xs, rfl, rws, hwl, hsq⟩ := seq_w (K := K) hd hseq
    refine iSeq_of (K := K) (xs := xs) (a := a) (i := 1) (σ := [some vw, some (.ref a), some (.ref z1), none, none]) (H := H1') rfl hsq sz1 fun J G hJ hG => ?_
    have hxl := rws.len
    refine for_it hJ (fun i σ H' => ∃ (kn : List (Int × List Int)) (ks : List V) (v3 v4 : Option V), σ = [some vw, some (.ref a), some (.ref z1), v3, v4] ∧ Same H H' ∧ (∀ b o, H1' b = some o → b ≠ z1 → H' b = some o) ∧ H' z1 = some (.lst ks) ∧ KnR W.lb.toNat H' ks kn ∧ kn.length = i ∧ lwWs W ws [] = lwWs W (ws.drop i) kn)
      ⟨[], [], none, none, rfl, sz1, fun b o e _ => e, ez1, ⟨rfl, fun j m h => by simp at h⟩, rfl, rfl⟩ (fun i σ H' _ ⟨_, _, _, _, _, s, _⟩ => hG H' s) ?_ ?_
    · rintro i x σ H2 H2z hi ⟨kn, ks, v3, v4, rfl, s2, kz2, ez2, hkn, hkl, hlw⟩ ⟨rfl, hx⟩
      obtain ⟨wd, hwd, hxd0⟩ := rws.at_ hx
      have hxd := hxd0.keep (Kv.of s2)
      have hdrop : ws.drop i = wd :: ws.drop (i + 1) := by
        obtain ⟨hlt, rfl⟩ := List.getElem?_eq_some_iff.mp hwd
        exact List.drop_eq_getElem_cons hlt
      rw [hdrop] at hlw
      have hlw : lwWs W ws [] = (lw1 W kn wd).bind fun m => lwWs W (ws.drop (i + 1)) (kn ++ [m]) := hlw
      have bad : lw1 W kn wd = none → ∀ H', Same H H' → Q .non H' := fun h => k1 (by rw [hlw, h]; rfl)
      obtain ⟨t', ht', _, q2', _, _⟩ := hxd.ty (K := K)
      refine ⟨_, rfl, _, _, _, _, _, rfl, .ty "tuple", ht', q2', _, rfl, ?_⟩
      cases wd with
      | tup l =>
        refine ifF rfl ?_
        obtain ⟨q, xp, rfl, eq, _, rp⟩ := hxd.tup_inv
        have hp0 := hpw
        have two : ∀ n : Nat, n ≠ 2 → (!decide (V.int (n : Nat) = V.int 2)) = true := fun n hn => by
          rw [decide_eq_false]
          · rfl
          · intro h
            injection h with h
            omega
        refine ⟨_, rfl, q, xp, rfl, .inr (SqT.of eq), rfl, _, rfl, ?_⟩
        cases rp with
        | nil => exact ifT (two 0 (by decide)) (bad rfl _ s2)
        | @cons va xp' a' ps' h1 rp =>
        cases rp with
        | nil => exact ifT (two 1 (by decide)) (bad (by cases a' <;> rfl) _ s2)
        | @cons vsd xp'' sd ps'' h2 rp =>
        cases rp with
        | cons h3 rp => exact ifT (two _ (by simp)) (bad (by cases a' <;> rfl) _ s2)
        | nil =>
        obtain ⟨pua, pus⟩ := hpw a' sd (List.mem_of_getElem? hwd)
        refine ifF (show (!decide (V.int ((2 : Nat) : Int) = V.int 2)) = false from by rw [decide_eq_true (show V.int ((2 : Nat) : Int) = V.int 2 from rfl)]; rfl) ?_
        refine ⟨_, rfl, q, _, 0, _, rfl, rfl, SqT.of eq, atI_nat (j := 0) rfl, (by show 1 ≤ sizeLine; decide), fun z3 hz3 => ?_⟩
        generalize hH3 : upd H2z z3 _ = H3
        obtain ⟨sz3, ez3⟩ := freshF hz3 hH3
        refine ⟨z3 + 1, .ref z3, .lst [a'], rfl, .lst ez3 (Nat.succ_ne_self z3).symm (by show 1 ≤ 20000; decide) (.cons (DV.keepP (g := g) (Kt.of sz3) pua h1) .nil), fun H4 s4 => ⟨_, rfl, ?_⟩⟩
        have s24 := sz3.trans s4
        have s04 := s2.trans s24
        have eq4 := s24 _ _ eq
        cases a' with
        | int n =>
          obtain rfl := h1.int_inv
          refine ifF rfl ?_
          obtain ⟨b0, c0, xn, rfl, eb0, ec0, rn⟩ := wb_at hw
          have hnl : xn.length = W.ns.length := by rw [rn.len, List.length_map]
          refine ⟨_, rfl, q, _, 0, _, rfl, rfl, SqT.of eq4, atI_nat (j := 0) rfl, _, _, rfl, rfl, _, rfl, ?_⟩
          by_cases h0 : 0 ≤ n
          · refine ifT (decide_eq_true h0) ?_
            refine ⟨_, rfl, b0, _, 1, _, rfl, rfl, SqT.of (s04 _ _ eb0), atI_nat (j := 1) rfl, c0, xn, rfl, .inr (SqT.of (s04 _ _ ec0)), _, _, rfl, rfl, _, rfl, ?_⟩
            rw [hnl]
            by_cases h9 : n < (W.ns.length : Int)
            · refine ifF (by rw [decide_eq_true h9]; rfl) ?_
              have hnt0 : W.ns[n.toNat]? = some (W.ns[n.toNat]'(by omega)) := List.getElem?_eq_getElem (by omega)
              generalize hee : W.ns[n.toNat]'(by omega) = nt at hnt0
              obtain ⟨vnt, hvnt, hnd⟩ := rn.at' (i := n.toNat) (d := ntD nt) (by rw [List.getElem?_map, hnt0]; rfl)
              obtain ⟨b3, c3, xe, rfl, eb3, ec3, re⟩ := nt_at hnd
              have hl1 : lw1 W kn (.tup [.int n, sd]) = (match lwT W.lb nt.2 kn 0 sd with
                  | some z => if z.1 = nt.1 - 1 then some (n, z.2) else none
                  | none => none) := by
                show (if 0 ≤ n ∧ n < (W.ns.length : Int) then _ else none) = _
                rw [if_pos ⟨h0, h9⟩, hnt0]
              refine ⟨_, rfl, _, rfl, q, _, 0, _, rfl, rfl, SqT.of eq4, atI_nat (j := 0) rfl, _, rfl, q, _, 1, _, rfl, rfl, SqT.of eq4, atI_nat (j := 1) rfl, _, rfl, ?_⟩
              refine ⟨g, z1, _, vsd, W, n, 0, nt, sd, kn, ks, rfl, hw.keep (Kv.of s04), okw, h0, hnt0, h2.keep (Kv.of s24), pus, s24 _ _ ez2, hkn.keep (fun b o e _ => s24 _ _ e), fun hno H5 s5 => ?_, fun z hz p r H5 s5 ep er hrl => ?_⟩
              · exact ⟨_, rfl, rfl, _, rfl, ifT rfl (bad (by rw [hl1, hno]) H5 (s04.trans s5))⟩
              · have s05 := s04.trans s5
                have s25 := s24.trans s5
                refine ⟨_, rfl, rfl, _, rfl, ifF rfl ?_⟩
                refine ⟨_, rfl, p, _, 0, _, rfl, rfl, SqT.of ep, atI_nat (j := 0) rfl, _, rfl, b0, _, 1, _, rfl, rfl, SqT.of (s05 _ _ eb0), atI_nat (j := 1) rfl, _, rfl, q, _, 0, _, rfl, rfl, SqT.of (s25 _ _ eq), atI_nat (j := 0) rfl, c0, xn, n, _, rfl, rfl, SqT.of (s05 _ _ ec0), at_int h0 hvnt, b3, _, 0, _, rfl, rfl, SqT.of (s05 _ _ eb3), atI_nat (j := 0) rfl, _, _, rfl, rfl, rfl, _, rfl, ?_⟩
                rw [hz] at hl1
                have hl1 : lw1 W kn (.tup [.int n, sd]) = if z.1 = nt.1 - 1 then some (n, z.2) else none := hl1
                by_cases hzn : z.1 = nt.1 - 1
                · refine ifF (by rw [hzn, decide_eq_true rfl]; rfl) ?_
                  rw [if_pos hzn] at hl1
                  have ez5 := s25 _ _ ez2
                  refine ⟨_, rfl, .inl ⟨rfl, _, SqL.of ez5⟩, _, rfl, q, _, 0, _, rfl, rfl, SqT.of (s25 _ _ eq), atI_nat (j := 0) rfl, _, rfl, p, _, 1, _, rfl, rfl, SqT.of ep, atI_nat (j := 1) rfl, (by show 2 ≤ sizeLine; decide), fun t6 ht6 => ?_⟩
                  generalize hH6 : upd H5 t6 _ = H6
                  obtain ⟨st6, et6⟩ := freshF ht6 hH6
                  have hil := (List.getElem?_eq_some_iff.mp hwd).1
                  have nz : t6 ≠ z1 := (ne_of_none ez5 ht6).symm
                  refine ⟨z1, ks, _, rfl, rfl, st6 _ _ ez5, by rw [hkn.1, sizeLine_eq]; omega, ?_⟩
                  refine ⟨kn ++ [(n, z.2)], _, _, _, rfl, ?_, ?_, upd_same, ?_, by rw [List.length_append, hkl]; rfl, ?_⟩
                  · intro b o e
                    rw [upd_ne (ne_of_none e hz1)]
                    exact st6 _ _ (s05 _ _ e)
                  · intro b o e hb
                    rw [upd_ne hb]
                    exact st6 _ _ (s25 _ _ (kz2 _ _ e hb))
                  · have hk5 : KnR W.lb.toNat H5 ks kn := hkn.keep (fun b o e _ => s25 _ _ e)
                    have nr : r ≠ z1 := fun h => by
                      rw [h, ez5] at er
                      exact hk5.ints (HO.lst.inj (Option.some.inj er)) hrl
                    have hk6 : KnR W.lb.toNat (upd H6 z1 (.lst (ks ++ [.ref t6]))) ks kn := hk5.keep fun b o e ho => by
                      have nb : b ≠ z1 := fun h => by
                        rw [h, ez5] at e
                        rcases ho with ⟨ys, rfl⟩ | ⟨ns, rfl, hns⟩
                        · cases e
                        · exact hk5.ints (HO.lst.inj (Option.some.inj e)) hns
                      rw [upd_ne nb]
                      exact st6 _ _ e
                    exact hk6.snoc (by rw [upd_ne nz]; exact et6) (by rw [upd_ne nr]; exact st6 _ _ er) hrl
                  · rw [hlw, hl1] <;> rfl
                · rw [if_neg hzn] at hl1
                  exact ifT (by rw [decide_eq_false (fun h => hzn (by injection h))]; rfl) (bad hl1 H5 s05)
            · refine ifT (by rw [decide_eq_false h9]; rfl) (bad ?_ H4 s04)
              show (if 0 ≤ n ∧ n < (W.ns.length : Int) then _ else none) = _
              rw [if_neg (fun h => h9 h.2)]
          · refine ifF (decide_eq_false h0) ⟨_, rfl, ifT rfl (bad ?_ H4 s04)⟩
            show (if 0 ≤ n ∧ n < (W.ns.length : Int) then _ else none) = _
            rw [if_neg (fun h => h0 h.1)]
        | _ => exact ifT rfl (bad rfl H4 s04)
      | _ => exact ifT rfl (bad rfl _ s2)
    · rintro σ H2 ⟨kn, ks, v3, v4, rfl, s2, kz2, ez2, hkn, hkl, hlw⟩
      rw [hxl, List.drop_length] at hlw
      exact ⟨_, rfl, k2 kn hlw z1 ks H2 s2 hz1 ez2 hkn⟩
end
end K66

set_option Elab.async false
set_option linter.all false
set_option pp.maxSteps 900
set_option maxRecDepth 100000
set_option maxHeartbeats 4000000
namespace K66
open PySem PySem.Spec PyProof.Rows L2
open TL (tl)
/-! ### the law's words are the program's (mathematics) -/
theorem ok_lab {W : Web} (okw : OkW W) {nt : Int × List Ed} {n : Int} (h : W.ns[n.toNat]? = some nt) : ∀ e ∈ nt.2, ∀ k ∈ e.l, k.toNat < W.lb.toNat := by
  intro e he k hk
  have := (okw.ed nt (List.mem_of_getElem? h) e he).k k hk
  have := okw.lb
  omega
theorem lw_one {W : Web} (okw : OkW W) {ws : List Dt} {i : Nat} {kn : List (Int × List Int)} {fd : List (List Int × Int)} (R : RelKn ws i kn fd) (hf : OkF W.lb.toNat fd) (hfl : fd.length = i) {wd : Dt} (hi : ws[i]? = some wd) :
    (wB W ws i = false → lw1 W kn wd = none) ∧ (wB W ws i = true → ∃ (n : Int) (ss : List Dt) (nt : Int × List Ed), wd = .tup [.int n, .tup ss] ∧ W.ns[n.toNat]? = some nt ∧ lw1 W kn wd = some (n, flat (mOne W fd nt.2 ss))) := by
  have e0 : wB W ws i = wB1 W ws i wd := by
    unfold wB
    rw [hi]
  rw [e0]
  cases h2 : lenIs 2 wd with
  | false =>
    rw [wB1_no h2]
    refine ⟨fun _ => ?_, fun h => by cases h⟩
    cases wd with
    | tup xs =>
      match xs, h2 with
      | [_, _], h => cases h
      | [], _ => rfl
      | [a], _ => cases a <;> rfl
      | a :: _ :: _ :: _, _ => cases a <;> rfl
    | _ => rfl
  | true =>
  obtain ⟨a, sd, rfl⟩ := len2 h2
  cases a with
  | int n =>
    show (wB2 W ws i sd (.int n) = false → lwV W kn n sd = none) ∧ (wB2 W ws i sd (.int n) = true → ∃ (m : Int) (ss : List Dt) (nt : Int × List Ed), _ ∧ _ ∧ lwV W kn n sd = _)
    have e1 : wB2 W ws i sd (.int n) = (decide (0 ≤ n ∧ n ≤ (W.ns.length : Int) - 1) && (match W.ns[n.toNat]? with
        | some nt => decide (pbOf nt.2 ws i sd 0 = some (nt.1 - 1))
        | none => false)) := rfl
    rw [e1]
    unfold lwV
    by_cases hn : 0 ≤ n ∧ n < (W.ns.length : Int)
    · rw [if_pos hn, decide_eq_true (show 0 ≤ n ∧ n ≤ (W.ns.length : Int) - 1 by omega)]
      have hnt : W.ns[n.toNat]? = some (W.ns[n.toNat]'(by omega)) := List.getElem?_eq_getElem (by omega)
      generalize hee : W.ns[n.toNat]'(by omega) = nt at hnt
      rw [hnt]
      show ((true && decide (pbOf nt.2 ws i sd 0 = some (nt.1 - 1))) = false → (match lwT W.lb nt.2 kn 0 sd with | some z => if z.1 = nt.1 - 1 then some (n, z.2) else none | none => none) = none) ∧ ((true && decide (pbOf nt.2 ws i sd 0 = some (nt.1 - 1))) = true → _)
      rw [Bool.true_and]
      cases sd with
      | tup ss =>
        have e2 : lwT W.lb nt.2 kn 0 (.tup ss) = (pbL nt.2 ws i ss 0).map fun t => (t, ss.foldl (lawS W.lb nt.2 fd) (List.replicate (W.lb.toNat + 1) 0)) := lw_all R ss 0 _
        have e3 : pbOf nt.2 ws i (.tup ss) 0 = pbL nt.2 ws i ss 0 := rfl
        rw [e2, e3]
        cases hp : pbL nt.2 ws i ss 0 with
        | none => exact ⟨fun _ => rfl, fun h => absurd (of_decide_eq_true h) (by simp)⟩
        | some t =>
          show (_ → (if t = nt.1 - 1 then some (n, _) else none) = none) ∧ _
          by_cases ht : t = nt.1 - 1
          · rw [decide_eq_true (by rw [ht])]
            refine ⟨(fun h => by cases h), fun _ => ⟨n, ss, nt, rfl, hnt, ?_⟩⟩
            show (match lwT W.lb nt.2 kn 0 (.tup ss) with | some z => if z.1 = nt.1 - 1 then some (n, z.2) else none | none => none) = _
            rw [e2, hp]
            show (if t = nt.1 - 1 then some (n, _) else none) = _
            rw [if_pos ht, law_mOne hf (by rw [hfl]; exact pbL_shape hp) (ok_lab okw hnt)]
          · rw [decide_eq_false (fun h => ht (Option.some.inj h)), if_neg ht]
            exact ⟨fun _ => rfl, fun h => by cases h⟩
      | _ => exact ⟨fun _ => rfl, fun h => absurd (of_decide_eq_true h) (by unfold pbOf; simp)⟩
    · rw [if_neg hn, decide_eq_false (show ¬ (0 ≤ n ∧ n ≤ (W.ns.length : Int) - 1) by omega)]
      exact ⟨fun _ => rfl, fun h => by cases h⟩
  | _ => exact ⟨fun _ => rfl, fun h => by cases h⟩
theorem lw_run {W : Web} (okw : OkW W) {ws : List Dt} : ∀ i, i ≤ ws.length → (∀ j, j < i → wB W ws j = true) → ∃ kn, lwWs W ws [] = lwWs W (ws.drop i) kn ∧ RelKn ws i kn ((ws.take i).foldl (stW W) []) ∧
    ((ws.take i).foldl (stW W) []).length = i ∧ OkF W.lb.toNat ((ws.take i).foldl (stW W) []) ∧ kn.map (·.2) = ((ws.take i).foldl (stW W) []).map flat
  | 0, _, _ => ⟨[], rfl, ⟨rfl, fun j m h => by simp at h⟩, rfl, (fun m h => by cases h), rfl⟩
  | i + 1, hi, hb => by
    obtain ⟨kn, h1, R, hl, hf, hm⟩ := lw_run okw i (by omega) fun j hj => hb j (by omega)
    have hwi : ws[i]? = some (ws[i]'hi) := List.getElem?_eq_getElem hi
    generalize hwd : ws[i]'hi = wd at hwi
    obtain ⟨n, ss, nt, hw, hnt, e1⟩ := (lw_one okw R hf hl hwi).2 (hb i (by omega))
    have hdrop : ws.drop i = wd :: ws.drop (i + 1) := by
      rw [← hwd]
      exact List.drop_eq_getElem_cons hi
    rw [List.take_succ, hwi]
    show ∃ kn, _ ∧ RelKn ws (i + 1) kn ((ws.take i ++ [wd]).foldl (stW W) []) ∧ ((ws.take i ++ [wd]).foldl (stW W) []).length = i + 1 ∧ OkF W.lb.toNat ((ws.take i ++ [wd]).foldl (stW W) []) ∧ kn.map (·.2) = ((ws.take i ++ [wd]).foldl (stW W) []).map flat
    rw [List.foldl_append]
    generalize hfd : (ws.take i).foldl (stW W) [] = fd at *
    have e2 : List.foldl (stW W) fd [wd] = fd ++ [mOne W fd nt.2 ss] := by
      show stW W fd wd = _
      rw [hw]
      show (match W.ns[n.toNat]? with | some nt => fd ++ [mOne W fd nt.2 ss] | none => fd) = _
      rw [hnt]
    rw [e2]
    refine ⟨kn ++ [(n, flat (mOne W fd nt.2 ss))], ?_, ⟨?_, ?_⟩, ?_, ?_, ?_⟩
    · rw [h1, hdrop]
      show (lw1 W kn wd).bind (fun m => lwWs W (ws.drop (i + 1)) (kn ++ [m])) = _
      rw [e1] <;> rfl
    · rw [List.length_append, R.l]
      rfl
    · intro j m h
      by_cases hj : j < i
      · rw [List.getElem?_append_left (by rw [R.l]; exact hj)] at h
        obtain ⟨a, f, b, c⟩ := R.w j m h
        exact ⟨a, f, by rw [List.getElem?_append_left (by rw [hl]; exact hj)]; exact b, c⟩
      · rw [List.getElem?_append_right (by rw [R.l]; omega), R.l] at h
        have e : j - i = 0 := by
          have := (List.getElem?_eq_some_iff.mp h).1
          simp at this
          omega
        have ej : j = i := by omega
        rw [e] at h
        obtain rfl := Option.some.inj h
        refine ⟨⟨.tup ss, by rw [ej, hwi, hw]⟩, mOne W fd nt.2 ss, ?_, rfl⟩
        rw [List.getElem?_append_right (by rw [hl]; omega), hl, e]
        rfl
    · rw [List.length_append, hl]
      rfl
    · intro m hm'
      rcases List.mem_append.mp hm' with hm' | hm'
      · exact hf m hm'
      · rw [List.mem_singleton.mp hm']
        obtain ⟨n', ss', nt', hw', _, hnt', hs'⟩ := word_shape (hb i (by omega))
        rw [hwi, hw] at hw'
        injection Option.some.inj hw' with hw'
        injection hw' with a1 a2
        injection a1 with a1
        injection a2 with a2
        injection a2 with a2
        subst a1
        subst a2
        rw [hnt] at hnt'
        obtain rfl := Option.some.inj hnt'
        exact mOne_len (known := i) hf hs'
    · rw [List.map_append, List.map_append, hm]
      rfl
/-- where the words are right: the law's measures, flat; else none -/
theorem lw_main {W : Web} (okw : OkW W) {d : Dt} : (wordsB W d = false → lwD W d = none) ∧ (∀ ws, seqOf d = some ws → wordsB W d = true → ∃ kn, lwD W d = some kn ∧ kn.map (·.2) = (msOf W ws).map flat ∧ kn.length = ws.length ∧ (msOf W ws).length = ws.length ∧ OkF W.lb.toNat (msOf W ws)) := by
  cases hs : seqOf d with
  | none =>
    refine ⟨fun _ => ?_, fun ws h => by cases h⟩
    unfold lwD
    rw [hs]
  | some ws =>
    have e1 : wordsB W d = (List.range ws.length).all (wB W ws) := by
      unfold wordsB
      rw [hs]
    have e2 : lwD W d = lwWs W ws [] := by
      unfold lwD
      rw [hs]
    rw [e1, e2]
    constructor
    · intro h
      -- the first wrong word
      have : ∃ i, i < ws.length ∧ (∀ j, j < i → wB W ws j = true) ∧ wB W ws i = false := by
        have h : ¬ ∀ x ∈ List.range ws.length, wB W ws x = true := fun z => by
          rw [List.all_eq_true.mpr z] at h
          cases h
        have : ∀ n, (∀ j, j < n → wB W ws j = true) ∨ ∃ i, i < n ∧ (∀ j, j < i → wB W ws j = true) ∧ wB W ws i = false := by
          intro n
          induction n with
          | zero => exact .inl fun j hj => by omega
          | succ n ih =>
            rcases ih with ih | ⟨i, h1, h2, h3⟩
            · cases e : wB W ws n with
              | true =>
                refine .inl fun j hj => ?_
                by_cases hjn : j = n
                · rw [hjn]
                  exact e
                · exact ih j (by omega)
              | false => exact .inr ⟨n, by omega, ih, e⟩
            · exact .inr ⟨i, by omega, h2, h3⟩
        rcases this ws.length with z | z
        · exact absurd (fun x hx => z x (List.mem_range.mp hx)) h
        · exact z
      obtain ⟨i, hi, hb, hno⟩ := this
      obtain ⟨kn, h1, R, hl, hf, _⟩ := lw_run okw i (by omega) hb
      have hwi : ws[i]? = some (ws[i]'hi) := List.getElem?_eq_getElem hi
      have e3 := (lw_one okw R hf hl hwi).1 hno
      rw [h1, List.drop_eq_getElem_cons hi]
      show (lw1 W kn ws[i]).bind _ = none
      rw [e3] <;> rfl
    · intro ws' h' h
      obtain rfl := Option.some.inj h'
      obtain ⟨kn, h1, R, hl, hf, hm⟩ := lw_run okw ws.length (Nat.le_refl _) fun j hj => List.all_eq_true.mp h j (List.mem_range.mpr hj)
      rw [List.drop_length] at h1
      rw [List.take_length] at hl hf hm
      exact ⟨kn, h1, hm, R.l, hl, hf⟩
end K66

set_option Elab.async false
set_option linter.all false
set_option pp.maxSteps 900
set_option maxRecDepth 100000
set_option maxHeartbeats 4000000
namespace K66
open PySem PySem.Spec PyProof.Rows L2
open TL (tl)
abbrev sRd : Stmt := top 40
/-! ### the law's roads: a dict, whatever is in it -/
def UK : List (List Key) := (List.range 400).flatMap fun a => (List.range 4000).map fun p => [Sum.inl ((a : Nat) : Int), Sum.inl ((p : Nat) : Int)]
def pK (a p : Int) : List Key := [Sum.inl a, Sum.inl p]
theorem uk_mem {a p : Int} (ha : 0 ≤ a ∧ a < 400) (hp : 0 ≤ p ∧ p < 4000) : pK a p ∈ UK := by
  refine List.mem_flatMap.mpr ⟨a.toNat, List.mem_range.mpr (by omega), List.mem_map.mpr ⟨p.toNat, List.mem_range.mpr (by omega), ?_⟩⟩
  unfold pK
  rw [Int.toNat_of_nonneg ha.1, Int.toNat_of_nonneg hp.1]
theorem uk_len : UK.length = 1600000 := by
  unfold UK
  rw [List.length_flatMap]
  have : ∀ n : Nat, ((List.range n).map fun _ => (4000 : Nat)).sum = n * 4000 := by
    intro n
    induction n with
    | zero => rfl
    | succ n ih => rw [List.range_succ, List.map_append, List.sum_append, ih]; simp; omega
  simp only [List.length_map, List.length_range]
  exact this 400
def ms (kvs : List (List Key × V)) : Nat := UK.countP fun k => (valV kvs k).isNone
theorem ms_le (kvs : List (List Key × V)) : ms kvs ≤ 1600000 := by
  rw [← uk_len]
  exact List.countP_le_length
theorem count_lt {α : Type} {p q : α → Bool} {k : α} : ∀ {l : List α}, (∀ x ∈ l, p x = true → q x = true) → k ∈ l → q k = true → p k = false → l.countP p < l.countP q
  | [], _, h, _, _ => by cases h
  | x :: l, hpq, h, hq, hp => by
    rw [List.countP_cons, List.countP_cons]
    have hle : l.countP p ≤ l.countP q := List.countP_mono_left fun y hy => hpq y (List.mem_cons_of_mem _ hy)
    rcases List.mem_cons.mp h with rfl | h
    · rw [hp, hq]
      simp
      omega
    · have := count_lt (fun y hy => hpq y (List.mem_cons_of_mem _ hy)) h hq hp
      have hx := hpq x List.mem_cons_self
      cases e : p x with
      | false => simp; omega
      | true => rw [hx e]; simp; omega
theorem ms_put {kvs : List (List Key × V)} {k : List Key} {v : V} (hk : k ∈ UK) (h : valV kvs k = none) : ms (putK kvs k v) < ms kvs := by
  refine count_lt (k := k) (fun x _ hx => ?_) hk (by rw [h] <;> rfl) (by rw [valV_put, if_pos rfl] <;> rfl)
  rw [valV_put] at hx
  by_cases e : x = k
  · rw [if_pos e] at hx
    cases hx
  · rw [if_neg e] at hx
    exact hx
theorem putK_le {κ : Type} [DecidableEq κ] (kvs : List (κ × V)) (k : κ) (v : V) : (putK kvs k v).length ≤ kvs.length + 1 := by
  unfold putK
  split <;> simp
/-- what the dict holds -/
def RdOk (lb : Nat) (H : Hp) (kvs : List (List Key × V)) : Prop := ∀ k v, valV kvs k = some v → ∃ (r : Addr) (xs : List Int), v = .ref r ∧ H r = some (.lst (xs.map V.int)) ∧ xs.length = lb + 1
theorem RdOk.keep {lb : Nat} {H H' : Hp} {kvs : List (List Key × V)} (h : RdOk lb H kvs) (s : Same H H') : RdOk lb H' kvs := fun k v e => by
  obtain ⟨r, xs, h1, h2, h3⟩ := h k v e
  exact ⟨r, xs, h1, s _ _ h2, h3⟩
theorem RdOk.put {lb : Nat} {H : Hp} {kvs kvs' : List (List Key × V)} {f r : Addr} {k : List Key} {xs : List Int} (h : RdOk lb H kvs) (hf : H f = some (.dT kvs')) (hr : H r = some (.lst (xs.map V.int))) (hl : xs.length = lb + 1) :
    RdOk lb (upd H f (.dT (putK kvs k (.ref r)))) (putK kvs k (.ref r)) := fun j v e => by
  have ne : ∀ {q : Addr} {ys : List V}, H q = some (.lst ys) → q ≠ f := fun e z => by
    rw [z, hf] at e
    cases e
  rw [valV_put] at e
  by_cases ej : j = k
  · rw [if_pos ej] at e
    obtain rfl := Option.some.inj e
    exact ⟨r, xs, rfl, by rw [upd_ne (ne hr)]; exact hr, hl⟩
  · rw [if_neg ej] at e
    obtain ⟨q, ys, h1, h2, h3⟩ := h j v e
    exact ⟨q, ys, h1, by rw [upd_ne (ne h2)]; exact h2, h3⟩
def spRd : Sp := fun vs H Q _ => ∃ (g : Addr) (vw : V) (W : Web), vs = [vw] ∧ DV g H vw (wbD W) ∧ OkW W ∧
  ∀ (f : Addr) (kvs : List (List Key × V)) (H' : Hp), Same H H' → H f = none → H' f = some (.dT kvs) → Q (.ref f) H'
theorem sum_pos : ∀ {l : List Int} {x : Int}, (∀ y ∈ l, 1 ≤ y) → x ∈ l → x ≤ l.sum
  | [], _, _, h => by cases h
  | y :: l, x, hp, h => by
    rw [List.sum_cons]
    have h0 : 0 ≤ l.sum := by
      clear h
      induction l with
      | nil => exact Int.le_refl _
      | cons z l ih =>
        rw [List.sum_cons]
        have := hp z (by simp)
        have := ih fun w hw => hp w (by
          rcases List.mem_cons.mp hw with rfl | hw
          · exact List.mem_cons_self
          · exact List.mem_cons_of_mem _ (List.mem_cons_of_mem _ hw))
        omega
    rcases List.mem_cons.mp h with rfl | h
    · omega
    · have := sum_pos (fun w hw => hp w (List.mem_cons_of_mem _ hw)) h
      have := hp y List.mem_cons_self
      omega
theorem OkW.pl {W : Web} (o : OkW W) {n : Int × List Ed} (h : n ∈ W.ns) : n.1 ≤ 4000 := by
  have := sum_pos (l := W.ns.map (·.1)) (x := n.1) (fun y hy => by
    obtain ⟨m, hm, rfl⟩ := List.mem_map.mp hy
    exact o.pos m hm) (List.mem_map.mpr ⟨n, h, rfl⟩)
  have := o.sp
  omega
theorem rep_flat {lb : Int} (h : 0 ≤ lb) : (List.replicate (lb + 1).toNat [V.int 0]).flatten = (List.replicate (lb.toNat + 1) (0 : Int)).map V.int := by
  rw [show (lb + 1).toNat = lb.toNat + 1 by omega]
  generalize lb.toNat + 1 = m
  induction m with
  | zero => rfl
  | succ m ih => rw [List.replicate_succ, List.flatten_cons, ih, List.replicate_succ, List.map_cons]; rfl
section
variable {P : Program} {w : World} {K : PySem.W.Frag} {mg : Str → Option Value} {base : Heap}
theorem scRd : FnScope ["web", "found", "more", "at", "net", "edge", "known", "inner"] ["web"] (defScope sRd) := ⟨rfl, rfl, rfl, by decide +kernel, rfl, by decide +kernel, by decide +kernel⟩
theorem ok_rd {f : Addr} {fd : FuncData} (F : Fun K "_law_wb_roads" "_law_wb_roads" sRd f fd) (T : Bn mg) (cSum : Cl P w K mg base "_law_wb_sum" ["one", "other", "times"] 1 spSum) (cOwn : Cl P w K mg base "_law_wb_own" ["web", "edge"] 1 spOwn) :
    FnOk P w K mg base CX0 2 f fd ["web"] spRd := by
  obtain ⟨fSum, fdSum, GSum, mSum, kSum, bSum⟩ := cSum
  obtain ⟨fOwn, fdOwn, GOwn, mOwn, kOwn, bOwn⟩ := cOwn
  refine F.ok scRd (fun vs H Q E h => ?_) (fun cdv A outer s H vs Q E hr h => ?_)
  · obtain ⟨g, a, b, rfl, _⟩ := h
    rfl
  · obtain ⟨g, vw, W, rfl, hw, okw, k⟩ := h
    have hu := hu_of hr
    refine ⟨_, (pss_cons (ps_par (i := 1) (j := 2) (by rfl) scRd.nd rfl rfl (by decide) rfl rfl (pa_cons pe_dnewT (pa_cons pe_bl pa_nil)) (by rfl))
      (pss_cons (ps_for PassesOwn.never rfl (pi_enumT (by rfl) T.enu (pa_cons (pe_ix ix_tup (pv 0) pe_int (fun _ _ => rfl)) pa_nil)) (pg_tup (by rfl) (pgs_cons (pg_name (i := 3) scRd.nd rfl (Or.inl rfl)) (pgs_cons (pg_name (i := 4) scRd.nd rfl (Or.inl rfl)) pgs_nil)))
          (pss_one (ps_dput hu (pv 1) (pe_tup (pa_cons (pv 3) (pa_cons (pe_op op_sub (pe_ix ix_tup (pv 4) pe_int (fun _ _ => rfl)) pe_int) pa_nil))) (pe_op op_rep (pe_lst (pa_cons pe_int pa_nil)) (pe_op op_add (pe_ix ix_tup (pv 0) pe_int (fun _ _ => rfl)) pe_int)) rfl)))
      (pss_cons (ps_while PassesOwn.never (pt_val (pv 2))
          (pss_cons (ps_set (i := 2) scRd.nd rfl (Or.inl rfl) pe_bl)
          (pss_one (ps_for PassesOwn.never rfl (pi_enumT (by rfl) T.enu (pa_cons (pe_ix ix_tup (pv 0) pe_int (fun _ _ => rfl)) pa_nil)) (pg_tup (by rfl) (pgs_cons (pg_name (i := 3) scRd.nd rfl (Or.inl rfl)) (pgs_cons (pg_name (i := 4) scRd.nd rfl (Or.inl rfl)) pgs_nil)))
              (pss_one (ps_for PassesOwn.never rfl (pi_tup (pe_ix ix_tup (pv 4) pe_int (fun _ _ => rfl))) (pg_name (i := 5) scRd.nd rfl (Or.inl rfl))
                  (pss_mid (ps_set (i := 6) scRd.nd rfl (Or.inl rfl) (pe_and (pe_cmp (pc_din hu (pe_tup (pa_cons (pv 3) (pa_cons (pe_ix ix_tup (pv 5) pe_int (fun _ _ => rfl)) pa_nil))) (pv 1)) rfl) (pe_one (pe_or (pe_cmpR op_isN (pe_ix ix_tup (pv 5) pe_int (fun _ _ => rfl)) pe_non (nomark _)) (pe_one (pe_cmp (pc_din hu (pe_tup (pa_cons (pe_ix ix_tup (pv 5) pe_int (fun _ _ => rfl)) (pa_cons pe_int pa_nil))) (pv 1)) rfl))))))
                  (pss_one (ps_if (PW.pt (pw_and (pt_val (pv 6)) (pw_and1 (pt_cmp (pc_dnotin hu (pe_tup (pa_cons (pv 3) (pa_cons (pe_ix ix_tup (pv 5) pe_int (fun _ _ => rfl)) pa_nil))) (pv 1)))))) (pss_mid (ps_set (i := 7) scRd.nd rfl (Or.inl rfl) (pe_ifExp (pt_cmpR op_isN (pe_ix ix_tup (pv 5) pe_int (fun _ _ => rfl)) pe_non (nomark _)) (pe_op op_rep (pe_lst (pa_cons pe_int pa_nil)) (pe_op op_add (pe_ix ix_tup (pv 0) pe_int (fun _ _ => rfl)) pe_int)) (pe_dget hu (pv 1) (pe_tup (pa_cons (pe_ix ix_tup (pv 5) pe_int (fun _ _ => rfl)) (pa_cons pe_int pa_nil))) (fun _ _ => rfl))))
                      (pss_cons (ps_dput hu (pv 1) (pe_tup (pa_cons (pv 3) (pa_cons (pe_ix ix_tup (pv 5) pe_int (fun _ _ => rfl)) pa_nil))) (pe_call GSum hr (by rfl) mSum kSum bSum .nil pass0 (pa_cons (pe_call GSum hr (by rfl) mSum kSum bSum .nil pass0 (pa_cons (pe_call GOwn hr (by rfl) mOwn kOwn bOwn .nil pass0 (pa_cons (pv 0) (pa_cons (pv 5) pa_nil))) (pa_cons (pv 7) (pa_cons pe_int pa_nil)))) (pa_cons (pe_dget hu (pv 1) (pe_tup (pa_cons (pv 3) (pa_cons (pe_ix ix_tup (pv 5) pe_int (fun _ _ => rfl)) pa_nil))) (fun _ _ => rfl)) (pa_cons pe_int pa_nil)))) rfl)
                      (pss_one (ps_set (i := 2) scRd.nd rfl (Or.inl rfl) pe_bl)))) pss_nil)))))))))
      (pss_one (ps_ret (pv 1)))))), ?_⟩
    obtain ⟨b0, c0, xn, rfl, eb0, ec0, rn⟩ := wb_at hw
    have hnl : xn.length = W.ns.length := by rw [rn.len, List.length_map]
    have hlb := okw.lb
    refine fun fD hfD => ?_
    generalize hH1 : upd H fD _ = H1
    obtain ⟨sfD, efD⟩ := freshF hfD hH1
    refine ⟨_, _, rfl, ?_⟩
    refine ⟨_, rfl, b0, _, 1, _, rfl, rfl, SqT.of (sfD _ _ eb0), atI_nat (j := 1) rfl, c0, xn, rfl, SqT.of (sfD _ _ ec0), ?_⟩
    refine for_it (walk_enumT (K := K) (a := c0) (xs := xn)) (fun i σ H' => ∃ (kvs : List (List Key × V)) (v3 v4 v5 v6 v7 : Option V), σ = [some (.ref b0), some (.ref fD), some (.bl true), v3, v4, v5, v6, v7] ∧ Same H H' ∧ H' fD = some (.dT kvs) ∧ RdOk W.lb.toNat H' kvs ∧ kvs.length ≤ i)
      ⟨[], _, _, _, _, _, rfl, sfD, efD, (fun k v e => by cases e), Nat.le_refl _⟩ (fun i σ H' _ ⟨_, _, _, _, _, _, _, s, _⟩ => SqT.of (s _ _ ec0)) ?_ ?_
    · rintro i x σ H2 H2z hi ⟨kvs, v3, v4, v5, v6, v7, rfl, s2, ef2, hk2, hl2⟩ ⟨T0, x', y, rfl, hT, hH2, hx, hy⟩
      obtain rfl := Option.some.inj hx
      obtain ⟨sT, eT⟩ := freshF hT hH2.symm
      obtain ⟨dn, hdn, hyd⟩ := rn.at_ hy
      rw [List.getElem?_map] at hdn
      obtain ⟨nt, hnt, rfl⟩ := Option.map_eq_some_iff.mp hdn
      obtain ⟨b3, c3, xe, rfl, eb3, ec3, re⟩ := nt_at hyd
      have s2' := s2.trans sT
      refine ⟨T0, _, rfl, SqT.of eT, (by rfl), _, _, rfl, _, _, rfl, rfl, ?_⟩
      refine ⟨(by show 1 ≤ sizeLine; decide), fun z1 hz1 => ?_⟩
      generalize hH3 : upd H2z z1 _ = H3
      obtain ⟨sz1, ez1⟩ := freshF hz1 hH3
      have s03 := s2'.trans sz1
      refine ⟨_, rfl, b0, _, 0, _, rfl, rfl, SqT.of (s03 _ _ eb0), atI_nat (j := 0) rfl, _, _, rfl, rfl, z1, W.lb + 1, [.int 0], rfl, rfl, ez1, (by omega), (by omega), (by show 1 * (W.lb + 1).toNat ≤ sizeLine; rw [sizeLine_eq]; omega), fun z2 hz2 => ?_⟩
      generalize hH4 : upd H3 z2 _ = H4
      obtain ⟨sz2, ez2⟩ := freshF hz2 hH4
      have s04 := s03.trans sz2
      have s24 := sT.trans (sz1.trans sz2)
      rw [rep_flat hlb.1] at ez2
      refine ⟨_, rfl, _, rfl, _, rfl, b3, _, 0, _, rfl, rfl, SqT.of (s04 _ _ eb3), atI_nat (j := 0) rfl, _, _, rfl, rfl, (by show 2 ≤ sizeLine; decide), fun t ht => ?_⟩
      generalize hH5 : upd H4 t _ = H5
      obtain ⟨st, et⟩ := freshF ht hH5
      have ef5 := st _ _ (s24 _ _ ef2)
      have hil : i < W.ns.length := by rw [← hnl]; exact hi
      have hn4 := okw.n4
      refine ⟨fD, _, rfl, DPut.t (k := pK i (nt.1 - 1)) ef5 et (by rw [sizeLine_eq]; omega), ?_⟩
      refine ⟨_, _, _, _, _, _, rfl, fun b o e => ?_, upd_same, (hk2.keep (s24.trans st)).put ef5 (st _ _ ez2) List.length_replicate, ?_⟩
      · rw [upd_ne (ne_of_none e hfD)]
        exact st _ _ (s04 _ _ e)
      · have := putK_le kvs (pK i (nt.1 - 1)) (.ref z2)
        omega
    rintro σ H2 ⟨kvs0, v3, v4, v5, v6, v7, rfl, s2, ef2, hk2, hl2⟩
    refine while_m (fun m σ H' => ∃ (kvs : List (List Key × V)) (more : Bool) (v3 v4 v5 v6 v7 : Option V), σ = [some (.ref b0), some (.ref fD), some (.bl more), v3, v4, v5, v6, v7] ∧ m = 2 * ms kvs + more.toNat ∧ Same H H' ∧ H' fD = some (.dT kvs) ∧ RdOk W.lb.toNat H' kvs ∧ kvs.length + ms kvs ≤ 2000000) (2 * ms kvs0 + 1)
      ⟨kvs0, true, _, _, _, _, _, rfl, rfl, s2, ef2, hk2, by have := ms_le kvs0; have := okw.n4; omega⟩ ?_
    clear s2 ef2 hk2 hl2 kvs0 v3 v4 v5 v6 v7 H2
    rintro m σ H2 ⟨kvs, more, v3, v4, v5, v6, v7, rfl, hm, s2, ef2, hk2, hl2⟩
    refine ⟨_, rfl, _, rfl, ?_⟩
    cases more with
    | false => exact ifF rfl ⟨_, rfl, k fD kvs H2 s2 hfD ef2⟩
    | true =>
    refine ifT rfl ?_
    refine ⟨fun σ' H' => ∃ m', m' < m ∧ ∃ (kvs : List (List Key × V)) (more : Bool) (v3 v4 v5 v6 v7 : Option V), σ' = [some (.ref b0), some (.ref fD), some (.bl more), v3, v4, v5, v6, v7] ∧ m' = 2 * ms kvs + more.toNat ∧ Same H H' ∧ H' fD = some (.dT kvs) ∧ RdOk W.lb.toNat H' kvs ∧ kvs.length + ms kvs ≤ 2000000, fun σ' H' z => z, ?_⟩
    refine ⟨_, rfl, b0, _, 1, _, rfl, rfl, SqT.of (s2 _ _ eb0), atI_nat (j := 1) rfl, c0, xn, rfl, SqT.of (s2 _ _ ec0), ?_⟩
    have hm : m = 2 * ms kvs + 1 := hm
    -- one walk over all edges
    have inv : ∃ Iv : L2.St → Hp → Prop, Iv = fun σ H' => ∃ (kvs' : List (List Key × V)) (mr : Bool) (v3 v4 v5 v6 v7 : Option V), σ = [some (.ref b0), some (.ref fD), some (.bl mr), v3, v4, v5, v6, v7] ∧ Same H H' ∧ H' fD = some (.dT kvs') ∧ RdOk W.lb.toNat H' kvs' ∧ kvs'.length + ms kvs' ≤ 2000000 ∧ ms kvs' + mr.toNat ≤ ms kvs := ⟨_, rfl⟩
    obtain ⟨Iv, hIv⟩ := inv
    have mk : ∀ {σ : L2.St} {H' : Hp}, (∃ (kvs' : List (List Key × V)) (mr : Bool) (v3 v4 v5 v6 v7 : Option V), σ = [some (.ref b0), some (.ref fD), some (.bl mr), v3, v4, v5, v6, v7] ∧ Same H H' ∧ H' fD = some (.dT kvs') ∧ RdOk W.lb.toNat H' kvs' ∧ kvs'.length + ms kvs' ≤ 2000000 ∧ ms kvs' + mr.toNat ≤ ms kvs) → Iv σ H' := fun h => by rw [hIv]; exact h
    have un : ∀ {σ : L2.St} {H' : Hp}, Iv σ H' → (∃ (kvs' : List (List Key × V)) (mr : Bool) (v3 v4 v5 v6 v7 : Option V), σ = [some (.ref b0), some (.ref fD), some (.bl mr), v3, v4, v5, v6, v7] ∧ Same H H' ∧ H' fD = some (.dT kvs') ∧ RdOk W.lb.toNat H' kvs' ∧ kvs'.length + ms kvs' ≤ 2000000 ∧ ms kvs' + mr.toNat ≤ ms kvs) := fun h => by rw [hIv] at h; exact h
    clear hIv
    refine for_it (walk_enumT (K := K) (a := c0) (xs := xn)) (fun i σ H' => Iv σ H') (mk ⟨kvs, false, _, _, _, _, _, rfl, s2, ef2, hk2, hl2, Nat.le_refl _⟩) (fun i σ H' _ h => by
      obtain ⟨_, _, _, _, _, _, _, _, s, _⟩ := un h
      exact SqT.of (s _ _ ec0)) ?_ ?_
    · rintro i x σ H3 H3z hi h ⟨T0, x', y, rfl, hT, hH3, hx, hy⟩
      obtain ⟨kvs', mr, v3, v4, v5, v6, v7, rfl, s3, ef3, hk3, hl3, hms⟩ := un h
      obtain rfl := Option.some.inj hx
      obtain ⟨sT, eT⟩ := freshF hT hH3.symm
      obtain ⟨dn, hdn, hyd⟩ := rn.at_ hy
      rw [List.getElem?_map] at hdn
      obtain ⟨nt, hnt, rfl⟩ := Option.map_eq_some_iff.mp hdn
      obtain ⟨b3, c3, xe, rfl, eb3, ec3, re⟩ := nt_at hyd
      have s3' := s3.trans sT
      have hxe : xe.length = nt.2.length := by rw [re.len, List.length_map]
      refine ⟨T0, _, rfl, SqT.of eT, (by rfl), _, _, rfl, _, _, rfl, rfl, ?_⟩
      refine ⟨_, rfl, b3, _, 1, _, rfl, rfl, SqT.of (s3' _ _ eb3), atI_nat (j := 1) rfl, c3, rfl, ⟨_, SqT.of (s3' _ _ ec3)⟩, ?_⟩
      refine for_it (walk_tup (K := K) (a := c3) (xs := xe)) (fun j σ H' => Iv σ H' ∧ σ[3]? = some (some (.int (i : Nat)))) ⟨mk ⟨kvs', mr, _, _, _, _, _, rfl, s3', sT _ _ ef3, hk3.keep sT, hl3, hms⟩, rfl⟩ (fun j σ H' _ h => by
        obtain ⟨_, _, _, _, _, _, _, _, s, _⟩ := un h.1
        exact SqT.of (s _ _ ec3)) ?_ (fun σ H' h => h.1)
      clear hms hl3 hk3 ef3 s3 h v3 v4 v5 v6 v7 s3'
      rintro j x σ H4 H4z hj ⟨h, h3⟩ ⟨rfl, hx⟩
      obtain ⟨kvs', mr, v3, v4, v5, v6, v7, rfl, s4, ef4, hk4, hl4, hms⟩ := un h
      obtain rfl := Option.some.inj h3
      obtain ⟨de, hde, hxd⟩ := re.at_ hx
      rw [List.getElem?_map] at hde
      obtain ⟨e, he, rfl⟩ := Option.map_eq_some_iff.mp hde
      obtain ⟨be, ae, rfl, ebe, xl, eae, rl⟩ := ed_at hxd
      have hoe := okw.ed nt (List.mem_of_getElem? hnt) e (List.mem_of_getElem? he)
      have ebe4 := s4 _ _ ebe
      refine ⟨fun σ H' => ∃ b : Bool, σ = [some (.ref b0), some (.ref fD), some (.bl mr), some (.int (i : Nat)), v4, some (.ref be), some (.bl b), v7] ∧ Same H4z H' ∧ (b = true → (valV kvs' (pK i e.t)).isSome = true ∧ ∀ c, e.c = some c → (valV kvs' (pK c 0)).isSome = true), ?_, ?_⟩
      · refine ⟨_, rfl, _, rfl, be, _, 1, _, rfl, rfl, SqT.of ebe4, atI_nat (j := 1) rfl, (by show 2 ≤ sizeLine; decide), fun t ht => ?_⟩
        generalize hH5 : upd H4z t _ = H5
        obtain ⟨st, et⟩ := freshF ht hH5
        refine ⟨_, rfl, fD, _, rfl, DGet.t (k := pK i e.t) (st _ _ ef4) et, _, rfl, ?_⟩
        cases h1 : (valV kvs' (pK i e.t)).isSome with
        | false => exact ⟨false, rfl, st, fun h => by cases h⟩
        | true =>
          refine iteT ⟨_, rfl, be, _, 2, _, rfl, rfl, SqT.of (st _ _ ebe4), atI_nat (j := 2) rfl, rfl, _, rfl, ?_⟩
          cases hc : e.c with
          | none => exact ⟨true, rfl, st, fun _ => ⟨rfl, fun c h => by cases h⟩⟩
          | some c =>
            refine iteF ⟨_, rfl, be, _, 2, _, rfl, rfl, SqT.of (st _ _ ebe4), atI_nat (j := 2) rfl, (by show 2 ≤ sizeLine; decide), fun t2 ht2 => ?_⟩
            generalize hH6 : upd H5 t2 _ = H6
            obtain ⟨st2, et2⟩ := freshF ht2 hH6
            rw [hc] at et2
            refine ⟨_, rfl, fD, _, rfl, DGet.t (k := pK c 0) (st2 _ _ (st _ _ ef4)) et2, ?_⟩
            exact ⟨_, rfl, st.trans st2, fun h => ⟨rfl, fun c' h' => by obtain rfl := Option.some.inj h'; exact h⟩⟩
      rintro σ H5 ⟨b, rfl, s45, hb⟩
      have s05 := s4.trans s45
      have stay : ∀ (v6 v7 : Option V) (H' : Hp), Same H5 H' → Iv [some (.ref b0), some (.ref fD), some (.bl mr), some (.int (i : Nat)), v4, some (.ref be), v6, v7] H' ∧ ([some (V.ref b0), some (.ref fD), some (.bl mr), some (.int (i : Nat)), v4, some (.ref be), v6, v7] : L2.St)[3]? = some (some (.int (i : Nat))) := fun v6 v7 H' s' =>
        ⟨mk ⟨kvs', mr, _, _, _, _, _, rfl, s05.trans s', s' _ _ (s45 _ _ ef4), hk4.keep (s45.trans s'), hl4, hms⟩, rfl⟩
      refine ⟨_, rfl, _, rfl, ?_⟩
      cases b with
      | false => exact ifF rfl (ifF rfl (stay _ _ H5 (Same.refl _)))
      | true =>
      obtain ⟨hb1, hb2⟩ := hb rfl
      refine ifT rfl ?_
      refine ⟨_, rfl, _, rfl, be, _, 0, _, rfl, rfl, SqT.of (s45 _ _ ebe4), atI_nat (j := 0) rfl, (by show 2 ≤ sizeLine; decide), fun t3 ht3 => ?_⟩
      generalize hH6 : upd H5 t3 _ = H6
      obtain ⟨st3, et3⟩ := freshF ht3 hH6
      refine ⟨_, rfl, fD, _, rfl, DGet.t (k := pK i e.p) (st3 _ _ (s45 _ _ ef4)) et3, _, rfl, ?_⟩
      cases hv : valV kvs' (pK i e.p) with
      | some v => exact ifF rfl (stay _ _ H6 st3)
      | none =>
      refine ifT rfl ?_
      have s46 := s45.trans st3
      have s06 := s4.trans s46
      have ef6 := s46 _ _ ef4
      have hk6 := hk4.keep s46
      have ebe6 := s46 _ _ ebe4
      refine ⟨fun σ H' => ∃ (r : Addr) (xs : List Int), σ = [some (.ref b0), some (.ref fD), some (.bl mr), some (.int (i : Nat)), v4, some (.ref be), some (.bl true), some (.ref r)] ∧ Same H6 H' ∧ H' r = some (.lst (xs.map V.int)) ∧ xs.length = W.lb.toNat + 1, ?_, ?_⟩
      · refine ⟨_, rfl, be, _, 2, _, rfl, rfl, SqT.of ebe6, atI_nat (j := 2) rfl, rfl, _, rfl, ?_⟩
        cases hc : e.c with
        | none =>
          refine ifT rfl ⟨(by show 1 ≤ sizeLine; decide), fun z1 hz1 => ?_⟩
          generalize hH7 : upd H6 z1 _ = H7
          obtain ⟨sz1, ez1⟩ := freshF hz1 hH7
          refine ⟨_, rfl, b0, _, 0, _, rfl, rfl, SqT.of (sz1 _ _ (s06 _ _ eb0)), atI_nat (j := 0) rfl, _, _, rfl, rfl, z1, W.lb + 1, [.int 0], rfl, rfl, ez1, (by omega), (by omega), (by show 1 * (W.lb + 1).toNat ≤ sizeLine; rw [sizeLine_eq]; omega), fun z2 hz2 => ?_⟩
          generalize hH8 : upd H7 z2 _ = H8
          obtain ⟨sz2, ez2⟩ := freshF hz2 hH8
          rw [rep_flat hlb.1] at ez2
          exact ⟨z2, _, rfl, sz1.trans sz2, ez2, List.length_replicate⟩
        | some c =>
          refine ifF rfl ⟨_, rfl, _, rfl, be, _, 2, _, rfl, rfl, SqT.of ebe6, atI_nat (j := 2) rfl, (by show 2 ≤ sizeLine; decide), fun t4 ht4 => ?_⟩
          generalize hH7 : upd H6 t4 _ = H7
          obtain ⟨st4, et4⟩ := freshF ht4 hH7
          rw [hc] at et4
          obtain ⟨v, hv2⟩ := Option.isSome_iff_exists.mp (hb2 c hc)
          obtain ⟨r, xs, rfl, er, hxl⟩ := hk6 _ _ hv2
          have g := DGet.t (k := pK c 0) (st4 _ _ ef6) et4
          rw [hv2] at g
          exact ⟨fD, _, rfl, g, r, xs, rfl, st4, st4 _ _ er, hxl⟩
      rintro σ H7 ⟨r, xs, rfl, s67, er, hxl⟩
      have s47 := s46.trans s67
      have s07 := s06.trans s67
      refine ⟨_, rfl, _, rfl, g, _, _, W, e, rfl, hw.keep (Kv.of s07), hlb.1, hlb.2, hxd.keep (Kv.of (s4.trans s47)), hoe.k, fun D H8 s8 hD eD => ⟨_, rfl, D, r, own W.lb e, xs, 1, rfl, eD, s8 _ _ er, by rw [own_len, hxl], by rw [own_len]; omega, by decide, by decide, fun D2 H9 s9 hD2 eD2 => ?_⟩⟩
      refine ⟨_, rfl, _, rfl, _, rfl, be, _, 1, _, rfl, rfl, SqT.of (s9 _ _ (s8 _ _ (s67 _ _ ebe6))), atI_nat (j := 1) rfl, (by show 2 ≤ sizeLine; decide), fun t5 ht5 => ?_⟩
      generalize hHa : upd H9 t5 _ = Ha
      obtain ⟨st5, et5⟩ := freshF ht5 hHa
      have s6a := s67.trans (s8.trans (s9.trans st5))
      obtain ⟨v, hv2⟩ := Option.isSome_iff_exists.mp hb1
      obtain ⟨r2, ys, rfl, er2, hyl⟩ := hk6 _ _ hv2
      have g5 := DGet.t (k := pK i e.t) (s6a _ _ ef6) et5
      rw [hv2] at g5
      refine ⟨fD, _, rfl, g5, D2, r2, _, ys, 1, rfl, st5 _ _ eD2, s6a _ _ er2, ?_, ?_, by decide, by decide, fun D3 Hb sb hD3 eD3 => ?_⟩
      · rw [List.length_zipWith, own_len, hxl, hyl]
        omega
      · rw [List.length_zipWith, own_len, hxl]
        omega
      have s6b := s6a.trans sb
      refine ⟨_, rfl, _, rfl, _, rfl, be, _, 0, _, rfl, rfl, SqT.of (s6b _ _ ebe6), atI_nat (j := 0) rfl, (by show 2 ≤ sizeLine; decide), fun t6 ht6 => ?_⟩
      generalize hHc : upd Hb t6 _ = Hc
      obtain ⟨st6, et6⟩ := freshF ht6 hHc
      have s6c := s6b.trans st6
      have hpl := okw.pl (List.mem_of_getElem? hnt)
      have hin : i < W.ns.length := by rw [← hnl]; exact hi
      have hn4 := okw.n4
      have hmem : pK (i : Nat) e.p ∈ UK := uk_mem (by omega) (by have := hoe.p; omega)
      have hlt := ms_put (v := .ref D3) hmem hv
      refine ⟨fD, _, rfl, DPut.t (k := pK i e.p) (s6c _ _ ef6) et6 (by rw [sizeLine_eq]; omega), ?_⟩
      refine ⟨mk ⟨_, true, _, _, _, _, _, rfl, fun b o eb => ?_, upd_same, (hk6.keep s6c).put (s6c _ _ ef6) (st6 _ _ eD3) ?_, ?_, ?_⟩, rfl⟩
      · rw [upd_ne (ne_of_none eb hfD)]
        exact s6c _ _ (s06 _ _ eb)
      · rw [List.length_zipWith, List.length_zipWith, own_len, hxl, hyl]
        omega
      · have := putK_le kvs' (pK i e.p) (.ref D3)
        omega
      · show _ + 1 ≤ _
        have : ms kvs' ≤ ms kvs := by
          have := hms
          cases mr with
          | false => exact this
          | true => exact Nat.le_of_succ_le this
        omega
    · intro σ H3 h
      obtain ⟨kvs', mr, v3, v4, v5, v6, v7, rfl, s3, ef3, hk3, hl3, hms⟩ := un h
      refine ⟨2 * ms kvs' + mr.toNat, ?_, kvs', mr, _, _, _, _, _, rfl, rfl, s3, ef3, hk3, hl3⟩
      cases mr with
      | false =>
        show 2 * ms kvs' + 0 < m
        have hms : ms kvs' + 0 ≤ ms kvs := hms
        omega
      | true =>
        show 2 * ms kvs' + 1 < m
        have hms : ms kvs' + 1 ≤ ms kvs := hms
        omega
end
end K66

set_option Elab.async false
set_option linter.all false
set_option pp.maxSteps 900
set_option maxRecDepth 100000
set_option maxHeartbeats 4000000
namespace K66
open PySem PySem.Spec PyProof.Rows L2
open TL (tl)
abbrev sGE : Stmt := top 44
theorem mem_sum : ∀ {l : List Int} {x : Int}, (∀ y ∈ l, 0 ≤ y) → x ∈ l → x ≤ l.sum
  | [], _, _, h => by cases h
  | y :: l, x, hp, h => by
    rw [List.sum_cons]
    have h0 : 0 ≤ l.sum := by
      clear h
      induction l with
      | nil => exact Int.le_refl _
      | cons z l ih =>
        rw [List.sum_cons]
        have := hp z (by simp)
        have := ih fun w hw => hp w (by
          rcases List.mem_cons.mp hw with rfl | hw
          · exact List.mem_cons_self
          · exact List.mem_cons_of_mem _ (List.mem_cons_of_mem _ hw))
        omega
    rcases List.mem_cons.mp h with rfl | h
    · omega
    · have := mem_sum (fun w hw => hp w (List.mem_cons_of_mem _ hw)) h
      have := hp y List.mem_cons_self
      omega
theorem OkW.el {W : Web} (o : OkW W) {n : Int × List Ed} (h : n ∈ W.ns) : n.2.length ≤ 8000 := by
  have := mem_sum (l := W.ns.map fun n => (n.2.length : Int)) (x := (n.2.length : Int)) (fun y hy => by
    obtain ⟨m, hm, rfl⟩ := List.mem_map.mp hy
    exact Int.natCast_nonneg _) (List.mem_map.mpr ⟨n, h, rfl⟩)
  have := o.se
  omega
def spGE : Sp := fun vs H Q _ => ∃ (g rd : Addr) (vw : V) (W : Web) (at_ here : Int) (nt : Int × List Ed) (kvs : List (List Key × V)), vs = [vw, .ref rd, .int at_, .int here] ∧ DV g H vw (wbD W) ∧ OkW W ∧ 0 ≤ at_ ∧ W.ns[at_.toNat]? = some nt ∧ H rd = some (.dT kvs) ∧
  ∀ (D : Addr) (ks : List Int) (H' : Hp), Same H H' → H D = none → H' D = some (.lst (ks.map V.int)) → (∀ k ∈ ks, 0 ≤ k ∧ ∃ e, nt.2[k.toNat]? = some e ∧ e.p = here) → ks.length ≤ nt.2.length → Q (.ref D) H'
section
variable {P : Program} {w : World} {K : PySem.W.Frag} {mg : Str → Option Value} {base : Heap}
theorem scGe : FnScope ["web", "roads", "at", "here", "k", "edge"] ["web", "roads", "at", "here"] (defScope sGE) := ⟨rfl, rfl, rfl, by decide +kernel, rfl, by decide +kernel, by decide +kernel⟩
theorem ok_ge {f : Addr} {fd : FuncData} (F : Fun K "_law_good_edges" "_law_good_edges" sGE f fd) (T : Bn mg) : FnOk P w K mg base CX0 1 f fd ["web", "roads", "at", "here"] spGE := by
  refine F.ok scGe (fun vs H Q E h => ?_) (fun cdv A outer s H vs Q E hr h => ?_)
  · obtain ⟨g, rd, a, b, c, d, e, f, rfl, _⟩ := h
    rfl
  · obtain ⟨g, rd, vw, W, at_, here, nt, kvs, rfl, hw, okw, ha0, hnt, erd, k⟩ := h
    have hu := hu_of hr
    refine ⟨_, (pss_one (ps_ret (pe_lc (own := [("k", 4), ("edge", 5)]) (g := gTup K 2 (gCons (gName 4) (gCons (gName 5) gNil))) (by rfl) scGe.nd (pi_enumT (by rfl) T.enu (pa_cons (pe_ix ix_tup (pe_ix ix_tup (pe_ix ix_tup (pv 0) pe_int (fun _ _ => rfl)) (pv 2) (fun _ _ => rfl)) pe_int (fun _ _ => rfl)) pa_nil)) (blkOk_by (own := [("k", 4), ("edge", 5)]) (N := ["web", "roads", "at", "here", "k", "edge"]) (sc := defScope sGE) (by decide +kernel)) (fun _ _ _ _ _ => (pg_tup (by rfl) (pgs_cons (pg_name (i := 4) scGe.nd rfl (Or.inl rfl)) (pgs_cons (pg_name (i := 5) scGe.nd rfl (Or.inl rfl)) pgs_nil)))) (fun _ _ _ _ _ => (pts_one (PW.pt (pw_and (pt_cmpR op_eq (pe_ix (show IxR _ (rIxT K) from ix_tup) (pv 5) pe_int (fun _ _ => rfl)) (pv 3) (nomark _)) (pw_and (pt_cmp (pc_din hu (pe_tup (pa_cons (pv 2) (pa_cons (pe_ix (show IxR _ (rIxT K) from ix_tup) (pv 5) pe_int (fun _ _ => rfl)) pa_nil))) (pv 1))) (pw_and1 (PW.pt (pw_or (pt_cmpR op_isN (pe_ix (show IxR _ (rIxT K) from ix_tup) (pv 5) pe_int (fun _ _ => rfl)) pe_non (nomark _)) (pw_or1 (pt_cmp (pc_din hu (pe_tup (pa_cons (pe_ix (show IxR _ (rIxT K) from ix_tup) (pv 5) pe_int (fun _ _ => rfl)) (pa_cons pe_int pa_nil))) (pv 1)))))))))))) (fun _ _ _ _ _ => (pv 4))))), ?_⟩
    obtain ⟨b0, c0, xn, rfl, eb0, ec0, rn⟩ := wb_at hw
    obtain ⟨vnt, hvnt, hnd⟩ := rn.at' (i := at_.toNat) (d := ntD nt) (by rw [List.getElem?_map, hnt]; rfl)
    obtain ⟨b3, c3, xe, rfl, eb3, ec3, re⟩ := nt_at hnd
    have hxe : xe.length = nt.2.length := by rw [re.len, List.length_map]
    have hel := okw.el (List.mem_of_getElem? hnt)
    refine ⟨_, rfl, b0, _, 1, _, rfl, rfl, SqT.of eb0, atI_nat (j := 1) rfl, _, rfl, c0, xn, at_, _, rfl, rfl, SqT.of ec0, at_int ha0 hvnt, b3, _, 1, _, rfl, rfl, SqT.of eb3, atI_nat (j := 1) rfl, c3, xe, rfl, SqT.of ec3, fun D hD => ?_⟩
    refine lc_it (walk_enumT (K := K) (a := c3) (xs := xe)) (fun i H' => ∃ ks : List Int, H' D = some (.lst (ks.map V.int)) ∧ Same H H' ∧ ks.length ≤ i ∧ ∀ k ∈ ks, 0 ≤ k ∧ ∃ e, nt.2[k.toNat]? = some e ∧ e.p = here)
      ⟨[], upd_same, same_new hD, Nat.le_refl _, fun k h => by cases h⟩ (fun i H' _ ⟨_, _, s, _⟩ => SqT.of (s _ _ ec3)) ?_ ?_
    · rintro i x H2 H2z hi ⟨ks, e2, s2, hkl, hks⟩ ⟨T0, x', y, rfl, hT, hH2, hx, hy⟩
      obtain rfl := Option.some.inj hx
      obtain ⟨sT, eT⟩ := freshF hT hH2.symm
      obtain ⟨de, hde, hxd⟩ := re.at_ hy
      rw [List.getElem?_map] at hde
      obtain ⟨e, he, rfl⟩ := Option.map_eq_some_iff.mp hde
      obtain ⟨be, ae, rfl, ebe, xl, eae, rl⟩ := ed_at hxd
      have s2z := s2.trans sT
      have ebe2 := s2z _ _ ebe
      refine ⟨T0, _, rfl, SqT.of eT, (by rfl), _, _, rfl, _, _, rfl, rfl, (by rfl), ?_⟩
      have st0 : ∀ H3, Same H2z H3 → ∃ ks : List Int, H3 D = some (.lst (ks.map V.int)) ∧ Same H H3 ∧ ks.length ≤ i + 1 ∧ ∀ k ∈ ks, 0 ≤ k ∧ ∃ e, nt.2[k.toNat]? = some e ∧ e.p = here :=
        fun H3 s3 => ⟨ks, s3 _ _ (sT _ _ e2), s2z.trans s3, by omega, hks⟩
      have st1 : ∀ H3, Same H2z H3 → e.p = here → ∃ acc, H3 D = some (HO.lst acc) ∧ acc.length < sizeLine ∧ ∃ ks : List Int, (upd H3 D (.lst (acc ++ [V.int (i : Nat)]))) D = some (.lst (ks.map V.int)) ∧ Same H (upd H3 D (.lst (acc ++ [V.int (i : Nat)]))) ∧ ks.length ≤ i + 1 ∧ ∀ k ∈ ks, 0 ≤ k ∧ ∃ e, nt.2[k.toNat]? = some e ∧ e.p = here := by
        intro H3 s3 hb
        refine ⟨_, s3 _ _ (sT _ _ e2), by rw [List.length_map, sizeLine_eq]; omega, ks ++ [((i : Nat) : Int)], by rw [upd_same, List.map_append]; rfl, fun b o eb => by rw [upd_ne (ne_of_none eb hD)]; exact s3 _ _ (s2z _ _ eb), by rw [List.length_append]; show ks.length + 1 ≤ _; omega, fun k hk => ?_⟩
        rcases List.mem_append.mp hk with hk | hk
        · exact hks k hk
        · rw [List.mem_singleton.mp hk]
          exact ⟨Int.natCast_nonneg _, e, by rw [Int.toNat_natCast]; exact he, hb⟩
      refine ⟨_, rfl, be, _, 0, _, rfl, rfl, SqT.of ebe2, atI_nat (j := 0) rfl, _, rfl, rfl, _, rfl, ?_⟩
      by_cases hp : e.p = here
      · refine ifT (by rw [hp]; exact decide_eq_true rfl) ?_
        refine ⟨_, rfl, _, rfl, be, _, 1, _, rfl, rfl, SqT.of ebe2, atI_nat (j := 1) rfl, (by show 2 ≤ sizeLine; decide), fun t ht => ?_⟩
        generalize hH3 : upd H2z t _ = H3
        obtain ⟨st, et⟩ := freshF ht hH3
        refine ⟨_, rfl, rd, _, rfl, DGet.t (k := pK at_ e.t) (st _ _ (s2z _ _ erd)) et, _, rfl, ?_⟩
        cases h1 : (valV kvs (pK at_ e.t)).isSome with
        | false => exact ifF rfl (ifF rfl (st0 _ st))
        | true =>
          refine ifT rfl ?_
          refine ⟨_, rfl, be, _, 2, _, rfl, rfl, SqT.of (st _ _ ebe2), atI_nat (j := 2) rfl, rfl, _, rfl, ?_⟩
          cases hc : e.c with
          | none => exact ifT rfl (ifT rfl ⟨_, rfl, st1 _ st hp⟩)
          | some c =>
            refine ifF rfl ⟨_, rfl, be, _, 2, _, rfl, rfl, SqT.of (st _ _ ebe2), atI_nat (j := 2) rfl, (by show 2 ≤ sizeLine; decide), fun t2 ht2 => ?_⟩
            generalize hH4 : upd H3 t2 _ = H4
            obtain ⟨st2, et2⟩ := freshF ht2 hH4
            rw [hc] at et2
            refine ⟨_, rfl, rd, _, rfl, DGet.t (k := pK c 0) (st2 _ _ (st _ _ (s2z _ _ erd))) et2, _, rfl, ?_⟩
            cases h2 : (valV kvs (pK c 0)).isSome with
            | false => exact ifF rfl (st0 _ (st.trans st2))
            | true => exact ifT rfl ⟨_, rfl, st1 _ (st.trans st2) hp⟩
      · exact ifF (decide_eq_false (fun h => hp (by injection h))) (ifF rfl (st0 _ (Same.refl _)))
    · rintro H2 ⟨ks, e2, s2, hkl, hks⟩
      exact k D ks H2 s2 hD e2 hks (by omega)
end
end K66

set_option Elab.async false
set_option linter.all false
set_option pp.maxSteps 900
set_option maxRecDepth 100000
set_option maxHeartbeats 4000000
namespace K66
open PySem PySem.Spec PyProof.Rows L2
open TL (tl)
abbrev sDW : Stmt := top 45
theorem pbL_snoc {es : List Ed} {ws : List Dt} {known : Nat} (s : Dt) : ∀ (ss : List Dt) (pl : Int), pbL es ws known (ss ++ [s]) pl = (pbL es ws known ss pl).bind fun t => stepE es ws known t s
  | [], pl => by
    show (stepE es ws known pl s).bind (pbL es ws known []) = _
    show _ = stepE es ws known pl s
    cases stepE es ws known pl s <;> rfl
  | a :: ss, pl => by
    show (stepE es ws known pl a).bind (pbL es ws known (ss ++ [s])) = ((stepE es ws known pl a).bind (pbL es ws known ss)).bind _
    cases stepE es ws known pl a with
    | none => rfl
    | some t => exact pbL_snoc s ss t
def spDW : Sp := fun vs H Q _ => ∃ (d g c rd wa : Addr) (n : Nat) (vw : V) (W : Web) (at_ : Int) (nt : Int × List Ed) (kvs : List (List Key × V)) (xs : List V) (ws : List Dt), vs = [.ref d, vw, .ref rd, .int at_, .ref wa] ∧ StA H d g c n ∧ n ≤ 800000000 ∧ DV g H vw (wbD W) ∧ OkW W ∧
  0 ≤ at_ ∧ W.ns[at_.toNat]? = some nt ∧ H rd = some (.dT kvs) ∧ H wa = some (.lst xs) ∧ wa ≠ g ∧ DVs g H xs ws ∧ ws.length ≤ 100 ∧ (∀ w ∈ ws, ∃ (m : Int) (sd : Dt), w = .tup [.int m, sd]) ∧
  (∀ H', StA H' d g c (n + 100) → Kp d g H H' → Q .non H') ∧
  (∀ (p : Addr) (ss : List Dt) (H' : Hp), StA H' d g c (n + 100) → Kp d g H H' → (∀ g', DV g' H' (.ref p) (.tup [.int at_, .tup ss])) → purs ss = true → pbL nt.2 ws ws.length ss 0 = some (nt.1 - 1) → ss.length ≤ 30 → Q (.ref p) H')
theorem mem_cutV {xs : List V} {a b : Option Int} {v : V} (h : v ∈ cutV xs a b) : v ∈ xs := by
  unfold cutV at h
  exact List.mem_of_mem_drop (List.mem_of_mem_take h)
theorem inner_of {known : Nat} {ws : List Dt} {c : Int} {k j : Int} {sd : Dt} (h0 : 0 ≤ j) (h1 : j.toNat < known) (h : ws[j.toNat]? = some (.tup [.int c, sd])) : inner known ws c (.tup [.int k, .int j]) = true := by
  show (decide (0 ≤ j ∧ j ≤ (known : Int) - 1) && (match ws[j.toNat]? with
    | some (.tup [.int n, _]) => decide (n = c)
    | _ => false)) = true
  rw [h, decide_eq_true (show 0 ≤ j ∧ j ≤ (known : Int) - 1 by omega)]
  show (true && decide (c = c)) = true
  rw [decide_eq_true rfl] <;> rfl
theorem stepE_plain {es : List Ed} {ws : List Dt} {known : Nat} {pl k : Int} {e : Ed} (h0 : 0 ≤ k) (he : es[k.toNat]? = some e) (hp : e.p = pl) (hc : e.c = none) : stepE es ws known pl (.int k) = some e.t := by
  have hk := (List.getElem?_eq_some_iff.mp he).1
  show (if 0 ≤ k ∧ k ≤ (es.length : Int) - 1 then _ else none : Option Int) = _
  rw [if_pos (by omega), he]
  show (if e.p = pl then _ else none : Option Int) = _
  rw [if_pos hp, hc] <;> rfl
theorem stepE_call {es : List Ed} {ws : List Dt} {known : Nat} {pl k j c : Int} {e : Ed} (h0 : 0 ≤ k) (he : es[k.toNat]? = some e) (hp : e.p = pl) (hc : e.c = some c) (hi : inner known ws c (.tup [.int k, .int j]) = true) : stepE es ws known pl (.tup [.int k, .int j]) = some e.t := by
  have hk := (List.getElem?_eq_some_iff.mp he).1
  show (if 0 ≤ k ∧ k ≤ (es.length : Int) - 1 then _ else none : Option Int) = _
  rw [if_pos (by omega), he]
  show (if e.p = pl then _ else none : Option Int) = _
  rw [if_pos hp, hc]
  show (if inner known ws c (.tup [.int k, .int j]) = true then some e.t else none) = _
  rw [if_pos hi]
section
variable {P : Program} {w : World} {K : PySem.W.Frag} {mg : Str → Option Value} {base : Heap}
theorem scDw : FnScope ["state", "web", "roads", "at", "words", "here", "steps", "lap", "some", "k", "call", "edge", "known", "word", "spot"] ["state", "web", "roads", "at", "words"] (defScope sDW) := ⟨rfl, rfl, rfl, by decide +kernel, rfl, by decide +kernel, by decide +kernel⟩
theorem ok_dw {f : Addr} {fd : FuncData} (F : Fun K "_law_drawn_word" "_law_drawn_word" sDW f fd) (T : Bn mg) (cP : Cl P w K mg base "_law_pick" ["state", "some"] 3 spPck) (cGE : Cl P w K mg base "_law_good_edges" ["web", "roads", "at", "here"] 1 spGE) :
    FnOk P w K mg base CX0 4 f fd ["state", "web", "roads", "at", "words"] spDW := by
  obtain ⟨fP, fdP, GP, mP, kP, bP⟩ := cP
  obtain ⟨fGE, fdGE, GGE, mGE, kGE, bGE⟩ := cGE
  refine F.ok scDw (fun vs H Q E h => ?_) (fun cdv A outer s H vs Q E hr h => ?_)
  · obtain ⟨a1, a2, a3, a4, a5, a6, a7, a8, a9, b1, b2, b3, b4, rfl, _⟩ := h
    rfl
  · obtain ⟨d, g, c, rd, wa, n, vw, W, at_, nt, kvs, xs, ws, rfl, S, hn, hw, okw, ha0, hnt, erd, ewa, nwg, hws, hwl, hsh, k1, k2⟩ := h
    have hu := hu_of hr
    have hr1 : Room 1 _ := hr.mono (by decide)
    refine ⟨_, (pss_cons (ps_par (i := 5) (j := 6) (by rfl) scDw.nd rfl rfl (by decide) rfl rfl (pa_cons pe_int (pa_cons (pe_lst pa_nil) pa_nil)) (by rfl))
      (pss_cons (ps_for PassesOwn.never rfl (pi_range1 (by rfl) T.rng (pa_cons pe_int pa_nil)) (pg_name (i := 7) scDw.nd rfl (Or.inl rfl))
          (pss_cons (ps_if (pt_cmpR op_eq (pv 5) (pe_op op_sub (pe_ix ix_tup (pe_ix ix_tup (pe_ix ix_tup (pv 1) pe_int (fun _ _ => rfl)) (pv 3) (fun _ _ => rfl)) pe_int (fun _ _ => rfl)) pe_int) (nomark _)) (pss_one (ps_ret (pe_tup (pa_cons (pv 3) (pa_cons (pe_callTy call_tuple_of (by rfl) T.tpl (by decide +kernel) (pa_cons (pv 6) pa_nil)) pa_nil))))) pss_nil)
          (pss_cons (ps_set (i := 8) scDw.nd rfl (Or.inl rfl) (pe_lst pa_nil))
          (pss_cons (ps_for PassesOwn.never rfl (pi_list (pe_call GGE hr1 (by rfl) mGE kGE bGE .nil pass0 (pa_cons (pv 1) (pa_cons (pv 2) (pa_cons (pv 3) (pa_cons (pv 5) pa_nil)))))) (pg_name (i := 9) scDw.nd rfl (Or.inl rfl))
              (pss_cons (ps_set (i := 10) scDw.nd rfl (Or.inr rfl) (pe_ix ix_tup (pe_ix ix_tup (pe_ix ix_tup (pe_ix ix_tup (pe_ix ix_tup (pv 1) pe_int (fun _ _ => rfl)) (pv 3) (fun _ _ => rfl)) pe_int (fun _ _ => rfl)) (pv 9) (fun _ _ => rfl)) pe_int (fun _ _ => rfl)))
              (pss_one (ps_if (PW.pt (pw_or (pt_cmpR op_isN (pv 10) pe_non (nomark _)) (pw_or1 (pt_cmpR (op_neNil hr.units) (pe_lc (own := [("word", 13)]) (g := gName 13) (by rfl) scDw.nd (pi_list (pv 4)) (blkOk_by (own := [("word", 13)]) (N := ["state", "web", "roads", "at", "words", "here", "steps", "lap", "some", "k", "call", "edge", "known", "word", "spot"]) (sc := defScope sDW) (by decide +kernel)) (fun _ _ _ _ _ => (pg_name (i := 13) scDw.nd rfl (Or.inl rfl))) (fun _ _ _ _ _ => (pts_one (pt_cmpR op_eq (pe_ix (show IxR _ (rIxT K) from ix_tup) (pv 13) pe_int (fun _ _ => rfl)) (pv 10) (nomark _)))) (fun _ _ _ _ _ => pe_int)) (pe_lst pa_nil) (nomark _))))) (pss_one (ps_expr (qApp (pv 8) (pv 9)))) pss_nil))))
          (pss_cons (ps_if (pt_cmpR (op_eqNil hr.units) (pv 8) (pe_lst pa_nil) (nomark _)) (pss_one (ps_ret pe_non)) pss_nil)
          (pss_cons (ps_set (i := 9) scDw.nd rfl (Or.inl rfl) (pe_call GP hr (by rfl) mP kP bP .nil pass0 (pa_cons (pv 0) (pa_cons (pv 8) pa_nil))))
          (pss_cons (ps_set (i := 11) scDw.nd rfl (Or.inr rfl) (pe_ix ix_tup (pe_ix ix_tup (pe_ix ix_tup (pe_ix ix_tup (pv 1) pe_int (fun _ _ => rfl)) (pv 3) (fun _ _ => rfl)) pe_int (fun _ _ => rfl)) (pv 9) (fun _ _ => rfl)))
          (pss_mid (ps_if (pt_cmpR op_isN (pe_ix ix_tup (pv 11) pe_int (fun _ _ => rfl)) pe_non (nomark _)) (pss_one (ps_expr (qApp (pv 6) (pv 9)))) (pss_cons (ps_setLc (i := 12) (own := [("spot", 14), ("word", 13)]) (g := gTup K 2 (gCons (gName 14) (gCons (gName 13) gNil))) (by rfl) scDw.nd rfl rfl (sw_true rfl rfl rfl (by decide +kernel)) (pi_enum (by rfl) T.enu (pa_cons (pv 4) pa_nil)) (blkOk_by (own := [("spot", 14), ("word", 13)]) (N := ["state", "web", "roads", "at", "words", "here", "steps", "lap", "some", "k", "call", "edge", "known", "word", "spot"]) (sc := defScope sDW) (by decide +kernel)) (fun _ _ _ _ _ => (pg_tup (by rfl) (pgs_cons (pg_name (i := 14) scDw.nd rfl (Or.inl rfl)) (pgs_cons (pg_name (i := 13) scDw.nd rfl (Or.inl rfl)) pgs_nil)))) (fun _ _ _ _ _ => (pts_one (pt_cmpR op_eq (pe_ix (show IxR _ (rIxT K) from ix_tup) (pv 13) pe_int (fun _ _ => rfl)) (pe_ix (show IxR _ (rIxT K) from ix_tup) (pv 11) pe_int (fun _ _ => rfl)) (nomark _)))) (fun _ _ _ _ _ => (pv 14)))
              (pss_one (ps_expr (qApp (pv 6) (pe_tup (pa_cons (pv 9) (pa_cons (pe_call GP hr (by rfl) mP kP bP .nil pass0 (pa_cons (pv 0) (pa_cons (pe_op op_cat (pv 12) (pe_op op_rep (pe_slice sl_list (pv 12) (po_some (pe_un un_neg pe_int)) po_none) pe_int)) pa_nil))) pa_nil))))))))
          (pss_one (ps_set (i := 5) scDw.nd rfl (Or.inl rfl) (pe_ix ix_tup (pv 11) pe_int (fun _ _ => rfl))))))))))))
      (pss_one (ps_ret pe_non)))), ?_⟩
    obtain ⟨b0, c0, xn, rfl, eb0, ec0, rn⟩ := wb_at hw
    obtain ⟨vnt, hvnt, hnd⟩ := rn.at' (i := at_.toNat) (d := ntD nt) (by rw [List.getElem?_map, hnt]; rfl)
    obtain ⟨b3, c3, xe, rfl, eb3, ec3, re⟩ := nt_at hnd
    have hxe : xe.length = nt.2.length := by rw [re.len, List.length_map]
    have hel := okw.el (List.mem_of_getElem? hnt)
    have nwd : wa ≠ d := by
      obtain ⟨r, tt, gs, cs, S⟩ := S
      exact ne_of ewa S.dk (by intro z; cases z)
    have nrd : rd ≠ d ∧ rd ≠ g := by
      obtain ⟨r, tt, gs, cs, S⟩ := S
      refine ⟨fun z => ?_, ne_of erd S.gl (by intro z; cases z)⟩
      rw [z, S.dk] at erd
      have q := Option.some.inj erd
      unfold StKV at q
      cases q
    have hxl := hws.len
    -- what stays through draws
    have tup : ∀ {H' : Hp}, Kp d g H H' → ∀ {b : Addr} {ys : List V}, H b = some (.tup ys) → H' b = some (.tup ys) := by
      intro H' kp b ys e
      exact (Kv.kp S kp).tup _ _ e
    refine ⟨Nat.zero_le _, fun sp hsp => ?_⟩
    generalize hH1 : upd H sp _ = H1
    obtain ⟨ssp, esp⟩ := freshF hsp hH1
    have fsp := S.free hsp
    refine ⟨_, _, rfl, ?_⟩
    refine ⟨30, rfl, by decide, by decide, ?_⟩
    refine for_it (walk_range (lo := 0) (n := (30 : Int).toNat)) (fun i σ H' => ∃ (here : Int) (ss : List Dt) (ys : List V) (v7 v8 v9 va vb vc vd ve : Option V), σ = [some (.ref d), some (.ref b0), some (.ref rd), some (.int at_), some (.ref wa), some (.int here), some (.ref sp), v7, v8, v9, va, vb, vc, vd, ve] ∧ StA H' d g c (n + 2 * i) ∧ Kp d g H H' ∧
        H' sp = some (.lst ys) ∧ (∀ g', DVs g' H' ys ss) ∧ purs ss = true ∧ ss.length = i ∧ pbL nt.2 ws ws.length ss 0 = some here)
      ⟨0, [], [], _, _, _, _, _, _, _, _, rfl, S.keep ssp, Kp.of ssp, esp, fun g' => .nil, rfl, rfl, rfl⟩ (fun _ _ _ _ _ => trivial) ?_ ?_
    · rintro i x σ H2 H2z hi ⟨here, ss, ys, v7, v8, v9, va, vb, vc, vd, ve, rfl, S2, kp2, e2, hys, hpu, hsl, hpb⟩ ⟨rfl, rfl⟩
      have hi : i < 30 := hi
      refine ⟨_, rfl, _, rfl, b0, _, 1, _, rfl, rfl, SqT.of (tup kp2 eb0), atI_nat (j := 1) rfl, _, rfl, c0, xn, at_, _, rfl, rfl, SqT.of (tup kp2 ec0), at_int ha0 hvnt, b3, _, 0, _, rfl, rfl, SqT.of (tup kp2 eb3), atI_nat (j := 0) rfl, _, _, rfl, rfl, rfl, _, rfl, ?_⟩
      by_cases hh : here = nt.1 - 1
      · refine ifT (by rw [hh]; exact decide_eq_true rfl) ?_
        refine ⟨_, rfl, _, rfl, sp, _, rfl, .inl ⟨SqL.of e2, fun l hl => ?_⟩⟩
        generalize hH3 : upd H2z l _ = H3
        obtain ⟨sl, el⟩ := freshF hl hH3
        refine ⟨(by show 2 ≤ sizeLine; decide), fun t ht => ?_⟩
        generalize hH4 : upd H3 t _ = H4
        obtain ⟨st, et⟩ := freshF ht hH4
        have s24 := sl.trans st
        refine k2 t ss H4 ((S2.keep s24).mono (by omega)) (kp2.trans (Kp.of s24)) (fun g' => .tup et (by show 2 ≤ 20000; decide) (.cons (.int _) (.cons (.tup (st _ _ el) (by omega) ((hys g').keep (Kv.of s24))) .nil))) hpu (by rw [hpb, hh]) (by omega)
      refine ifF (decide_eq_false (fun h => hh (by injection h))) ?_
      refine ⟨Nat.zero_le _, fun z hz => ?_⟩
      generalize hH3 : upd H2z z _ = H3
      obtain ⟨sz, ez⟩ := freshF hz hH3
      have fz := S2.free hz
      have S3 := S2.keep sz
      have kp3 := kp2.trans (Kp.of sz)
      have e3 := sz _ _ e2
      have nsz : sp ≠ z := ne_of_none e2 hz
      refine ⟨_, rfl, _, rfl, _, rfl, _, rfl, g, rd, _, W, at_, here, nt, kvs, rfl, hw.keep (Kv.kp S kp3), okw, ha0, hnt, kp3 _ _ erd nrd.1 nrd.2, fun D ks H4 s4 hD eD hks hkl => ?_⟩
      have ez4 := s4 _ _ ez
      have nDz : D ≠ z := (ne_of_none ez hD).symm
      have S4 := S3.keep s4
      have kp4 := kp3.trans (Kp.of s4)
      refine ⟨D, rfl, ⟨_, SqL.of eD⟩, ?_⟩
      refine for_it (walk_list (K := K) (a := D) (xs := ks.map V.int)) (fun j σ H' => ∃ (so : List Int) (v9 va vd : Option V), σ = [some (.ref d), some (.ref b0), some (.ref rd), some (.int at_), some (.ref wa), some (.int here), some (.ref sp), some (.int (0 + (i : Nat))), some (.ref z), v9, va, vb, vc, vd, ve] ∧
          (∀ b o, H4 b = some o → b ≠ z → H' b = some o) ∧ StA H' d g c (n + 2 * i) ∧ H' z = some (.lst (so.map V.int)) ∧ so.length ≤ j ∧ ∀ k ∈ so, 0 ≤ k ∧ ∃ e, nt.2[k.toNat]? = some e ∧ e.p = here ∧ ∀ c, e.c = some c → ∃ (j : Nat) (sd : Dt), ws[j]? = some (.tup [.int c, sd]))
        ⟨[], _, _, _, rfl, fun b o e _ => e, S4, ez4, Nat.le_refl _, fun k h => by cases h⟩ (fun j σ H' _ ⟨_, _, _, _, _, hk, _⟩ => SqL.of (hk _ _ eD nDz)) ?_ ?_
      · rintro j x σ H5 H5z hj ⟨so, v9, va, vd, rfl, hk5, S5, ez5, hsol, hso⟩ ⟨rfl, hx⟩
        rw [List.getElem?_map] at hx
        obtain ⟨k, hkk, rfl⟩ := Option.map_eq_some_iff.mp hx
        obtain ⟨k0, e, he, hp⟩ := hks k (List.mem_of_getElem? hkk)
        obtain ⟨vx, hve, hed⟩ := re.at' (i := k.toNat) (d := edD e) (by rw [List.getElem?_map, he]; rfl)
        obtain ⟨be, ae, rfl, ebe, xl, eae, rl⟩ := ed_at hed
        have tup5 : ∀ {b : Addr} {ys : List V}, H b = some (.tup ys) → H5z b = some (.tup ys) := by
          intro b ys e
          have e4 := tup kp4 e
          exact hk5 _ _ e4 (fun h => by rw [h, ez4] at e4; cases e4)
        have hjl := (List.getElem?_eq_some_iff.mp hkk).1
        have fin : ∀ (H6 : Hp), Same H5z H6 → (∀ c, e.c = some c → ∃ (j : Nat) (sd : Dt), ws[j]? = some (.tup [.int c, sd])) → (∀ b o, H4 b = some o → b ≠ z → (upd H6 z (.lst (so.map V.int ++ [V.int k]))) b = some o) ∧ StA (upd H6 z (.lst (so.map V.int ++ [V.int k]))) d g c (n + 2 * i) ∧ (upd H6 z (.lst (so.map V.int ++ [V.int k]))) z = some (.lst ((so ++ [k]).map V.int)) ∧ (so ++ [k]).length ≤ j + 1 ∧
            ∀ k' ∈ so ++ [k], 0 ≤ k' ∧ ∃ e, nt.2[k'.toNat]? = some e ∧ e.p = here ∧ ∀ c, e.c = some c → ∃ (j : Nat) (sd : Dt), ws[j]? = some (.tup [.int c, sd]) := by
          intro H6 s6 hc
          refine ⟨fun b o eb nb => by rw [upd_ne nb]; exact s6 _ _ (hk5 _ _ eb nb), (S5.keep s6).upF fz.1 fz.2.1 fz.2.2, by rw [upd_same, List.map_append] <;> rfl, by rw [List.length_append]; show so.length + 1 ≤ _; omega, fun k' hk' => ?_⟩
          rcases List.mem_append.mp hk' with hk' | hk'
          · exact hso k' hk'
          · rw [List.mem_singleton.mp hk']
            exact ⟨k0, e, he, hp, hc⟩
        have hsz : (so.map V.int).length < sizeLine := by
          rw [List.length_map, sizeLine_eq]
          omega
        refine ⟨_, rfl, b0, _, 1, _, rfl, rfl, SqT.of (tup5 eb0), atI_nat (j := 1) rfl, _, rfl, c0, xn, at_, _, rfl, rfl, SqT.of (tup5 ec0), at_int ha0 hvnt, b3, _, 1, _, rfl, rfl, SqT.of (tup5 eb3), atI_nat (j := 1) rfl, _, rfl, c3, xe, k, _, rfl, rfl, SqT.of (tup5 ec3), at_int k0 hve, be, _, 2, _, rfl, rfl, SqT.of (tup5 ebe), atI_nat (j := 2) rfl, ?_⟩
        refine ⟨_, rfl, rfl, _, rfl, ?_⟩
        cases hc : e.c with
        | none => exact ifT rfl (ifT rfl ⟨_, rfl, .inl ⟨rfl, _, SqL.of ez5⟩, _, rfl, z, _, _, rfl, rfl, ez5, hsz, so ++ [k], _, _, _, rfl, fin H5z (Same.refl _) (fun c h => by rw [hc] at h; cases h)⟩)
        | some c' =>
          refine ifF rfl ?_
          have ewa5 : H5z wa = some (.lst xs) := by
            have e4 := kp4 _ _ ewa nwd nwg
            refine hk5 _ _ e4 (fun h => ?_)
            have e2' := kp2 _ _ ewa nwd nwg
            rw [h, hz] at e2'
            cases e2'
          refine ⟨_, rfl, wa, rfl, ⟨_, SqL.of ewa5⟩, fun L hL => ?_⟩
          refine lc_it (walk_list (K := K) (a := wa) (xs := xs)) (fun j' H' => ∃ acc : List V, H' L = some (.lst acc) ∧ Same H5z H' ∧ acc.length ≤ j' ∧ (acc ≠ [] → ∃ (j : Nat) (sd : Dt), ws[j]? = some (.tup [.int c', sd])))
            ⟨[], upd_same, same_new hL, Nat.le_refl _, fun h => absurd rfl h⟩ (fun _ _ _ ⟨_, _, s, _⟩ => SqL.of (s _ _ ewa5)) ?_ ?_
          · rintro j' x H6 H6z hj' ⟨acc, eL, s6, hal, hac⟩ ⟨rfl, hx'⟩
            obtain ⟨wd, hwd, hxd⟩ := hws.at_ hx'
            obtain ⟨m, sd, rfl⟩ := hsh wd (List.mem_of_getElem? hwd)
            obtain ⟨bw, vm, vs', rfl, ebw, hvm, _⟩ := hxd.tup2
            obtain rfl := hvm.int_inv
            refine ⟨(by rfl), ⟨_, rfl, bw, _, 0, _, rfl, rfl, SqT.of (s6 _ _ (tup5 ebw)), atI_nat (j := 0) rfl, _, rfl, rfl, _, rfl, ?_⟩⟩
            by_cases hm : m = c'
            · refine ifT (by rw [hm]; exact decide_eq_true rfl) ?_
              refine ⟨acc, eL, by rw [sizeLine_eq]; omega, acc ++ [V.int 1], upd_same, fun b o eb => by rw [upd_ne (ne_of_none eb hL)]; exact s6 _ _ eb, by rw [List.length_append]; show acc.length + 1 ≤ _; omega, fun _ => ⟨j', sd, by rw [hwd, hm]⟩⟩
            · refine ifF (decide_eq_false (fun h => hm (by injection h))) ?_
              exact ⟨acc, eL, s6, by omega, hac⟩
          · rintro H6 ⟨acc, eL, s6, hal, hac⟩
            refine ⟨Nat.zero_le _, fun e0 he0 => ?_⟩
            generalize hH7 : upd H6 e0 _ = H7
            obtain ⟨se0, ee0⟩ := freshF he0 hH7
            refine ⟨L, e0, acc, rfl, rfl, SqL.of (se0 _ _ eL), SqL.of ee0, _, rfl, ?_⟩
            have s57 := s6.trans se0
            cases acc with
            | nil => exact ifF rfl ⟨so, _, _, _, rfl, fun b o eb nb => s57 _ _ (hk5 _ _ eb nb), S5.keep s57, s57 _ _ ez5, by omega, hso⟩
            | cons a0 acc0 =>
              refine ifT rfl ⟨_, rfl, .inl ⟨rfl, _, SqL.of (s57 _ _ ez5)⟩, _, rfl, z, _, _, rfl, rfl, s57 _ _ ez5, hsz, so ++ [k], _, _, _, rfl, fin H7 s57 (fun c h => ?_)⟩
              rw [hc] at h
              obtain rfl := Option.some.inj h
              exact hac (by simp)
      · rintro σ H5 ⟨so, v9, va, vd, rfl, hk5, S5, ez5, hsol, hso⟩
        have kp5 : Kp d g H H5 := fun b o eb h1 h2 => by
          have e2' := kp2 _ _ eb h1 h2
          exact hk5 _ _ (s4 _ _ (sz _ _ e2')) (ne_of_none e2' hz)
        refine ⟨_, rfl, Nat.zero_le _, fun e0 he0 => ?_⟩
        generalize hH6 : upd H5 e0 _ = H6
        obtain ⟨se0, ee0⟩ := freshF he0 hH6
        refine ⟨z, e0, _, rfl, rfl, SqL.of (se0 _ _ ez5), SqL.of ee0, _, rfl, ?_⟩
        have kp6 := kp5.trans (Kp.of se0)
        have S6 := S5.keep se0
        rw [List.length_map] at hsol
        cases hso0 : so with
        | nil => exact ifT rfl (k1 H6 (S6.mono (by omega)) kp6)
        | cons q0 so0 =>
        rw [hso0] at ez5 hso hsol
        refine ifF rfl ?_
        refine ⟨_, rfl, _, rfl, d, g, c, z, _, _, rfl, S6, by omega, se0 _ _ ez5, fz.2.1, by simp, by rw [List.length_map]; omega, fun v H7 hv S7 kp7 => ?_⟩
        obtain ⟨k, hkm, rfl⟩ := List.mem_map.mp hv
        obtain ⟨k0, e, he, hp, hce⟩ := hso k hkm
        obtain ⟨vx, hve, hed⟩ := re.at' (i := k.toNat) (d := edD e) (by rw [List.getElem?_map, he]; rfl)
        obtain ⟨be, ae, rfl, ebe, xl, eae, rl⟩ := ed_at hed
        have kp07 := kp6.trans kp7
        have kt27 : Kt H2z H7 := fun b ys' eb => by
          have e4 := s4 _ _ (sz _ _ eb)
          have e5 := hk5 _ _ e4 (ne_of_none eb hz)
          exact (Kv.kp S6 kp7).tup _ _ (se0 _ _ e5)
        have esp7 : H7 sp = some (.lst ys) := kp7 _ _ (se0 _ _ (hk5 _ _ (s4 _ _ e3) nsz)) fsp.1 fsp.2.1
        have hys7 : ∀ g', DVs g' H7 ys ss := fun g' => (hys g').keepP kt27 hpu
        have hyl := (hys g).len
        refine ⟨_, rfl, b0, _, 1, _, rfl, rfl, SqT.of (tup kp07 eb0), atI_nat (j := 1) rfl, _, rfl, c0, xn, at_, _, rfl, rfl, SqT.of (tup kp07 ec0), at_int ha0 hvnt, b3, _, 1, _, rfl, rfl, SqT.of (tup kp07 eb3), atI_nat (j := 1) rfl, _, rfl, c3, xe, k, _, rfl, rfl, SqT.of (tup kp07 ec3), at_int k0 hve, ?_⟩
        refine ⟨fun σ H' => ∃ (s : Dt) (ys' : List V) (vc vd ve : Option V), σ = [some (.ref d), some (.ref b0), some (.ref rd), some (.int at_), some (.ref wa), some (.int here), some (.ref sp), some (.int (0 + (i : Nat))), some (.ref z), some (.int k), va, some (.ref be), vc, vd, ve] ∧ StA H' d g c (n + 2 * (i + 1)) ∧ Kp d g H H' ∧
            H' sp = some (.lst ys') ∧ (∀ g', DVs g' H' ys' (ss ++ [s])) ∧ pur s = true ∧ stepE nt.2 ws ws.length here s = some e.t, ?_, ?_⟩
        rotate_left
        · rintro σ H8 ⟨s, ys', vc, vd, ve, rfl, S8, kp8, esp8, hys8, hps, hst⟩
          refine ⟨_, rfl, be, _, 1, _, rfl, rfl, SqT.of (tup kp8 ebe), atI_nat (j := 1) rfl, ?_⟩
          refine ⟨e.t, ss ++ [s], ys', _, _, _, _, _, _, _, _, rfl, S8, kp8, esp8, hys8, ?_, by rw [List.length_append, hsl]; rfl, ?_⟩
          · rw [purs_all, List.all_append, ← purs_all, hpu]
            show (true && (pur s && true)) = true
            rw [hps] <;> rfl
          · rw [pbL_snoc, hpb]
            exact hst
        refine ⟨_, rfl, be, _, 2, _, rfl, rfl, SqT.of (tup kp07 ebe), atI_nat (j := 2) rfl, rfl, _, rfl, ?_⟩
        cases hc : e.c with
        | none =>
          refine ifT rfl ⟨_, rfl, .inl ⟨rfl, _, SqL.of esp7⟩, _, rfl, sp, ys, _, rfl, rfl, esp7, by rw [hyl, hsl, sizeLine_eq]; omega, ?_⟩
          refine ⟨.int k, ys ++ [.int k], _, _, _, rfl, (S7.upF fsp.1 fsp.2.1 fsp.2.2).mono (by omega), kp07.upF hsp, upd_same, fun g' => ((hys7 g').keepP (Kt.put esp7) hpu).app (.cons (.int _) .nil), rfl, stepE_plain k0 he hp hc⟩
        | some c' =>
          refine ifF rfl ?_
          have ewa7 := kp07 _ _ ewa nwd nwg
          refine ⟨_, rfl, wa, _, rfl, SqL.of ewa7, fun L hL => ?_⟩
          refine lc_it (walk_enum (K := K) (a := wa) (xs := xs)) (fun j' H' => ∃ acc : List Int, H' L = some (.lst (acc.map V.int)) ∧ Same H7 H' ∧ acc.length ≤ j' ∧ (∀ p ∈ acc, 0 ≤ p ∧ p.toNat < ws.length ∧ ∃ sd, ws[p.toNat]? = some (.tup [.int c', sd])) ∧ ((∃ j0, j0 < j' ∧ ∃ sd, ws[j0]? = some (.tup [.int c', sd])) → acc ≠ []))
            ⟨[], upd_same, same_new hL, Nat.le_refl _, (fun p h => by cases h), fun ⟨j0, h, _⟩ => absurd h (Nat.not_lt_zero _)⟩ (fun _ _ _ ⟨_, _, s, _⟩ => SqL.of (s _ _ ewa7)) ?_ ?_
          · rintro j' x H8 H8z hj' ⟨acc, eL, s8, hal, hac, hex⟩ ⟨T0, x', y, rfl, hT, hH8, hx1, hx2⟩
            obtain rfl := Option.some.inj hx1
            obtain ⟨sT, eT⟩ := freshF hT hH8.symm
            obtain ⟨wd, hwd, hxd⟩ := hws.at_ hx2
            obtain ⟨m, sd, rfl⟩ := hsh wd (List.mem_of_getElem? hwd)
            obtain ⟨bw, vm, vs', rfl, ebw, hvm, _⟩ := hxd.tup2
            obtain rfl := hvm.int_inv
            have s8' := s8.trans sT
            have hjw := (List.getElem?_eq_some_iff.mp hwd).1
            refine ⟨T0, _, rfl, SqT.of eT, (by rfl), _, _, rfl, _, _, rfl, rfl, (by rfl), ?_⟩
            refine ⟨_, rfl, bw, _, 0, _, rfl, rfl, SqT.of (s8' _ _ (tup kp07 ebw)), atI_nat (j := 0) rfl, _, rfl, be, _, 2, _, rfl, rfl, SqT.of (s8' _ _ (tup kp07 ebe)), atI_nat (j := 2) rfl, ?_⟩
            rw [hc]
            refine ⟨rfl, _, rfl, ?_⟩
            by_cases hm : m = c'
            · refine ifT (by rw [hm]; exact decide_eq_true rfl) ?_
              refine ⟨_, rfl, _, sT _ _ eL, by rw [List.length_map, sizeLine_eq]; omega, acc ++ [((j' : Nat) : Int)], by rw [upd_same, List.map_append]; rfl, fun b o eb => by rw [upd_ne (ne_of_none eb hL)]; exact s8' _ _ eb, by rw [List.length_append]; show acc.length + 1 ≤ _; omega, fun p hp' => ?_, fun _ => by simp⟩
              rcases List.mem_append.mp hp' with hp' | hp'
              · exact hac p hp'
              · rw [List.mem_singleton.mp hp']
                exact ⟨Int.natCast_nonneg _, by rw [Int.toNat_natCast]; exact hjw, sd, by rw [Int.toNat_natCast, hwd, hm]⟩
            · refine ifF (decide_eq_false (fun h => hm (by injection h))) ?_
              refine ⟨acc, sT _ _ eL, s8', by omega, hac, fun ⟨j0, h0, sd0, h1⟩ => ?_⟩
              by_cases hj0 : j0 = j'
              · rw [hj0, hwd] at h1
                injection Option.some.inj h1 with h1
                injection h1 with h1
                injection h1 with h1
                exact absurd h1 hm
              · exact hex ⟨j0, by omega, sd0, h1⟩
          · rintro H8 ⟨acc, eL, s8, hal, hac, hex⟩
            have hne : acc ≠ [] := by
              obtain ⟨j0, sd0, h0⟩ := hce c' hc
              exact hex ⟨j0, by rw [hxl]; exact (List.getElem?_eq_some_iff.mp h0).1, sd0, h0⟩
            refine ⟨_, rfl, .inl ⟨rfl, _, SqL.of (s8 _ _ esp7)⟩, _, rfl, _, rfl, _, rfl, _, rfl, 1, rfl, _, rfl, L, _, rfl, SqL.of eL, fun q1 hq1 => ?_⟩
            generalize hH9 : upd H8 q1 _ = H9
            obtain ⟨sq1, eq1⟩ := freshF hq1 hH9
            have hcl := cutV_length (acc.map V.int) (some (-1)) none
            rw [List.length_map] at hcl
            refine ⟨q1, 3, _, rfl, rfl, eq1, by decide, by decide, by show _ * 3 ≤ _; rw [sizeLine_eq]; omega, fun q2 hq2 => ?_⟩
            generalize hHa : upd H9 q2 _ = Ha
            obtain ⟨sq2, eq2⟩ := freshF hq2 hHa
            have hfl : (List.replicate (3 : Int).toNat (cutV (acc.map V.int) (some (-1)) none)).flatten.length ≤ 300 := by
              rw [List.length_flatten]
              show (List.map List.length [_, _, _]).sum ≤ _
              simp only [List.map_cons, List.map_nil, List.sum_cons, List.sum_nil]
              omega
            refine ⟨L, q2, _, _, rfl, rfl, sq2 _ _ (sq1 _ _ eL), eq2, by rw [List.length_map, sizeLine_eq]; omega, fun q3 hq3 => ?_⟩
            generalize hHb : upd Ha q3 _ = Hb
            obtain ⟨sq3, eq3⟩ := freshF hq3 hHb
            have s7b := s8.trans (sq1.trans (sq2.trans sq3))
            have Sb := S7.keep s7b
            refine ⟨d, g, c, q3, _, _, rfl, Sb, by omega, eq3, ?_, ?_, ?_, fun v Hc hv Sc kpc => ?_⟩
            · obtain ⟨r, tt, gs, cs, S7⟩ := S7
              exact (ne_of_none ((s8.trans (sq1.trans sq2)) _ _ S7.gl) hq3).symm
            · intro h
              have := (List.append_eq_nil_iff.mp h).1
              exact hne (List.map_eq_nil_iff.mp this)
            · rw [List.length_append, List.length_map]
              omega
            obtain ⟨j, rfl, hj⟩ : ∃ j : Int, v = .int j ∧ j ∈ acc := by
              have : v ∈ acc.map V.int := by
                rcases List.mem_append.mp hv with h | h
                · exact h
                · obtain ⟨l, hl, hvl⟩ := List.mem_flatten.mp h
                  rw [(List.mem_replicate.mp hl).2] at hvl
                  exact mem_cutV hvl
              obtain ⟨j, hj, rfl⟩ := List.mem_map.mp this
              exact ⟨j, rfl, hj⟩
            obtain ⟨j0, j1, sd, hjw⟩ := hac j hj
            refine ⟨(by show 2 ≤ sizeLine; decide), fun t ht => ?_⟩
            generalize hHd : upd Hc t _ = Hd
            obtain ⟨st, et⟩ := freshF ht hHd
            have kp7d : Kp d g H7 Hd := (Kp.of s7b).trans (kpc.trans (Kp.of st))
            have espd := kp7d _ _ esp7 fsp.1 fsp.2.1
            have ktd : Kt H7 Hd := (Kv.kp S7 kp7d).tup
            have nts : t ≠ sp := fun h => by
              rw [h, kpc _ _ (s7b _ _ esp7) fsp.1 fsp.2.1] at ht
              cases ht
            refine ⟨sp, ys, _, rfl, rfl, espd, by rw [hyl, hsl, sizeLine_eq]; omega, ?_⟩
            refine ⟨.tup [.int k, .int j], ys ++ [.ref t], _, _, _, rfl, ((Sc.keep st).upF fsp.1 fsp.2.1 fsp.2.2).mono (by omega), (kp07.trans kp7d).upF hsp, upd_same, fun g' => ((DVs.keepP (g := g') (g' := g') ktd hpu (hys7 g')).keepP (Kt.put espd) hpu).app (.cons (.tup (by rw [upd_ne nts]; exact et) (by show 2 ≤ 20000; decide) (.cons (.int _) (.cons (.int _) .nil))) .nil), rfl, stepE_call k0 he hp hc (inner_of j0 j1 hjw)⟩
    · rintro σ H2 ⟨here, ss, ys, v7, v8, v9, va, vb, vc, vd, ve, rfl, S2, kp2, e2, hys, hpu, hsl, hpb⟩
      exact k1 H2 (S2.mono (by show n + 2 * 30 ≤ n + 100; omega)) kp2
end
end K66

set_option Elab.async false
set_option linter.all false
set_option pp.maxSteps 900
set_option maxRecDepth 100000
set_option maxHeartbeats 4000000
namespace K66
open PySem PySem.Spec PyProof.Rows L2
open TL (tl)
abbrev sDWs : Stmt := top 46
theorem inner_app {known : Nat} {ws more : List Dt} (h : known ≤ ws.length) (c : Int) (s : Dt) : inner known (ws ++ more) c s = inner known ws c s := by
  unfold inner
  split
  · rename_i x j
    by_cases hj : 0 ≤ j ∧ j ≤ (known : Int) - 1
    · rw [List.getElem?_append_left (by omega)]
    · rw [decide_eq_false hj]
      rfl
  · rfl
theorem stepE_app {es : List Ed} {known : Nat} {ws more : List Dt} (h : known ≤ ws.length) (pl : Int) (s : Dt) : stepE es (ws ++ more) known pl s = stepE es ws known pl s := by
  unfold stepE
  simp only [inner_app h]
theorem pbL_app {es : List Ed} {known : Nat} {ws more : List Dt} (h : known ≤ ws.length) : ∀ (ss : List Dt) (pl : Int), pbL es (ws ++ more) known ss pl = pbL es ws known ss pl
  | [], pl => rfl
  | s :: ss, pl => by
    show (stepE es (ws ++ more) known pl s).bind (pbL es (ws ++ more) known ss) = (stepE es ws known pl s).bind (pbL es ws known ss)
    rw [stepE_app h]
    cases stepE es ws known pl s with
    | none => rfl
    | some t => exact pbL_app h ss t
theorem wB_app {W : Web} {ws more : List Dt} {j : Nat} (h : j < ws.length) : wB W (ws ++ more) j = wB W ws j := by
  unfold wB
  rw [List.getElem?_append_left h]
  cases ws[j]? with
  | none => rfl
  | some d =>
    show wB1 W (ws ++ more) j d = wB1 W ws j d
    unfold wB1
    split
    · rename_i a sd
      unfold wB2
      split
      · rename_i n
        have e : ∀ nt : Int × List Ed, pbOf nt.2 (ws ++ more) j sd 0 = pbOf nt.2 ws j sd 0 := by
          intro nt
          unfold pbOf
          split
          · exact pbL_app (Nat.le_of_lt h) _ _
          · rfl
        simp only [e]
      · rfl
    · rfl
theorem wB_new {W : Web} {ws : List Dt} {at_ : Int} {nt : Int × List Ed} {ss : List Dt} (h0 : 0 ≤ at_) (hnt : W.ns[at_.toNat]? = some nt) (h : pbL nt.2 ws ws.length ss 0 = some (nt.1 - 1)) : wB W (ws ++ [.tup [.int at_, .tup ss]]) ws.length = true := by
  unfold wB
  rw [List.getElem?_append_right (Nat.le_refl _), Nat.sub_self]
  have hn := (List.getElem?_eq_some_iff.mp hnt).1
  show (decide (0 ≤ at_ ∧ at_ ≤ (W.ns.length : Int) - 1) && (match W.ns[at_.toNat]? with
    | some nt => decide (pbOf nt.2 (ws ++ [.tup [.int at_, .tup ss]]) ws.length (.tup ss) 0 = some (nt.1 - 1))
    | none => false)) = true
  rw [hnt, decide_eq_true (show 0 ≤ at_ ∧ at_ ≤ (W.ns.length : Int) - 1 by omega)]
  show (true && decide (pbL nt.2 (ws ++ [.tup [.int at_, .tup ss]]) ws.length ss 0 = some (nt.1 - 1))) = true
  rw [pbL_app (Nat.le_refl _), h, decide_eq_true rfl] <;> rfl
def spDWs : Sp := fun vs H Q _ => ∃ (d g c rd : Addr) (n : Nat) (vw : V) (W : Web) (kvs : List (List Key × V)), vs = [.ref d, vw, .ref rd] ∧ StA H d g c n ∧ n ≤ 700000000 ∧ DV g H vw (wbD W) ∧ OkW W ∧ H rd = some (.dT kvs) ∧
  ∀ (p : Addr) (xs : List V) (ws : List Dt) (H' : Hp), StA H' d g c (n + 2000) → Kp d g H H' → H p = none → H' p = some (.lst xs) → (∀ g', DVs g' H' xs ws) → purs ws = true → (∀ j, j < ws.length → wB W ws j = true) → ws.length ≤ 12 → (∀ w ∈ ws, ∃ (m : Int) (ss : List Dt), w = .tup [.int m, .tup ss] ∧ ss.length ≤ 30) → Q (.ref p) H'
section
variable {P : Program} {w : World} {K : PySem.W.Frag} {mg : Str → Option Value} {base : Heap}
theorem scDws : FnScope ["state", "web", "roads", "words", "lap", "at", "word"] ["state", "web", "roads"] (defScope sDWs) := ⟨rfl, rfl, rfl, by decide +kernel, rfl, by decide +kernel, by decide +kernel⟩
theorem ok_dws {f : Addr} {fd : FuncData} (F : Fun K "_law_drawn_words" "_law_drawn_words" sDWs f fd) (T : Bn mg) (cD : Cl P w K mg base "_law_draw" ["state", "room"] 2 spDrw) (cDW : Cl P w K mg base "_law_drawn_word" ["state", "web", "roads", "at", "words"] 4 spDW) :
    FnOk P w K mg base CX0 5 f fd ["state", "web", "roads"] spDWs := by
  obtain ⟨fD, fdD, GD, mD, kD, bD⟩ := cD
  obtain ⟨fDW, fdDW, GDW, mDW, kDW, bDW⟩ := cDW
  refine F.ok scDws (fun vs H Q E h => ?_) (fun cdv A outer s H vs Q E hr h => ?_)
  · obtain ⟨a1, a2, a3, a4, a5, a6, a7, a8, rfl, _⟩ := h
    rfl
  · obtain ⟨d, g, c, rd, n, vw, W, kvs, rfl, S, hn, hw, okw, erd, k⟩ := h
    have hr2 : Room 2 _ := hr.mono (by decide)
    refine ⟨_, (pss_cons (ps_set (i := 3) scDws.nd rfl (Or.inl rfl) (pe_lst pa_nil))
      (pss_cons (ps_for PassesOwn.never rfl (pi_range1 (by rfl) T.rng (pa_cons pe_int pa_nil)) (pg_name (i := 4) scDws.nd rfl (Or.inl rfl))
          (pss_cons (ps_set (i := 5) scDws.nd rfl (Or.inl rfl) (pe_call GD hr2 (by rfl) mD kD bD .nil pass0 (pa_cons (pv 0) (pa_cons (pe_callB call_len_seq (by rfl) T.len PySem.boot_len (pa_cons (pe_ix ix_tup (pv 1) pe_int (fun _ _ => rfl)) pa_nil)) pa_nil))))
          (pss_cons (ps_set (i := 6) scDws.nd rfl (Or.inl rfl) (pe_call GDW hr (by rfl) mDW kDW bDW .nil pass0 (pa_cons (pv 0) (pa_cons (pv 1) (pa_cons (pv 2) (pa_cons (pv 5) (pa_cons (pv 3) pa_nil)))))))
          (pss_one (ps_if (pt_cmpR op_notN (pv 6) pe_non (nomark _)) (pss_one (ps_expr (qApp (pv 3) (pv 6)))) pss_nil)))))
      (pss_one (ps_ret (pv 3))))), ?_⟩
    obtain ⟨b0, c0, xn, rfl, eb0, ec0, rn⟩ := wb_at hw
    have hnl : xn.length = W.ns.length := by rw [rn.len, List.length_map]
    have tup : ∀ {H' : Hp}, Kp d g H H' → ∀ {b : Addr} {ys : List V}, H b = some (.tup ys) → H' b = some (.tup ys) := by
      intro H' kp b ys e
      exact (Kv.kp S kp).tup _ _ e
    have nrd : rd ≠ d ∧ rd ≠ g := by
      obtain ⟨r, tt, gs, cs, S⟩ := S
      refine ⟨fun z => ?_, ne_of erd S.gl (by intro z; cases z)⟩
      rw [z, S.dk] at erd
      have q := Option.some.inj erd
      unfold StKV at q
      cases q
    refine ⟨Nat.zero_le _, fun wp hwp => ?_⟩
    generalize hH1 : upd H wp _ = H1
    obtain ⟨swp, ewp⟩ := freshF hwp hH1
    have fwp := S.free hwp
    refine ⟨12, rfl, by decide, by decide, ?_⟩
    refine for_it (walk_range (lo := 0) (n := (12 : Int).toNat)) (fun i σ H' => ∃ (xs : List V) (ws : List Dt) (v4 v5 v6 : Option V), σ = [some (.ref d), some (.ref b0), some (.ref rd), some (.ref wp), v4, v5, v6] ∧ StA H' d g c (n + 101 * i) ∧ Kp d g H H' ∧ H' wp = some (.lst xs) ∧ (∀ g', DVs g' H' xs ws) ∧ purs ws = true ∧
        (∀ j, j < ws.length → wB W ws j = true) ∧ ws.length ≤ i ∧ (∀ w ∈ ws, ∃ (m : Int) (ss : List Dt), w = .tup [.int m, .tup ss] ∧ ss.length ≤ 30))
      ⟨[], [], _, _, _, rfl, S.keep swp, Kp.of swp, ewp, fun g' => .nil, rfl, fun j h => absurd h (Nat.not_lt_zero _), Nat.le_refl _, fun w h => by cases h⟩ (fun _ _ _ _ _ => trivial) ?_ ?_
    · rintro i x σ H2 H2z hi ⟨xs, ws, v4, v5, v6, rfl, S2, kp2, e2, hxs, hpu, hB, hwl, h30⟩ ⟨rfl, rfl⟩
      have hi : i < 12 := hi
      have hn1 := okw.n1
      have hn4 := okw.n4
      refine ⟨_, rfl, _, rfl, b0, _, 1, _, rfl, rfl, SqT.of (tup kp2 eb0), atI_nat (j := 1) rfl, c0, xn, rfl, .inr (SqT.of (tup kp2 ec0)), ?_⟩
      rw [hnl]
      refine ⟨d, g, c, _, (W.ns.length : Int), rfl, S2, by omega, by omega, by omega, fun u H3 u0 u1 S3 kp3 => ?_⟩
      have kp03 := kp2.trans kp3
      have hnt : W.ns[u.toNat]? = some (W.ns[u.toNat]'(by omega)) := List.getElem?_eq_getElem (by omega)
      generalize hee : W.ns[u.toNat]'(by omega) = nt at hnt
      have kt3 : Kt H2z H3 := (Kv.kp S2 kp3).tup
      have e3 := kp3 _ _ e2 fwp.1 fwp.2.1
      have hxs3 : ∀ g', DVs g' H3 xs ws := fun g' => (hxs g').keepP kt3 hpu
      refine ⟨_, rfl, _, rfl, _, rfl, _, rfl, _, rfl, d, g, c, rd, wp, _, _, W, u, nt, kvs, xs, ws, rfl, S3, by omega, hw.keep (Kv.kp S kp03), okw, u0, hnt, kp03 _ _ erd nrd.1 nrd.2, e3, fwp.2.1, hxs3 g, by omega, fun w hw' => ?_, fun H4 S4 kp4 => ?_, fun p ss H4 S4 kp4 hd4 hps hpb hs30 => ?_⟩
      · obtain ⟨j, hj⟩ := List.getElem?_of_mem hw'
        obtain ⟨m, sd, nt', h1, _⟩ := wB_shape (hB j (List.getElem?_eq_some_iff.mp hj).1)
        rw [hj] at h1
        exact ⟨m, sd, Option.some.inj h1⟩
      · refine ⟨_, rfl, rfl, _, rfl, ifF rfl ?_⟩
        exact ⟨xs, ws, _, _, _, rfl, S4.mono (by omega), kp03.trans kp4, kp4 _ _ e3 fwp.1 fwp.2.1, fun g' => (hxs3 g').keepP (Kv.kp S3 kp4).tup hpu, hpu, hB, by omega, h30⟩
      · have e4 := kp4 _ _ e3 fwp.1 fwp.2.1
        refine ⟨_, rfl, rfl, _, rfl, ifT rfl ?_⟩
        have hxl := (hxs g).len
        refine ⟨_, rfl, .inl ⟨rfl, _, SqL.of e4⟩, _, rfl, wp, xs, _, rfl, rfl, e4, by rw [hxl, sizeLine_eq]; omega, ?_⟩
        have hpt : pur (.tup [.int u, .tup ss]) = true := by
          show (true && (purs ss && true)) = true
          rw [hps] <;> rfl
        refine ⟨xs ++ [.ref p], ws ++ [.tup [.int u, .tup ss]], _, _, _, rfl, (S4.upF fwp.1 fwp.2.1 fwp.2.2).mono (by omega), (kp03.trans kp4).upF hwp, upd_same, fun g' => ?_, ?_, fun j hj => ?_, by rw [List.length_append]; show ws.length + 1 ≤ _; omega, fun w hw' => ?_⟩
        · exact (DVs.keepP (g := g') (g' := g') (Kt.put e4) hpu ((hxs3 g').keepP (Kv.kp S3 kp4).tup hpu)).app (.cons ((hd4 g').keepP (Kt.put e4) hpt) .nil)
        · rw [purs_all, List.all_append, ← purs_all, hpu]
          show (true && (pur _ && true)) = true
          rw [hpt] <;> rfl
        · by_cases h : j < ws.length
          · rw [wB_app h]
            exact hB j h
          · have : j = ws.length := by
              rw [List.length_append] at hj
              have : j < ws.length + 1 := hj
              omega
            rw [this]
            exact wB_new u0 hnt hpb
        · rcases List.mem_append.mp hw' with hw' | hw'
          · exact h30 w hw'
          · exact ⟨u, ss, List.mem_singleton.mp hw', hs30⟩
    · rintro σ H2 ⟨xs, ws, v4, v5, v6, rfl, S2, kp2, e2, hxs, hpu, hB, hwl, h30⟩
      exact ⟨_, rfl, k wp xs ws H2 (S2.mono (by show n + 101 * 12 ≤ _; omega)) kp2 hwp e2 hxs hpu hB hwl h30⟩
end
end K66

set_option Elab.async false
set_option linter.all false
set_option pp.maxSteps 900
set_option maxRecDepth 100000
set_option maxHeartbeats 4000000
namespace K66
open PySem PySem.Spec PyProof.Rows L2
open TL (tl)
/-! ### words that double (mathematics) -/
def farN (a : Int) : Int × List Ed := (3, [⟨0, 1, some (a + 1), 0, [1]⟩, ⟨1, 2, some (a + 1), 0, []⟩])
def farE (b : Int) : Int × List Ed := (2, [⟨0, 1, none, b, [0, 0]⟩])
def farNs (D : Nat) (b : Int) : List (Int × List Ed) := (List.range D).map (fun a => farN (a : Nat)) ++ [farE b]
def farW (D : Nat) (b : Int) : Web := ⟨2, farNs D b⟩
def lineW (D : Nat) (a : Nat) : Dt := .tup [.int (((D : Nat) : Int) - 1 - (a : Nat)), .tup [.tup [.int 0, .int (a : Nat)], .tup [.int 1, .int (a : Nat)]]]
def lineWs (D : Nat) : List Dt := .tup [.int (D : Nat), .tup [.int 0]] :: (List.range D).map (lineW D)
theorem far_len (D : Nat) (b : Int) : (farNs D b).length = D + 1 := by
  unfold farNs
  rw [List.length_append, List.length_map, List.length_range]
  rfl
theorem far_at {D : Nat} {b : Int} {a : Nat} (h : a < D) : (farNs D b)[a]? = some (farN (a : Nat)) := by
  unfold farNs
  rw [List.getElem?_append_left (by rw [List.length_map, List.length_range]; exact h), List.getElem?_map, List.getElem?_range h]
  rfl
theorem far_end (D : Nat) (b : Int) : (farNs D b)[D]? = some (farE b) := by
  unfold farNs
  rw [List.getElem?_append_right (by rw [List.length_map, List.length_range]; exact Nat.le_refl _), List.length_map, List.length_range, Nat.sub_self]
  rfl
theorem far_mem {D : Nat} {b : Int} {n : Int × List Ed} (h : n ∈ farNs D b) : (∃ a : Nat, a < D ∧ n = farN (a : Nat)) ∨ n = farE b := by
  unfold farNs at h
  rcases List.mem_append.mp h with h | h
  · obtain ⟨a, ha, rfl⟩ := List.mem_map.mp h
    exact .inl ⟨a, List.mem_range.mp ha, rfl⟩
  · exact .inr (List.mem_singleton.mp h)
theorem far_sum1 (D : Nat) (b : Int) : ((farNs D b).map (·.1)).sum = 3 * (D : Nat) + 2 := by
  unfold farNs
  rw [List.map_append, List.sum_append, List.map_map]
  have : ∀ n : Nat, ((List.range n).map ((fun x : Int × List Ed => x.1) ∘ fun a : Nat => farN (a : Nat))).sum = 3 * (n : Int) := by
    intro n
    induction n with
    | zero => rfl
    | succ n ih =>
      rw [List.range_succ, List.map_append, List.sum_append, ih]
      show 3 * (n : Int) + (3 + 0) = _
      omega
  rw [this]
  rfl
theorem far_sum2 (D : Nat) (b : Int) : ((farNs D b).map fun n => (n.2.length : Int)).sum = 2 * (D : Nat) + 1 := by
  unfold farNs
  rw [List.map_append, List.sum_append, List.map_map]
  have : ∀ n : Nat, ((List.range n).map ((fun x : Int × List Ed => (x.2.length : Int)) ∘ fun a : Nat => farN (a : Nat))).sum = 2 * (n : Int) := by
    intro n
    induction n with
    | zero => rfl
    | succ n ih =>
      rw [List.range_succ, List.map_append, List.sum_append, ih]
      show 2 * (n : Int) + (2 + 0) = _
      omega
  rw [this]
  rfl
theorem far_ok {D : Nat} {b : Int} (hD : D ≤ 100) (hb : 0 ≤ b ∧ b ≤ 100) : OkW (farW D b) := by
  refine ⟨⟨by show (0 : Int) ≤ 2; decide, by show (2 : Int) ≤ 4000; decide⟩, ?_, ?_, fun n hn => ?_, ?_, ?_, fun n hn e he => ?_⟩
  · show 1 ≤ (farNs D b).length
    rw [far_len]
    omega
  · show (farNs D b).length ≤ 400
    rw [far_len]
    omega
  · rcases far_mem (show n ∈ farNs D b from hn) with ⟨a, _, rfl⟩ | rfl
    · show (1 : Int) ≤ 3
      decide
    · show (1 : Int) ≤ 2
      decide
  · show ((farNs D b).map (·.1)).sum ≤ 4000
    rw [far_sum1]
    omega
  · show ((farNs D b).map fun n => (n.2.length : Int)).sum ≤ 8000
    rw [far_sum2]
    omega
  · show OkE n.1 (farNs D b).length 2 e
    rw [far_len]
    rcases far_mem (show n ∈ farNs D b from hn) with ⟨a, ha, rfl⟩ | rfl
    · have he : e ∈ [(⟨0, 1, some ((a : Nat) + 1), 0, [1]⟩ : Ed), ⟨1, 2, some ((a : Nat) + 1), 0, []⟩] := he
      simp only [List.mem_cons, List.not_mem_nil, or_false] at he
      rcases he with rfl | rfl
      · refine ⟨by show (0 : Int) ≤ 0 ∧ (0 : Int) ≤ 3 - 2; decide, by show (0 : Int) ≤ 1 ∧ (1 : Int) ≤ 3 - 1; decide, fun i h => ?_, by show (-1000000000 : Int) ≤ 0 ∧ (0 : Int) ≤ 1000000000; decide, by show 1 ≤ 8; decide, fun i h => ?_⟩
        · obtain rfl := Option.some.inj h
          omega
        · rw [List.mem_singleton.mp h]
          decide
      · refine ⟨by show (0 : Int) ≤ 1 ∧ (1 : Int) ≤ 3 - 2; decide, by show (0 : Int) ≤ 2 ∧ (2 : Int) ≤ 3 - 1; decide, fun i h => ?_, by show (-1000000000 : Int) ≤ 0 ∧ (0 : Int) ≤ 1000000000; decide, by show 0 ≤ 8; decide, fun i h => by cases h⟩
        obtain rfl := Option.some.inj h
        omega
    · have he : e ∈ [(⟨0, 1, none, b, [0, 0]⟩ : Ed)] := he
      obtain rfl := List.mem_singleton.mp he
      refine ⟨by show (0 : Int) ≤ 0 ∧ (0 : Int) ≤ 2 - 2; decide, by show (0 : Int) ≤ 1 ∧ (1 : Int) ≤ 2 - 1; decide, (fun i h => by cases h), by show (-1000000000 : Int) ≤ b ∧ b ≤ 1000000000; omega, by show 2 ≤ 8; decide, fun i h => ?_⟩
      have h : i ∈ [(0 : Int), 0] := h
      simp only [List.mem_cons, List.not_mem_nil, or_false, or_self] at h
      rw [h]
      decide
theorem line_len (D : Nat) : (lineWs D).length = D + 1 := by
  unfold lineWs
  rw [List.length_cons, List.length_map, List.length_range]
theorem line_at {D a : Nat} (h : a < D) : (lineWs D)[a + 1]? = some (lineW D a) := by
  unfold lineWs
  rw [List.getElem?_cons_succ, List.getElem?_map, List.getElem?_range h]
  rfl
theorem line_net {D a : Nat} (h : a ≤ D) : ∃ sd, (lineWs D)[a]? = some (.tup [.int (((D - a : Nat)) : Int), sd]) := by
  cases a with
  | zero => exact ⟨_, rfl⟩
  | succ a =>
    refine ⟨.tup [.tup [.int 0, .int (a : Nat)], .tup [.int 1, .int (a : Nat)]], ?_⟩
    rw [line_at (by omega)]
    unfold lineW
    have : ((D : Nat) : Int) - 1 - (a : Nat) = ((D - (a + 1) : Nat) : Int) := by omega
    rw [this]
theorem line_B {D : Nat} {b : Int} {j : Nat} (h : j ≤ D) : wB (farW D b) (lineWs D) j = true := by
  unfold wB
  cases j with
  | zero =>
    show (decide (0 ≤ ((D : Nat) : Int) ∧ ((D : Nat) : Int) ≤ ((farNs D b).length : Int) - 1) && (match (farNs D b)[((D : Nat) : Int).toNat]? with
      | some nt => decide (pbOf nt.2 (lineWs D) 0 (.tup [.int 0]) 0 = some (nt.1 - 1))
      | none => false)) = true
    rw [far_len, Int.toNat_natCast, far_end, decide_eq_true (by omega)]
    rfl
  | succ a =>
    rw [line_at (by omega)]
    have hn : ((D : Nat) : Int) - 1 - (a : Nat) = ((D - 1 - a : Nat) : Int) := by omega
    show (decide (0 ≤ ((D : Nat) : Int) - 1 - (a : Nat) ∧ ((D : Nat) : Int) - 1 - (a : Nat) ≤ ((farNs D b).length : Int) - 1) && (match (farNs D b)[(((D : Nat) : Int) - 1 - (a : Nat)).toNat]? with
      | some nt => decide (pbOf nt.2 (lineWs D) (a + 1) (.tup [.tup [.int 0, .int (a : Nat)], .tup [.int 1, .int (a : Nat)]]) 0 = some (nt.1 - 1))
      | none => false)) = true
    rw [far_len, hn, Int.toNat_natCast, far_at (by omega), decide_eq_true (by omega)]
    show (true && decide (pbL (farN ((D - 1 - a : Nat) : Int)).2 (lineWs D) (a + 1) [.tup [.int 0, .int (a : Nat)], .tup [.int 1, .int (a : Nat)]] 0 = some (3 - 1))) = true
    obtain ⟨sd, hsd⟩ := line_net (D := D) (a := a) (by omega)
    have hc : ((D - 1 - a : Nat) : Int) + 1 = ((D - a : Nat) : Int) := by omega
    have hin : ∀ k : Int, inner (a + 1) (lineWs D) (((D - 1 - a : Nat) : Int) + 1) (.tup [.int k, .int (a : Nat)]) = true := fun k => by
      rw [hc]
      exact inner_of (sd := sd) (by omega) (by rw [Int.toNat_natCast]; omega) (by rw [Int.toNat_natCast]; exact hsd)
    have e1 := stepE_call (es := (farN ((D - 1 - a : Nat) : Int)).2) (ws := lineWs D) (known := a + 1) (pl := 0) (k := 0) (j := (a : Nat)) (Int.le_refl _) rfl rfl rfl (hin 0)
    have e2 := stepE_call (es := (farN ((D - 1 - a : Nat) : Int)).2) (ws := lineWs D) (known := a + 1) (pl := 1) (k := 1) (j := (a : Nat)) (by decide) rfl rfl rfl (hin 1)
    have e3 : pbL (farN ((D - 1 - a : Nat) : Int)).2 (lineWs D) (a + 1) [.tup [.int 0, .int (a : Nat)], .tup [.int 1, .int (a : Nat)]] 0 = some 2 := by
      show (stepE _ _ _ 0 _).bind (fun pl => (stepE _ _ _ pl _).bind _) = _
      rw [e1]
      show (stepE _ _ _ 1 _).bind _ = _
      rw [e2]
      rfl
    rw [e3]
    rfl
theorem line_words (D : Nat) (b : Int) : wordsB (farW D b) (.lst (lineWs D)) = true := by
  show (List.range (lineWs D).length).all (wB (farW D b) (lineWs D)) = true
  rw [line_len]
  exact List.all_eq_true.mpr fun j hj => line_B (by have := List.mem_range.mp hj; omega)
def dblM (b : Int) (j : Nat) : List Int × Int := ([2 * 2 ^ j, 2 ^ j - 1], b * 2 ^ j)
theorem line_ms {D : Nat} {b : Int} : ∀ j, j ≤ D → ((lineWs D).take (j + 1)).foldl (stW (farW D b)) [] = (List.range (j + 1)).map (dblM b)
  | 0, _ => by
    show stW (farW D b) [] (.tup [.int (D : Nat), .tup [.int 0]]) = _
    show (match (farNs D b)[((D : Nat) : Int).toNat]? with | some nt => [] ++ [mOne (farW D b) [] nt.2 [.int 0]] | none => []) = _
    rw [Int.toNat_natCast, far_end]
    show [([1 + 1, 0], 0 + b)] = [dblM b 0]
    unfold dblM
    simp
  | j + 1, h => by
    have ih := line_ms (D := D) (b := b) j (by omega)
    rw [take_fold _ _ (line_at (D := D) (a := j) (by omega)), ih]
    unfold lineW
    have hn : ((D : Nat) : Int) - 1 - (j : Nat) = ((D - 1 - j : Nat) : Int) := by omega
    rw [hn]
    generalize hfd : (List.range (j + 1)).map (dblM b) = fd
    show (match (farNs D b)[(((D - 1 - j : Nat)) : Int).toNat]? with | some nt => fd ++ [mOne (farW D b) fd nt.2 [.tup [.int 0, .int (j : Nat)], .tup [.int 1, .int (j : Nat)]]] | none => fd) = _
    rw [Int.toNat_natCast, far_at (by omega)]
    show fd ++ [mOne (farW D b) fd (farN ((D - 1 - j : Nat) : Int)).2 [.tup [.int 0, .int (j : Nat)], .tup [.int 1, .int (j : Nat)]]] = _
    rw [List.range_succ, List.map_append, hfd]
    congr 1
    have ht : putT (putT [] ((j : Nat) : Int)) (j : Nat) = [(((j : Nat) : Int), 2)] := by
      show putT [(((j : Nat) : Int), 1)] (j : Nat) = _
      unfold putT
      simp
    have hj : fd[(((j : Nat)) : Int).toNat]? = some (dblM b j) := by
      rw [← hfd, Int.toNat_natCast, List.getElem?_map, List.getElem?_range (by omega)]
      rfl
    have hms : mSt (farW D b) (farN ((D - 1 - j : Nat) : Int)).2 [.tup [.int 0, .int (j : Nat)], .tup [.int 1, .int (j : Nat)]] = ⟨[0, 0 + 1], 0, [(((j : Nat) : Int), 2)]⟩ := by
      rw [← ht]
      rfl
    show [mOne _ _ _ _] = [dblM b (j + 1)]
    unfold mOne
    rw [hms]
    show [st2 fd ([0, 0 + 1], 0) (((j : Nat) : Int), 2)] = _
    unfold st2
    rw [hj]
    show [([0 + 2 * (2 * 2 ^ j), (0 + 1) + 2 * (2 ^ j - 1)], 0 + 2 * (b * 2 ^ j))] = _
    unfold dblM
    have e : (2 : Int) ^ (j + 1) = 2 * 2 ^ j := by rw [Int.pow_succ]; omega
    rw [e]
    have e1 : (0 : Int) + 2 * (2 * 2 ^ j) = 2 * (2 * 2 ^ j) := by omega
    have e2 : (0 : Int) + 1 + 2 * (2 ^ j - 1) = 2 * 2 ^ j - 1 := by omega
    have e3 : (0 : Int) + 2 * (b * 2 ^ j) = b * (2 * 2 ^ j) := by
      rw [Int.zero_add, ← Int.mul_assoc, ← Int.mul_assoc, Int.mul_comm 2 b]
    rw [e1, e2, e3]
theorem line_last (D : Nat) (b : Int) : msOf (farW D b) (lineWs D) = (List.range (D + 1)).map (dblM b) := by
  have := line_ms (D := D) (b := b) D (Nat.le_refl _)
  rw [← this]
  unfold msOf
  rw [List.take_of_length_le (by rw [line_len]; exact Nat.le_refl _)]
end K66

set_option Elab.async false
set_option linter.all false
set_option pp.maxSteps 900
set_option maxRecDepth 100000
set_option maxHeartbeats 4000000
namespace K66
open PySem PySem.Spec PyProof.Rows L2
open TL (tl)
abbrev sDb : Stmt := top 47
def spDb : Sp := fun vs H Q _ => ∃ (d g c : Addr) (n : Nat), vs = [.ref d] ∧ StA H d g c n ∧ n ≤ 700000000 ∧
  ∀ (p wl : Addr) (vf vl : V) (ys : List V) (D : Nat) (b : Int) (H' : Hp), D ≤ 100 → 0 ≤ b ∧ b ≤ 100 → StA H' d g c (n + 2) → Kp d g H H' → H' p = some (.tup [vf, .ref wl, vl]) → H' wl = some (.lst ys) → H wl = none → (∀ g', DV g' H' vf (wbD (farW D b)) ∧ DVs g' H' ys (lineWs D) ∧ DV g' H' vl (msD (dblM b D))) → purs (lineWs D) = true → Q (.ref p) H'
theorem line_pur (D : Nat) : purs (lineWs D) = true := by
  rw [purs_all, List.all_eq_true]
  intro d hd
  unfold lineWs at hd
  rcases List.mem_cons.mp hd with rfl | hd
  · rfl
  · obtain ⟨a, _, rfl⟩ := List.mem_map.mp hd
    rfl
theorem farN_pur (a : Int) : pur (ntD (farN a)) = true := rfl
section
variable {P : Program} {w : World} {K : PySem.W.Frag} {mg : Str → Option Value} {base : Heap}
theorem scDb : FnScope ["state", "deep", "beats", "nets", "words", "at", "times"] ["state"] (defScope sDb) := ⟨rfl, rfl, rfl, by decide +kernel, rfl, by decide +kernel, by decide +kernel⟩
theorem ok_db {f : Addr} {fd : FuncData} (F : Fun K "_law_doubling" "_law_doubling" sDb f fd) (T : Bn mg) (cD : Cl P w K mg base "_law_draw" ["state", "room"] 2 spDrw) (cPo : Cl P w K mg base "_law_power" ["deep"] 1 spPow) :
    FnOk P w K mg base CX0 3 f fd ["state"] spDb := by
  obtain ⟨fD, fdD, GD, mD, kD, bD⟩ := cD
  obtain ⟨fPo, fdPo, GPo, mPo, kPo, bPo⟩ := cPo
  refine F.ok scDb (fun vs H Q E h => ?_) (fun cdv A outer s H vs Q E hr h => ?_)
  · obtain ⟨a1, a2, a3, a4, rfl, _⟩ := h
    rfl
  · obtain ⟨d, g, c, n, rfl, S, hn, k⟩ := h
    have hr1 : Room 1 _ := hr.mono (by decide)
    refine ⟨_, (pss_cons (ps_par (i := 1) (j := 2) (by rfl) scDb.nd rfl rfl (by decide) rfl rfl (pa_cons (pe_op op_add pe_int (pe_call GD hr (by rfl) mD kD bD .nil pass0 (pa_cons (pv 0) (pa_cons pe_int pa_nil)))) (pa_cons (pe_op op_add pe_int (pe_call GD hr (by rfl) mD kD bD .nil pass0 (pa_cons (pv 0) (pa_cons pe_int pa_nil)))) pa_nil)) (by rfl))
      (pss_cons (ps_setLc (i := 3) (own := [("at", 5)]) (g := gName 5) (tt := tYes) (by rfl) scDb.nd rfl rfl (sw_true rfl rfl rfl (by decide +kernel)) (pi_range1 (by rfl) T.rng (pa_cons (pv 1) pa_nil)) (blkOk_by (own := [("at", 5)]) (N := ["state", "deep", "beats", "nets", "words", "at", "times"]) (sc := defScope sDb) (by decide +kernel)) (fun _ _ _ _ _ => (pg_name (i := 5) scDb.nd rfl (Or.inl rfl))) (fun _ _ _ _ _ => pts_nil) (fun _ _ _ _ _ => (pe_tup (pa_cons pe_int (pa_cons (pe_tup (pa_cons (pe_tup (pa_cons pe_int (pa_cons pe_int (pa_cons (pe_op op_add (pv 5) pe_int) (pa_cons pe_int (pa_cons (pe_tup (pa_cons pe_int pa_nil)) pa_nil)))))) (pa_cons (pe_tup (pa_cons pe_int (pa_cons pe_int (pa_cons (pe_op op_add (pv 5) pe_int) (pa_cons pe_int (pa_cons (pe_tup pa_nil) pa_nil)))))) pa_nil))) pa_nil)))))
      (pss_cons (ps_expr (qApp (pv 3) (pe_tup (pa_cons pe_int (pa_cons (pe_tup (pa_cons (pe_tup (pa_cons pe_int (pa_cons pe_int (pa_cons pe_non (pa_cons (pv 2) (pa_cons (pe_tup (pa_cons pe_int (pa_cons pe_int pa_nil))) pa_nil)))))) pa_nil)) pa_nil)))))
      (pss_cons (ps_set (i := 4) scDb.nd rfl (Or.inl rfl) (pe_lst (pa_cons (pe_tup (pa_cons (pv 1) (pa_cons (pe_tup (pa_cons pe_int pa_nil)) pa_nil))) pa_nil)))
      (pss_cons (ps_for PassesOwn.never rfl (pi_range1 (by rfl) T.rng (pa_cons (pv 1) pa_nil)) (pg_name (i := 5) scDb.nd rfl (Or.inl rfl))
          (pss_one (ps_expr (qApp (pv 4) (pe_tup (pa_cons (pe_op op_sub (pe_op op_sub (pv 1) pe_int) (pv 5)) (pa_cons (pe_tup (pa_cons (pe_tup (pa_cons pe_int (pa_cons (pv 5) pa_nil))) (pa_cons (pe_tup (pa_cons pe_int (pa_cons (pv 5) pa_nil))) pa_nil))) pa_nil)))))))
      (pss_cons (ps_set (i := 6) scDb.nd rfl (Or.inl rfl) (pe_call GPo hr1 (by rfl) mPo kPo bPo .nil pass0 (pa_cons (pv 1) pa_nil)))
      (pss_one (ps_ret (pe_tup (pa_cons (pe_tup (pa_cons pe_int (pa_cons (pe_callTy call_tuple_of (by rfl) T.tpl (by decide +kernel) (pa_cons (pv 3) pa_nil)) pa_nil))) (pa_cons (pv 4) (pa_cons (pe_tup (pa_cons (pe_tup (pa_cons (pe_op op_mul pe_int (pv 6)) (pa_cons (pe_op op_sub (pv 6) pe_int) pa_nil))) (pa_cons (pe_op op_mul (pv 2) (pv 6)) pa_nil))) pa_nil)))))))))))), ?_⟩
    refine ⟨_, rfl, d, g, c, n, 18, rfl, S, by omega, by decide, by decide, fun u1 H1 u10 u11 S1 kp1 => ⟨_, _, rfl, rfl, ?_⟩⟩
    refine ⟨_, rfl, d, g, c, n + 1, 9, rfl, S1, by omega, by decide, by decide, fun b1 H2 b10 b11 S2 kp2 => ⟨_, _, rfl, rfl, ?_⟩⟩
    refine ⟨_, _, rfl, ?_⟩
    obtain ⟨D, hD⟩ : ∃ D : Nat, 2 + u1 = (D : Int) := ⟨(2 + u1).toNat, by omega⟩
    have hDl : D ≤ 100 := by omega
    have hb0 : 0 ≤ 1 + b1 ∧ 1 + b1 ≤ 100 := by omega
    have hDn : (2 + u1).toNat = D := by omega
    have kp02 := kp1.trans kp2
    refine ⟨_, rfl, _, rfl, by omega, by omega, fun N hN => ?_⟩
    have fN := S2.free hN
    refine lc_it (walk_range (lo := 0) (n := (2 + u1).toNat)) (fun i H' => ∃ ys : List V, H' N = some (.lst ys) ∧ Same H2 H' ∧ ∀ g', DVs g' H' ys ((List.range i).map fun a : Nat => ntD (farN (a : Nat)))) ⟨[], upd_same, same_new hN, fun g' => .nil⟩ (fun _ _ _ _ => trivial) ?_ ?_
    · rintro i x H3 H3z hi ⟨ys, e3, s3, hys⟩ ⟨rfl, rfl⟩
      have hi : i < D := by omega
      have e0 : (0 : Int) + (i : Nat) = (i : Nat) := Int.zero_add _
      refine ⟨(by rfl), ?_⟩
      refine ⟨_, rfl, _, _, rfl, rfl, (by show 1 ≤ sizeLine; decide), fun t1 ht1 => ?_⟩
      generalize hH4 : upd H3z t1 _ = H4
      obtain ⟨st1, et1⟩ := freshF ht1 hH4
      refine ⟨(by show 5 ≤ sizeLine; decide), fun t2 ht2 => ?_⟩
      generalize hH5 : upd H4 t2 _ = H5
      obtain ⟨st2, et2⟩ := freshF ht2 hH5
      refine ⟨_, rfl, _, _, rfl, rfl, (by show 0 ≤ sizeLine; decide), fun t3 ht3 => ?_⟩
      generalize hH6 : upd H5 t3 _ = H6
      obtain ⟨st3, et3⟩ := freshF ht3 hH6
      refine ⟨(by show 5 ≤ sizeLine; decide), fun t4 ht4 => ?_⟩
      generalize hH7 : upd H6 t4 _ = H7
      obtain ⟨st4, et4⟩ := freshF ht4 hH7
      refine ⟨(by show 2 ≤ sizeLine; decide), fun t5 ht5 => ?_⟩
      generalize hH8 : upd H7 t5 _ = H8
      obtain ⟨st5, et5⟩ := freshF ht5 hH8
      refine ⟨(by show 2 ≤ sizeLine; decide), fun t6 ht6 => ?_⟩
      generalize hH9 : upd H8 t6 _ = H9
      obtain ⟨st6, et6⟩ := freshF ht6 hH9
      have et2 : H5 t2 = some (.tup [.int 0, .int 1, .int ((i : Nat) + 1), .int 0, .ref t1]) := by rw [← e0]; exact et2
      have et4 : H7 t4 = some (.tup [.int 1, .int 2, .int ((i : Nat) + 1), .int 0, .ref t3]) := by rw [← e0]; exact et4
      have s39 := st1.trans (st2.trans (st3.trans (st4.trans (st5.trans st6))))
      refine ⟨ys, s39 _ _ e3, ?_, ys ++ [.ref t6], upd_same, ?_, fun g' => ?_⟩
      · rw [(hys N).len, List.length_map, List.length_range, sizeLine_eq]
        omega
      · intro b o eb
        rw [upd_ne (ne_of_none eb hN)]
        exact s39 _ _ (s3 _ _ eb)
      · rw [List.range_succ, List.map_append]
        have k1 : DVs g' H9 ys ((List.range i).map fun a : Nat => ntD (farN (a : Nat))) := (hys g').keep (Kv.of s39)
        have hp : purs ((List.range i).map fun a : Nat => ntD (farN (a : Nat))) = true := by
          rw [purs_all, List.all_eq_true]
          intro d hd
          obtain ⟨a, _, rfl⟩ := List.mem_map.mp hd
          rfl
        have kt : Kt H9 (upd H9 N (.lst (ys ++ [.ref t6]))) := Kt.put (s39 _ _ e3)
        refine (k1.keepP kt hp).app (.cons (DV.keepP (g := g') kt (farN_pur _) ?_) .nil)
        refine .tup et6 (by show 2 ≤ 20000; decide) (.cons (.int _) (.cons (.tup (st6 _ _ et5) (by show 2 ≤ 20000; decide) (.cons (.tup ((st3.trans (st4.trans (st5.trans st6))) _ _ et2) (by show 5 ≤ 20000; decide) (.cons (.int _) (.cons (.int _) (.cons (.int _) (.cons (.int _) (.cons (.tup ((st2.trans (st3.trans (st4.trans (st5.trans st6)))) _ _ et1) (by show 1 ≤ 20000; decide) (.cons (.int _) .nil)) .nil)))))) (.cons (.tup ((st5.trans st6) _ _ et4) (by show 5 ≤ 20000; decide) (.cons (.int _) (.cons (.int _) (.cons (.int _) (.cons (.int _) (.cons (.tup ((st4.trans (st5.trans st6)) _ _ et3) (by show 0 ≤ 20000; decide) .nil) .nil)))))) .nil))) .nil))
    · rintro H3 ⟨ys, e3, s3, hys⟩
      rw [hDn] at hys
      refine ⟨_, rfl, .inl ⟨rfl, _, SqL.of e3⟩, _, rfl, (by show 2 ≤ sizeLine; decide), fun t1 ht1 => ?_⟩
      generalize hH4 : upd H3 t1 _ = H4
      obtain ⟨st1, et1⟩ := freshF ht1 hH4
      refine ⟨(by show 5 ≤ sizeLine; decide), fun t2 ht2 => ?_⟩
      generalize hH5 : upd H4 t2 _ = H5
      obtain ⟨st2, et2⟩ := freshF ht2 hH5
      refine ⟨(by show 1 ≤ sizeLine; decide), fun t3 ht3 => ?_⟩
      generalize hH6 : upd H5 t3 _ = H6
      obtain ⟨st3, et3⟩ := freshF ht3 hH6
      refine ⟨(by show 2 ≤ sizeLine; decide), fun t4 ht4 => ?_⟩
      generalize hH7 : upd H6 t4 _ = H7
      obtain ⟨st4, et4⟩ := freshF ht4 hH7
      have s37 := st1.trans (st2.trans (st3.trans st4))
      refine ⟨N, ys, _, rfl, rfl, s37 _ _ e3, by rw [(hys N).len, List.length_map, List.length_range, sizeLine_eq]; omega, ?_⟩
      have nt4 : t4 ≠ N := (ne_of_none ((st1.trans (st2.trans st3)) _ _ e3) ht4).symm
      have hp : purs ((List.range D).map fun a : Nat => ntD (farN (a : Nat))) = true := by
        rw [purs_all, List.all_eq_true]
        intro d hd
        obtain ⟨a, _, rfl⟩ := List.mem_map.mp hd
        rfl
      generalize hH8 : upd H7 N _ = H8
      have kt78 : Kt H7 H8 := by rw [← hH8]; exact Kt.put (s37 _ _ e3)
      have e8 : H8 N = some (.lst (ys ++ [.ref t4])) := by rw [← hH8, upd_same]
      have s28 : Same H2 H8 := fun b o eb => by
        rw [← hH8, upd_ne (ne_of_none eb hN)]
        exact s37 _ _ (s3 _ _ eb)
      have hys8 : ∀ g', DVs g' H8 (ys ++ [.ref t4]) ((farNs D (1 + b1)).map ntD) := by
        intro g'
        unfold farNs
        rw [List.map_append, List.map_map]
        refine (((hys g').keep (Kv.of s37)).keepP kt78 hp).app (.cons (DV.keepP (g := g') kt78 rfl ?_) .nil)
        refine .tup et4 (by show 2 ≤ 20000; decide) (.cons (.int _) (.cons (.tup (st4 _ _ et3) (by show 1 ≤ 20000; decide) (.cons (.tup ((st3.trans st4) _ _ et2) (by show 5 ≤ 20000; decide) (.cons (.int _) (.cons (.int _) (.cons .non (.cons (.int _) (.cons (.tup ((st2.trans (st3.trans st4)) _ _ et1) (by show 2 ≤ 20000; decide) (.cons (.int _) (.cons (.int _) .nil))) .nil)))))) .nil)) .nil))
      clear hH8 kt78 hys e3 s37 nt4
      -- words
      refine ⟨_, rfl, (by show 1 ≤ sizeLine; decide), fun t5 ht5 => ?_⟩
      generalize hH9 : upd H8 t5 _ = H9
      obtain ⟨st5, et5⟩ := freshF ht5 hH9
      refine ⟨(by show 2 ≤ sizeLine; decide), fun t6 ht6 => ?_⟩
      generalize hHa : upd H9 t6 _ = Ha
      obtain ⟨st6, et6⟩ := freshF ht6 hHa
      refine ⟨(by show 1 ≤ sizeLine; decide), fun wl hwl => ?_⟩
      generalize hHb : upd Ha wl _ = Hb
      obtain ⟨swl, ewl⟩ := freshF hwl hHb
      have s2b := s28.trans (st5.trans (st6.trans swl))
      have s8b := st5.trans (st6.trans swl)
      have et6 : Ha t6 = some (.tup [.int (D : Nat), .ref t5]) := by rw [← hD]; exact et6
      have hwl8 : H8 wl = none := (st5.trans st6).free hwl
      have hwl2 : H2 wl = none := s28.free hwl8
      refine ⟨_, rfl, _, rfl, by omega, by omega, ?_⟩
      refine for_it (walk_range (lo := 0) (n := (2 + u1).toNat)) (fun i σ H' => ∃ (zs : List V) (v5 : Option V), σ = [some (.ref d), some (.int (2 + u1)), some (.int (1 + b1)), some (.ref N), some (.ref wl), v5, none] ∧ Same H8 H' ∧ H' wl = some (.lst zs) ∧ ∀ g', DVs g' H' zs (.tup [.int (D : Nat), .tup [.int 0]] :: (List.range i).map (lineW D)))
        ⟨_, _, rfl, s8b, ewl, fun g' => .cons (.tup (swl _ _ et6) (by show 2 ≤ 20000; decide) (.cons (.int _) (.cons (.tup ((st6.trans swl) _ _ et5) (by show 1 ≤ 20000; decide) (.cons (.int _) .nil)) .nil))) .nil⟩ (fun _ _ _ _ _ => trivial) ?_ ?_
      · rintro i x σ Hc Hcz hi ⟨zs, v5, rfl, sc, ec, hzs⟩ ⟨rfl, rfl⟩
        have hi : i < D := by omega
        have e0 : (0 : Int) + (i : Nat) = (i : Nat) := Int.zero_add _
        refine ⟨_, rfl, .inl ⟨rfl, _, SqL.of ec⟩, _, rfl, _, _, rfl, rfl, _, rfl, _, _, rfl, rfl, _, rfl, (by show 2 ≤ sizeLine; decide), fun p1 hp1 => ?_⟩
        generalize hHd : upd Hcz p1 _ = Hd
        obtain ⟨sp1, ep1⟩ := freshF hp1 hHd
        refine ⟨_, rfl, (by show 2 ≤ sizeLine; decide), fun p2 hp2 => ?_⟩
        generalize hHe : upd Hd p2 _ = He
        obtain ⟨sp2, ep2⟩ := freshF hp2 hHe
        refine ⟨(by show 2 ≤ sizeLine; decide), fun p3 hp3 => ?_⟩
        generalize hHf : upd He p3 _ = Hf
        obtain ⟨sp3, ep3⟩ := freshF hp3 hHf
        refine ⟨(by show 2 ≤ sizeLine; decide), fun p4 hp4 => ?_⟩
        generalize hHg : upd Hf p4 _ = Hg
        obtain ⟨sp4, ep4⟩ := freshF hp4 hHg
        have ep1 : Hd p1 = some (.tup [.int 0, .int (i : Nat)]) := by rw [← e0]; exact ep1
        have ep2 : He p2 = some (.tup [.int 1, .int (i : Nat)]) := by rw [← e0]; exact ep2
        have ep4 : Hg p4 = some (.tup [.int (((D : Nat) : Int) - 1 - (i : Nat)), .ref p3]) := by rw [← e0, ← hD]; exact ep4
        have scg := sp1.trans (sp2.trans (sp3.trans sp4))
        have hpz : purs (.tup [.int (D : Nat), .tup [.int 0]] :: (List.range i).map (lineW D)) = true := by
          rw [purs_all, List.all_eq_true]
          intro d' hd'
          rcases List.mem_cons.mp hd' with rfl | hd'
          · rfl
          · obtain ⟨a, _, rfl⟩ := List.mem_map.mp hd'
            rfl
        have kt := Kt.put (o := .lst (zs ++ [.ref p4])) (scg _ _ ec)
        refine ⟨wl, zs, _, rfl, rfl, scg _ _ ec, ?_, zs ++ [.ref p4], _, rfl, ?_, upd_same, fun g' => ?_⟩
        · rw [(hzs N).len, List.length_cons, List.length_map, List.length_range, sizeLine_eq]
          omega
        · intro b o eb
          rw [upd_ne (ne_of_none eb hwl8)]
          exact scg _ _ (sc _ _ eb)
        · rw [List.range_succ, List.map_append, ← List.cons_append]
          refine (((hzs g').keep (Kv.of scg)).keepP kt hpz).app (.cons (DV.keepP (g := g') kt rfl ?_) .nil)
          exact .tup ep4 (by show 2 ≤ 20000; decide) (.cons (.int _) (.cons (.tup (sp4 _ _ ep3) (by show 2 ≤ 20000; decide) (.cons (.tup ((sp2.trans (sp3.trans sp4)) _ _ ep1) (by show 2 ≤ 20000; decide) (.cons (.int _) (.cons (.int _) .nil))) (.cons (.tup ((sp3.trans sp4) _ _ ep2) (by show 2 ≤ 20000; decide) (.cons (.int _) (.cons (.int _) .nil))) .nil))) .nil))
      · rintro σ Hc ⟨zs, v5, rfl, sc, ec, hzs⟩
        rw [hDn] at hzs
        have hzs : ∀ g', DVs g' Hc zs (lineWs D) := hzs
        refine ⟨_, rfl, D, by rw [hD] <;> rfl, by omega, fun Hd sd => ?_⟩
        refine ⟨_, rfl, N, _, rfl, .inl ⟨SqL.of (sd _ _ (sc _ _ e8)), fun q1 hq1 => ?_⟩⟩
        generalize hHe : upd Hd q1 _ = He
        obtain ⟨sq1, eq1⟩ := freshF hq1 hHe
        refine ⟨(by show 2 ≤ sizeLine; decide), fun q2 hq2 => ?_⟩
        generalize hHf : upd He q2 _ = Hf
        obtain ⟨sq2, eq2⟩ := freshF hq2 hHf
        refine ⟨_, rfl, _, rfl, _, _, rfl, rfl, .inl ⟨by decide, by decide⟩, _, rfl, _, _, rfl, rfl, (by show 2 ≤ sizeLine; decide), fun q3 hq3 => ?_⟩
        generalize hHg : upd Hf q3 _ = Hg
        obtain ⟨sq3, eq3⟩ := freshF hq3 hHg
        refine ⟨_, rfl, _, rfl, _, _, rfl, rfl, .inl ⟨by omega, by omega⟩, (by show 2 ≤ sizeLine; decide), fun q4 hq4 => ?_⟩
        generalize hHh : upd Hg q4 _ = Hh
        obtain ⟨sq4, eq4⟩ := freshF hq4 hHh
        refine ⟨(by show 3 ≤ sizeLine; decide), fun q5 hq5 => ?_⟩
        generalize hHi : upd Hh q5 _ = Hi
        obtain ⟨sq5, eq5⟩ := freshF hq5 hHi
        have sdi := sq1.trans (sq2.trans (sq3.trans (sq4.trans sq5)))
        have s2i := s28.trans (sc.trans (sd.trans sdi))
        refine k q5 wl _ _ zs D (1 + b1) Hi hDl hb0 (S2.keep s2i) (kp02.trans (Kp.of s2i)) eq5 ((sd.trans sdi) _ _ ec) (kp02.free S2 hwl2) (fun g' => ⟨?_, (hzs g').keep (Kv.of (sd.trans sdi)), ?_⟩) (line_pur D)
        · refine .tup ((sq3.trans (sq4.trans sq5)) _ _ eq2) (by show 2 ≤ 20000; decide) (.cons (.int _) (.cons (.tup ((sq2.trans (sq3.trans (sq4.trans sq5))) _ _ eq1) (by rw [List.length_map]; show (farNs D (1 + b1)).length ≤ _; rw [far_len]; omega) ((hys8 g').keep (Kv.of (sc.trans (sd.trans sdi))))) .nil))
        · exact .tup (sq5 _ _ eq4) (by show 2 ≤ 20000; decide) (.cons (.tup ((sq4.trans sq5) _ _ eq3) (by show 2 ≤ 20000; decide) (.cons (.int _) (.cons (.int _) .nil))) (.cons (.int _) .nil))
end
end K66

set_option Elab.async false
set_option linter.all false
set_option pp.maxSteps 900
set_option maxRecDepth 100000
set_option maxHeartbeats 4000000
namespace K66
open PySem PySem.Spec PyProof.Rows L2
open TL (tl)
abbrev sSt : Stmt := top 49
theorem catA_of {K : PySem.W.Frag} {a b : Addr} {xs ys : List V} {H : Hp} {Q : VK} (ha : H a = some (.tup xs)) (hb : H b = some (.tup ys)) (hs : xs.length + ys.length ≤ sizeLine) (k : ∀ r H', Same H H' → H' r = some (.tup (xs ++ ys)) → Q (.ref r) H') : rCatA K (.ref a) (.ref b) H Q := by
  refine ⟨a, b, xs, ys, rfl, rfl, SqT.of ha, SqT.of hb, hs, fun h => k b H (Same.refl H) ?_, fun _ h => k a H (Same.refl H) ?_, fun _ _ p hp => k p _ (same_new hp) upd_same⟩
  · rw [h]
    exact hb
  · rw [h, List.append_nil]
    exact ha
theorem slA_of {K : PySem.W.Frag} {a : Addr} {xs : List V} {lo hi : Option Int} {H : Hp} {Q : VK} (ha : H a = some (.tup xs)) (k : ∀ r H', Same H H' → H' r = some (.tup (cutV xs lo hi)) → Q (.ref r) H') : rSlA K (.ref a) lo hi H Q := by
  refine ⟨a, xs, rfl, SqT.of ha, fun h => k a H (Same.refl H) ?_, fun _ p hp => k p _ (same_new hp) upd_same⟩
  unfold cutV
  rw [h.1, h.2, Nat.sub_zero, List.drop_zero, List.take_length]
  exact ha
theorem DVs.drop {g : Addr} {H : Hp} : ∀ {xs : List V} {ds : List Dt} (n : Nat), DVs g H xs ds → DVs g H (xs.drop n) (ds.drop n)
  | _, _, 0, h => h
  | _, _, _ + 1, .nil => .nil
  | _, _, n + 1, .cons _ r => DVs.drop n r
theorem DVs.take {g : Addr} {H : Hp} : ∀ {xs : List V} {ds : List Dt} (n : Nat), DVs g H xs ds → DVs g H (xs.take n) (ds.take n)
  | _, _, 0, h => .nil
  | _, _, _ + 1, .nil => .nil
  | _, _, n + 1, .cons h r => .cons h (DVs.take n r)
theorem DVs.set {g : Addr} {H : Hp} {v : V} {d : Dt} (hv : DV g H v d) : ∀ {xs : List V} {ds : List Dt} (n : Nat), DVs g H xs ds → DVs g H (xs.set n v) (ds.set n d)
  | _, _, _, .nil => .nil
  | _, _, 0, .cons _ r => .cons hv r
  | _, _, n + 1, .cons h r => .cons h (DVs.set hv n r)
theorem purs_of {l : List Dt} (h : ∀ d ∈ l, pur d = true) : purs l = true := by
  rw [purs_all]
  exact List.all_eq_true.mpr h
theorem purs_set {l : List Dt} {d : Dt} {n : Nat} (h : purs l = true) (hd : pur d = true) : purs (l.set n d) = true := by
  refine purs_of fun x hx => ?_
  rcases List.mem_or_eq_of_mem_set hx with hx | rfl
  · exact purs_mem h hx
  · exact hd
theorem purs_erase {l : List Dt} {n : Nat} (h : purs l = true) : purs (l.eraseIdx n) = true := purs_of fun x hx => purs_mem h (List.mem_of_mem_eraseIdx hx)
theorem purs_app {a b : List Dt} (ha : purs a = true) (hb : purs b = true) : purs (a ++ b) = true := purs_of fun x hx => by
  rcases List.mem_append.mp hx with hx | hx
  · exact purs_mem ha hx
  · exact purs_mem hb hx
theorem purW_of {l : List Dt} (h : purs l = true) : PurW (.lst l) := fun ws e a sd hm => by
  obtain rfl := Option.some.inj e
  have := purs_mem h hm
  have : (pur a && (pur sd && true)) = true := this
  rw [Bool.and_eq_true, Bool.and_eq_true] at this
  exact ⟨this.1, fun _ => this.2.1⟩
theorem purW_app {l : List Dt} {a0 sd0 : Dt} (h : purs l = true) (ha : pur a0 = true) (hs : isTup sd0 = true → pur sd0 = true) : PurW (.lst (l ++ [.tup [a0, sd0]])) := fun ws e a sd hm => by
  obtain rfl := Option.some.inj e
  rcases List.mem_append.mp hm with hm | hm
  · exact purW_of h _ rfl a sd hm
  · have := List.mem_singleton.mp hm
    injection this with this
    injection this with e1 e2
    injection e2 with e2 e3
    subst e1
    subst e2
    exact ⟨ha, hs⟩
theorem str_ok {k : Int} (h0 : 0 ≤ k) (h1 : k ≤ 8010) : PyData.strOk (Str.ofString (toString k)) = true ∧ (Str.ofString (toString k)).length ≤ 10000 := by
  constructor
  · have h := PySem.W.KSb.asc_num k
    unfold PyData.strOk
    rw [← Array.all_toList]
    exact List.all_eq_true.mpr fun c hc => decide_eq_true (Nat.lt_trans (h c hc) (by decide))
  · have := PySem.W.KT.len_num h0 (by omega : k < 10 ^ 10)
    omega
theorem log_ok {k : Int} (h0 : 0 ≤ k) (h1 : k ≤ 8010) : k.natAbs.log2 < 1920 := by
  by_cases h : k.natAbs = 0
  · rw [h]
    decide
  · refine (Nat.log2_lt h).mpr (Nat.lt_of_lt_of_le (show k.natAbs < 2 ^ 13 by omega) (Nat.pow_le_pow_right (by decide) (by decide)))
def spSt : Sp := fun vs H Q _ => ∃ (d g c wa : Addr) (n : Nat) (xs : List V) (ws : List Dt), vs = [.ref d, .ref wa] ∧ StA H d g c n ∧ n ≤ 700000000 ∧ H wa = some (.lst xs) ∧ wa ≠ g ∧ DVs g H xs ws ∧ purs ws = true ∧ ws.length ≤ 12 ∧
  (∀ w ∈ ws, ∃ (m : Int) (ss : List Dt), w = .tup [.int m, .tup ss] ∧ ss.length ≤ 1000 ∧ ∀ s ∈ ss, ∃ k : Int, 0 ≤ k ∧ k ≤ 8000 ∧ (s = .int k ∨ ∃ j : Int, s = .tup [.int k, .int j])) ∧
  ∀ (v : V) (d' : Dt) (H' : Hp), StA H' d g c (n + 20) → Kp d g H H' → DV g H' v d' → PurW d' → Q v H'
section
variable {P : Program} {w : World} {K : PySem.W.Frag} {mg : Str → Option Value} {base : Heap}
theorem scSt : FnScope ["state", "words", "found", "at", "net", "steps", "way", "spot", "step", "k", "other", "later"] ["state", "words"] (defScope sSt) := ⟨rfl, rfl, rfl, by decide +kernel, rfl, by decide +kernel, by decide +kernel⟩
theorem ok_st {f : Addr} {fd : FuncData} (F : Fun K "_law_strange" "_law_strange" sSt f fd) (T : Bn mg) (cD : Cl P w K mg base "_law_draw" ["state", "room"] 2 spDrw) (cP : Cl P w K mg base "_law_pick" ["state", "some"] 3 spPck) (cWh : Cl P w K mg base "_law_wb_wholes" ["value"] 1 (spAsk wholesB)) :
    FnOk P w K mg base CX0 4 f fd ["state", "words"] spSt := by
  obtain ⟨fD, fdD, GD, mD, kD, bD⟩ := cD
  obtain ⟨fP, fdP, GP, mP, kP, bP⟩ := cP
  obtain ⟨fWh, fdWh, GWh, mWh, kWh, bWh⟩ := cWh
  refine F.ok scSt (fun vs H Q E h => ?_) (fun cdv A outer s H vs Q E hr h => ?_)
  · obtain ⟨a1, a2, a3, a4, a5, a6, a7, rfl, _⟩ := h
    rfl
  · obtain ⟨d, g, c, wa, n, xs, ws, rfl, S, hn, ewa, nwg, hws, hpu, hwl, hsh, k⟩ := h
    have hr1 : Room 1 _ := hr.mono (by decide)
    have hr2 : Room 2 _ := hr.mono (by decide)
    refine ⟨_, (pss_cons (ps_set (i := 2) scSt.nd rfl (Or.inl rfl) (pe_callTy call_list_of (by rfl) T.lst (by decide +kernel) (pa_cons (pv 1) pa_nil)))
      (pss_mid (ps_if (PW.pt (pw_or (pt_cmpR (op_eqNil hr.units) (pv 2) (pe_lst pa_nil) (nomark _)) (pw_or1 (pt_cmpR op_eq (pe_call GD hr2 (by rfl) mD kD bD .nil pass0 (pa_cons (pv 0) (pa_cons pe_int pa_nil))) pe_int (nomark _))))) (pss_one (ps_ret (pe_call GP hr (by rfl) mP kP bP .nil pass0 (pa_cons (pv 0) (pa_cons (pe_lst (pa_cons pe_non (pa_cons pe_str (pa_cons pe_int (pa_cons (pe_lst (pa_cons pe_non pa_nil)) (pa_cons (pe_lst (pa_cons (pe_tup pa_nil) pa_nil)) (pa_cons (pe_lst (pa_cons (pe_tup (pa_cons pe_int pa_nil)) pa_nil)) (pa_cons (pe_op op_cat (pv 2) (pe_lst (pa_cons (pe_tup (pa_cons pe_int (pa_cons (pe_lst pa_nil) pa_nil))) pa_nil))) (pa_cons (pe_op op_cat (pv 2) (pe_lst (pa_cons (pe_tup (pa_cons pe_int (pa_cons (pe_tup pa_nil) pa_nil))) pa_nil))) (pa_cons (pe_op op_cat (pv 2) (pe_lst (pa_cons (pe_tup (pa_cons pe_bl (pa_cons (pe_tup pa_nil) pa_nil))) pa_nil))) pa_nil)))))))))) pa_nil))))) pss_nil)
      (pss_cons (ps_set (i := 3) scSt.nd rfl (Or.inl rfl) (pe_call GD hr2 (by rfl) mD kD bD .nil pass0 (pa_cons (pv 0) (pa_cons (pe_callB call_len_seq (by rfl) T.len PySem.boot_len (pa_cons (pv 2) pa_nil)) pa_nil))))
      (pss_cons (ps_asg (pe_ix ix_list (pv 2) (pv 3) (fun _ _ => rfl)) (pg_tup (by rfl) (pgs_cons (pg_name (i := 4) scSt.nd rfl (Or.inl rfl)) (pgs_cons (pg_name (i := 5) scSt.nd rfl (Or.inl rfl)) pgs_nil))))
      (pss_cons (ps_set (i := 6) scSt.nd rfl (Or.inl rfl) (pe_call GD hr2 (by rfl) mD kD bD .nil pass0 (pa_cons (pv 0) (pa_cons pe_int pa_nil))))
      (pss_mid (ps_if (PW.pt (pw_or (pt_cmpR op_eq (pv 6) pe_int (nomark _)) (pw_or1 (pt_cmpR (op_eqD hr.units) (pv 5) (pe_tup pa_nil) (nomark _))))) (pss_one (ps_asg (pe_tup (pa_cons (pe_call GP hr (by rfl) mP kP bP .nil pass0 (pa_cons (pv 0) (pa_cons (pe_lst (pa_cons (pe_op op_add (pv 4) pe_int) (pa_cons (pe_op op_sub (pv 4) pe_int) (pa_cons pe_non (pa_cons pe_bl (pa_cons pe_int pa_nil)))))) pa_nil))) (pa_cons (pv 5) pa_nil))) (pg_sub (pv 2) (pv 3) set_list))) (pss_one (ps_if (pt_cmpR op_eq (pv 6) pe_int (nomark _)) (pss_one (ps_expr (qPopAt (pv 2) (pv 3)))) (pss_cons (ps_set (i := 7) scSt.nd rfl (Or.inl rfl) (pe_call GD hr2 (by rfl) mD kD bD .nil pass0 (pa_cons (pv 0) (pa_cons (pe_callB call_len_seq (by rfl) T.len PySem.boot_len (pa_cons (pv 5) pa_nil)) pa_nil))))
              (pss_cons (ps_set (i := 8) scSt.nd rfl (Or.inl rfl) (pe_ix ix_tup (pv 5) (pv 7) (fun _ _ => rfl)))
              (pss_mid (ps_set (i := 9) scSt.nd rfl (Or.inl rfl) (pe_ifExp (pt_val (pe_call GWh hr1 (by rfl) mWh kWh bWh .nil pass0 (pa_cons (pe_lst (pa_cons (pv 8) pa_nil)) pa_nil))) (pv 8) (pe_ix ix_tup (pv 8) pe_int (fun _ _ => rfl))))
              (pss_cons (ps_set (i := 10) scSt.nd rfl (Or.inl rfl) (pe_call GP hr (by rfl) mP kP bP .nil pass0 (pa_cons (pv 0) (pa_cons (pe_lst (pa_cons (pe_op op_add (pv 9) pe_int) (pa_cons (pe_op op_sub (pv 9) pe_int) (pa_cons (pe_tup (pa_cons (pv 9) (pa_cons pe_int pa_nil))) (pa_cons (pe_tup (pa_cons (pv 9) (pa_cons (pv 3) pa_nil))) (pa_cons (pe_tup (pa_cons (pv 9) (pa_cons (pe_op op_sub (pv 3) pe_int) pa_nil))) (pa_cons (pv 9) (pa_cons (pe_tup (pa_cons (pv 9) pa_nil)) (pa_cons (pe_tup (pa_cons (pv 9) (pa_cons pe_non pa_nil))) (pa_cons (pe_tup (pa_cons (pv 9) (pa_cons pe_bl pa_nil))) (pa_cons (pe_callTy call_str_int (by rfl) T.str (by decide +kernel) (pa_cons (pv 9) pa_nil)) (pa_cons (pe_tup (pa_cons (pv 9) (pa_cons (pe_callB call_len_seq (by rfl) T.len PySem.boot_len (pa_cons (pv 1) pa_nil)) pa_nil))) pa_nil)))))))))))) pa_nil))))
              (pss_mid (ps_set (i := 11) scSt.nd rfl (Or.inl rfl) (pe_ifExp (pt_cmpR op_lt (pv 6) pe_int (nomark _)) (pe_slice sl_tupA (pv 5) (po_some (pe_op op_add (pv 7) pe_int)) po_none) (pe_slice sl_tupA (pv 5) (po_some (pv 7)) po_none)))
              (pss_one (ps_asg (pe_tup (pa_cons (pv 4) (pa_cons (pe_op op_catA (pe_op op_catA (pe_slice sl_tupA (pv 5) po_none (po_some (pv 7))) (pe_tup (pa_cons (pv 10) pa_nil))) (pv 11)) pa_nil))) (pg_sub (pv 2) (pv 3) set_list)))))))))))
      (pss_one (ps_ret (pv 2))))))))), ?_⟩
    have hxl := hws.len
    refine ⟨_, rfl, wa, _, rfl, .inl (SqL.of ewa), fun p hp => ?_⟩
    generalize hH1 : upd H p _ = H1
    obtain ⟨sp, ep⟩ := freshF hp hH1
    have fp := S.free hp
    have S1 := S.keep sp
    have hws1 := hws.keep (Kv.of sp)
    refine ⟨fun σ H' => σ = [some (.ref d), some (.ref wa), some (.ref p), none, none, none, none, none, none, none, none, none] ∧ xs ≠ [] ∧ StA H' d g c (n + 1) ∧ Kp d g H H' ∧ H' p = some (.lst xs) ∧ DVs g H' xs ws, ?_, ?_⟩
    · refine ⟨_, rfl, Nat.zero_le _, fun e0 he0 => ?_⟩
      generalize hH2 : upd H1 e0 _ = H2
      obtain ⟨se0, ee0⟩ := freshF he0 hH2
      refine ⟨p, e0, _, rfl, rfl, SqL.of (se0 _ _ ep), SqL.of ee0, _, rfl, ?_⟩
      have S2 := S1.keep se0
      have ep2 := se0 _ _ ep
      have hws2 := hws1.keep (Kv.of se0)
      have kp2 : Kp d g H H2 := (Kp.of sp).trans (Kp.of se0)
      by_cases hx : xs = []
      · refine ifT (by rw [hx]; rfl) (ifT rfl ?_)
        refine ⟨_, rfl, (by show 1 ≤ sizeLine; decide), fun a1 ha1 => ?_⟩
        generalize hG1 : upd H2 a1 _ = G1
        obtain ⟨sa1, ea1⟩ := freshF ha1 hG1
        refine ⟨(by show 0 ≤ sizeLine; decide), fun a2 ha2 => ?_⟩
        generalize hG2 : upd G1 a2 _ = G2
        obtain ⟨sa2, ea2⟩ := freshF ha2 hG2
        refine ⟨(by show 1 ≤ sizeLine; decide), fun a3 ha3 => ?_⟩
        generalize hG3 : upd G2 a3 _ = G3
        obtain ⟨sa3, ea3⟩ := freshF ha3 hG3
        refine ⟨(by show 1 ≤ sizeLine; decide), fun a4 ha4 => ?_⟩
        generalize hG4 : upd G3 a4 _ = G4
        obtain ⟨sa4, ea4⟩ := freshF ha4 hG4
        refine ⟨(by show 1 ≤ sizeLine; decide), fun a5 ha5 => ?_⟩
        generalize hG5 : upd G4 a5 _ = G5
        obtain ⟨sa5, ea5⟩ := freshF ha5 hG5
        have t5 := sa1.trans (sa2.trans (sa3.trans (sa4.trans sa5)))
        refine ⟨_, rfl, Nat.zero_le _, fun a6 ha6 => ?_⟩
        generalize hG6 : upd G5 a6 _ = G6
        obtain ⟨sa6, ea6⟩ := freshF ha6 hG6
        refine ⟨(by show 2 ≤ sizeLine; decide), fun a7 ha7 => ?_⟩
        generalize hG7 : upd G6 a7 _ = G7
        obtain ⟨sa7, ea7⟩ := freshF ha7 hG7
        refine ⟨(by show 1 ≤ sizeLine; decide), fun a8 ha8 => ?_⟩
        generalize hG8 : upd G7 a8 _ = G8
        obtain ⟨sa8, ea8⟩ := freshF ha8 hG8
        have t8 := t5.trans (sa6.trans (sa7.trans sa8))
        refine ⟨p, a8, _, _, rfl, rfl, t8 _ _ ep2, ea8, by rw [sizeLine_eq]; show _ + 1 ≤ _; omega, fun a9 ha9 => ?_⟩
        generalize hG9 : upd G8 a9 _ = G9
        obtain ⟨sa9, ea9⟩ := freshF ha9 hG9
        have t9 := t8.trans sa9
        refine ⟨_, rfl, (by show 0 ≤ sizeLine; decide), fun b1 hb1 => ?_⟩
        generalize hJ1 : upd G9 b1 _ = J1
        obtain ⟨sb1, eb1⟩ := freshF hb1 hJ1
        refine ⟨(by show 2 ≤ sizeLine; decide), fun b2 hb2 => ?_⟩
        generalize hJ2 : upd J1 b2 _ = J2
        obtain ⟨sb2, eb2⟩ := freshF hb2 hJ2
        refine ⟨(by show 1 ≤ sizeLine; decide), fun b3 hb3 => ?_⟩
        generalize hJ3 : upd J2 b3 _ = J3
        obtain ⟨sb3, eb3⟩ := freshF hb3 hJ3
        have u3 := t9.trans (sb1.trans (sb2.trans sb3))
        refine ⟨p, b3, _, _, rfl, rfl, u3 _ _ ep2, eb3, by rw [sizeLine_eq]; show _ + 1 ≤ _; omega, fun b4 hb4 => ?_⟩
        generalize hJ4 : upd J3 b4 _ = J4
        obtain ⟨sb4, eb4⟩ := freshF hb4 hJ4
        have u4 := u3.trans sb4
        refine ⟨_, rfl, (by show 0 ≤ sizeLine; decide), fun c1 hc1 => ?_⟩
        generalize hL1 : upd J4 c1 _ = L1
        obtain ⟨sc1, ec1⟩ := freshF hc1 hL1
        refine ⟨(by show 2 ≤ sizeLine; decide), fun c2 hc2 => ?_⟩
        generalize hL2 : upd L1 c2 _ = L2
        obtain ⟨sc2, ec2⟩ := freshF hc2 hL2
        refine ⟨(by show 1 ≤ sizeLine; decide), fun c3 hc3 => ?_⟩
        generalize hL3 : upd L2 c3 _ = L3
        obtain ⟨sc3, ec3⟩ := freshF hc3 hL3
        have v3 := u4.trans (sc1.trans (sc2.trans sc3))
        refine ⟨p, c3, _, _, rfl, rfl, v3 _ _ ep2, ec3, by rw [sizeLine_eq]; show _ + 1 ≤ _; omega, fun c4 hc4 => ?_⟩
        generalize hL4 : upd L3 c4 _ = L4
        obtain ⟨sc4, ec4⟩ := freshF hc4 hL4
        have v4 := v3.trans sc4
        refine ⟨(by show 9 ≤ sizeLine; decide), fun q hq => ?_⟩
        generalize hL5 : upd L4 q _ = L5
        obtain ⟨sq, eq⟩ := freshF hq hL5
        have v5 := v4.trans sq
        obtain ⟨_, _, _, _, S1⟩ := id S2
        have gl : ∀ {Hx : Hp} {a : Addr}, Same H2 Hx → Hx a = none → a ≠ g := fun sx hx => (ne_of_none (sx _ _ S1.gl) hx).symm
        refine ⟨d, g, c, q, _, _, rfl, S2.keep v5, by omega, eq, gl v4 hq, by simp, (by show 9 ≤ 1000000; decide), fun v H9 hv S9 kp9 => ?_⟩
        have hk9 : Kv g L5 H9 := Kv.kp (S2.keep v5) kp9
        have hx5 : ∀ {Hx : Hp}, Same H2 Hx → DVs g Hx xs ws := fun sx => hws2.keep (Kv.of sx)
        have kpz := kp2.trans ((Kp.of v5).trans kp9)
        have S9 := S9.mono (show _ ≤ n + 20 by omega)
        simp only [List.mem_cons, List.not_mem_nil, or_false] at hv
        rcases hv with rfl | rfl | rfl | rfl | rfl | rfl | rfl | rfl | rfl
        · exact k _ .non H9 S9 kpz .non (fun ws e => by cases e)
        · exact k _ (.str _) H9 S9 kpz (.str (by decide +kernel)) (fun ws e => by cases e)
        · exact k _ (.int 0) H9 S9 kpz (.int 0) (fun ws e => by cases e)
        · refine k _ (.lst [.non]) H9 S9 kpz (DV.keep hk9 ?_) (purW_of rfl)
          exact .lst ((sa2.trans (sa3.trans (sa4.trans (sa5.trans (sa6.trans (sa7.trans (sa8.trans (sa9.trans (sb1.trans (sb2.trans (sb3.trans (sb4.trans (sc1.trans (sc2.trans (sc3.trans (sc4.trans sq)))))))))))))))) _ _ ea1) (gl (Same.refl _) ha1) (by show 1 ≤ 20000; decide) (.cons .non .nil)
        · refine k _ (.lst [.tup []]) H9 S9 kpz (DV.keep hk9 ?_) (purW_of rfl)
          have r3 := sa4.trans (sa5.trans (sa6.trans (sa7.trans (sa8.trans (sa9.trans (sb1.trans (sb2.trans (sb3.trans (sb4.trans (sc1.trans (sc2.trans (sc3.trans (sc4.trans sq)))))))))))))
          exact .lst (r3 _ _ ea3) (gl (sa1.trans sa2) ha3) (by show 1 ≤ 20000; decide) (.cons (.tup ((sa3.trans r3) _ _ ea2) (by show 0 ≤ 20000; decide) .nil) .nil)
        · refine k _ (.lst [.tup [.int 0]]) H9 S9 kpz (DV.keep hk9 ?_) (purW_of rfl)
          have r5 := sa6.trans (sa7.trans (sa8.trans (sa9.trans (sb1.trans (sb2.trans (sb3.trans (sb4.trans (sc1.trans (sc2.trans (sc3.trans (sc4.trans sq)))))))))))
          exact .lst (r5 _ _ ea5) (gl (sa1.trans (sa2.trans (sa3.trans sa4))) ha5) (by show 1 ≤ 20000; decide) (.cons (.tup ((sa5.trans r5) _ _ ea4) (by show 1 ≤ 20000; decide) (.cons (.int _) .nil)) .nil)
        · refine k _ (.lst (ws ++ [.tup [.int 0, .lst []]])) H9 S9 kpz (DV.keep hk9 ?_) (purW_app hpu rfl (fun h => by cases h))
          have r9 := sb1.trans (sb2.trans (sb3.trans (sb4.trans (sc1.trans (sc2.trans (sc3.trans (sc4.trans sq)))))))
          have r7 := sa8.trans (sa9.trans r9)
          exact .lst (r9 _ _ ea9) (gl t8 ha9) (by rw [List.length_append]; show _ + 1 ≤ _; omega) ((hx5 v5).app (.cons (.tup (r7 _ _ ea7) (by show 2 ≤ 20000; decide) (.cons (.int _) (.cons (.lst ((sa7.trans r7) _ _ ea6) (gl t5 ha6) (Nat.zero_le _) .nil) .nil))) .nil))
        · refine k _ (.lst (ws ++ [.tup [.int 9, .tup []]])) H9 S9 kpz (DV.keep hk9 ?_) (purW_app hpu rfl (fun h => rfl))
          have r4 := sc1.trans (sc2.trans (sc3.trans (sc4.trans sq)))
          have r2 := sb3.trans (sb4.trans r4)
          exact .lst (r4 _ _ eb4) (gl u3 hb4) (by rw [List.length_append]; show _ + 1 ≤ _; omega) ((hx5 v5).app (.cons (.tup (r2 _ _ eb2) (by show 2 ≤ 20000; decide) (.cons (.int _) (.cons (.tup ((sb2.trans r2) _ _ eb1) (Nat.zero_le _) .nil) .nil))) .nil))
        · refine k _ (.lst (ws ++ [.tup [.bl true, .tup []]])) H9 S9 kpz (DV.keep hk9 ?_) (purW_app hpu rfl (fun h => rfl))
          have r2 := sc3.trans (sc4.trans sq)
          exact .lst (sq _ _ ec4) (gl v3 hc4) (by rw [List.length_append]; show _ + 1 ≤ _; omega) ((hx5 v5).app (.cons (.tup (r2 _ _ ec2) (by show 2 ≤ 20000; decide) (.cons (.bl _) (.cons (.tup ((sc2.trans r2) _ _ ec1) (Nat.zero_le _) .nil) .nil))) .nil))
      · have hxe : xs.isEmpty = false := by
          cases xs with
          | nil => exact absurd rfl hx
          | cons a b => rfl
        rw [hxe]
        refine ifF rfl ⟨_, rfl, d, g, c, n, 5, rfl, S2, by omega, by decide, by decide, fun u H3 u0 u1 S3 kp3 => ⟨rfl, _, rfl, ?_⟩⟩
        have ep3 := kp3 _ _ ep2 fp.1 fp.2.1
        have hws3 := hws2.keep (Kv.kp S2 kp3)
        have kp03 := kp2.trans kp3
        by_cases hu : u = 0
        · refine ifT (by rw [hu]; exact decide_eq_true rfl) ?_
          refine ⟨_, rfl, (by show 1 ≤ sizeLine; decide), fun a1 ha1 => ?_⟩
          generalize hG1 : upd H3 a1 _ = G1
          obtain ⟨sa1, ea1⟩ := freshF ha1 hG1
          refine ⟨(by show 0 ≤ sizeLine; decide), fun a2 ha2 => ?_⟩
          generalize hG2 : upd G1 a2 _ = G2
          obtain ⟨sa2, ea2⟩ := freshF ha2 hG2
          refine ⟨(by show 1 ≤ sizeLine; decide), fun a3 ha3 => ?_⟩
          generalize hG3 : upd G2 a3 _ = G3
          obtain ⟨sa3, ea3⟩ := freshF ha3 hG3
          refine ⟨(by show 1 ≤ sizeLine; decide), fun a4 ha4 => ?_⟩
          generalize hG4 : upd G3 a4 _ = G4
          obtain ⟨sa4, ea4⟩ := freshF ha4 hG4
          refine ⟨(by show 1 ≤ sizeLine; decide), fun a5 ha5 => ?_⟩
          generalize hG5 : upd G4 a5 _ = G5
          obtain ⟨sa5, ea5⟩ := freshF ha5 hG5
          have t5 := sa1.trans (sa2.trans (sa3.trans (sa4.trans sa5)))
          refine ⟨_, rfl, Nat.zero_le _, fun a6 ha6 => ?_⟩
          generalize hG6 : upd G5 a6 _ = G6
          obtain ⟨sa6, ea6⟩ := freshF ha6 hG6
          refine ⟨(by show 2 ≤ sizeLine; decide), fun a7 ha7 => ?_⟩
          generalize hG7 : upd G6 a7 _ = G7
          obtain ⟨sa7, ea7⟩ := freshF ha7 hG7
          refine ⟨(by show 1 ≤ sizeLine; decide), fun a8 ha8 => ?_⟩
          generalize hG8 : upd G7 a8 _ = G8
          obtain ⟨sa8, ea8⟩ := freshF ha8 hG8
          have t8 := t5.trans (sa6.trans (sa7.trans sa8))
          refine ⟨p, a8, _, _, rfl, rfl, t8 _ _ ep3, ea8, by rw [sizeLine_eq]; show _ + 1 ≤ _; omega, fun a9 ha9 => ?_⟩
          generalize hG9 : upd G8 a9 _ = G9
          obtain ⟨sa9, ea9⟩ := freshF ha9 hG9
          have t9 := t8.trans sa9
          refine ⟨_, rfl, (by show 0 ≤ sizeLine; decide), fun b1 hb1 => ?_⟩
          generalize hJ1 : upd G9 b1 _ = J1
          obtain ⟨sb1, eb1⟩ := freshF hb1 hJ1
          refine ⟨(by show 2 ≤ sizeLine; decide), fun b2 hb2 => ?_⟩
          generalize hJ2 : upd J1 b2 _ = J2
          obtain ⟨sb2, eb2⟩ := freshF hb2 hJ2
          refine ⟨(by show 1 ≤ sizeLine; decide), fun b3 hb3 => ?_⟩
          generalize hJ3 : upd J2 b3 _ = J3
          obtain ⟨sb3, eb3⟩ := freshF hb3 hJ3
          have u3 := t9.trans (sb1.trans (sb2.trans sb3))
          refine ⟨p, b3, _, _, rfl, rfl, u3 _ _ ep3, eb3, by rw [sizeLine_eq]; show _ + 1 ≤ _; omega, fun b4 hb4 => ?_⟩
          generalize hJ4 : upd J3 b4 _ = J4
          obtain ⟨sb4, eb4⟩ := freshF hb4 hJ4
          have u4 := u3.trans sb4
          refine ⟨_, rfl, (by show 0 ≤ sizeLine; decide), fun c1 hc1 => ?_⟩
          generalize hL1 : upd J4 c1 _ = L1
          obtain ⟨sc1, ec1⟩ := freshF hc1 hL1
          refine ⟨(by show 2 ≤ sizeLine; decide), fun c2 hc2 => ?_⟩
          generalize hL2 : upd L1 c2 _ = L2
          obtain ⟨sc2, ec2⟩ := freshF hc2 hL2
          refine ⟨(by show 1 ≤ sizeLine; decide), fun c3 hc3 => ?_⟩
          generalize hL3 : upd L2 c3 _ = L3
          obtain ⟨sc3, ec3⟩ := freshF hc3 hL3
          have v3 := u4.trans (sc1.trans (sc2.trans sc3))
          refine ⟨p, c3, _, _, rfl, rfl, v3 _ _ ep3, ec3, by rw [sizeLine_eq]; show _ + 1 ≤ _; omega, fun c4 hc4 => ?_⟩
          generalize hL4 : upd L3 c4 _ = L4
          obtain ⟨sc4, ec4⟩ := freshF hc4 hL4
          have v4 := v3.trans sc4
          refine ⟨(by show 9 ≤ sizeLine; decide), fun q hq => ?_⟩
          generalize hL5 : upd L4 q _ = L5
          obtain ⟨sq, eq⟩ := freshF hq hL5
          have v5 := v4.trans sq
          obtain ⟨_, _, _, _, S1⟩ := id S3
          have gl : ∀ {Hx : Hp} {a : Addr}, Same H3 Hx → Hx a = none → a ≠ g := fun sx hx => (ne_of_none (sx _ _ S1.gl) hx).symm
          refine ⟨d, g, c, q, _, _, rfl, S3.keep v5, by omega, eq, gl v4 hq, by simp, (by show 9 ≤ 1000000; decide), fun v H9 hv S9 kp9 => ?_⟩
          have hk9 : Kv g L5 H9 := Kv.kp (S3.keep v5) kp9
          have hx5 : ∀ {Hx : Hp}, Same H3 Hx → DVs g Hx xs ws := fun sx => hws3.keep (Kv.of sx)
          have kpz := kp03.trans ((Kp.of v5).trans kp9)
          have S9 := S9.mono (show _ ≤ n + 20 by omega)
          simp only [List.mem_cons, List.not_mem_nil, or_false] at hv
          rcases hv with rfl | rfl | rfl | rfl | rfl | rfl | rfl | rfl | rfl
          · exact k _ .non H9 S9 kpz .non (fun ws e => by cases e)
          · exact k _ (.str _) H9 S9 kpz (.str (by decide +kernel)) (fun ws e => by cases e)
          · exact k _ (.int 0) H9 S9 kpz (.int 0) (fun ws e => by cases e)
          · refine k _ (.lst [.non]) H9 S9 kpz (DV.keep hk9 ?_) (purW_of rfl)
            exact .lst ((sa2.trans (sa3.trans (sa4.trans (sa5.trans (sa6.trans (sa7.trans (sa8.trans (sa9.trans (sb1.trans (sb2.trans (sb3.trans (sb4.trans (sc1.trans (sc2.trans (sc3.trans (sc4.trans sq)))))))))))))))) _ _ ea1) (gl (Same.refl _) ha1) (by show 1 ≤ 20000; decide) (.cons .non .nil)
          · refine k _ (.lst [.tup []]) H9 S9 kpz (DV.keep hk9 ?_) (purW_of rfl)
            have r3 := sa4.trans (sa5.trans (sa6.trans (sa7.trans (sa8.trans (sa9.trans (sb1.trans (sb2.trans (sb3.trans (sb4.trans (sc1.trans (sc2.trans (sc3.trans (sc4.trans sq)))))))))))))
            exact .lst (r3 _ _ ea3) (gl (sa1.trans sa2) ha3) (by show 1 ≤ 20000; decide) (.cons (.tup ((sa3.trans r3) _ _ ea2) (by show 0 ≤ 20000; decide) .nil) .nil)
          · refine k _ (.lst [.tup [.int 0]]) H9 S9 kpz (DV.keep hk9 ?_) (purW_of rfl)
            have r5 := sa6.trans (sa7.trans (sa8.trans (sa9.trans (sb1.trans (sb2.trans (sb3.trans (sb4.trans (sc1.trans (sc2.trans (sc3.trans (sc4.trans sq)))))))))))
            exact .lst (r5 _ _ ea5) (gl (sa1.trans (sa2.trans (sa3.trans sa4))) ha5) (by show 1 ≤ 20000; decide) (.cons (.tup ((sa5.trans r5) _ _ ea4) (by show 1 ≤ 20000; decide) (.cons (.int _) .nil)) .nil)
          · refine k _ (.lst (ws ++ [.tup [.int 0, .lst []]])) H9 S9 kpz (DV.keep hk9 ?_) (purW_app hpu rfl (fun h => by cases h))
            have r9 := sb1.trans (sb2.trans (sb3.trans (sb4.trans (sc1.trans (sc2.trans (sc3.trans (sc4.trans sq)))))))
            have r7 := sa8.trans (sa9.trans r9)
            exact .lst (r9 _ _ ea9) (gl t8 ha9) (by rw [List.length_append]; show _ + 1 ≤ _; omega) ((hx5 v5).app (.cons (.tup (r7 _ _ ea7) (by show 2 ≤ 20000; decide) (.cons (.int _) (.cons (.lst ((sa7.trans r7) _ _ ea6) (gl t5 ha6) (Nat.zero_le _) .nil) .nil))) .nil))
          · refine k _ (.lst (ws ++ [.tup [.int 9, .tup []]])) H9 S9 kpz (DV.keep hk9 ?_) (purW_app hpu rfl (fun h => rfl))
            have r4 := sc1.trans (sc2.trans (sc3.trans (sc4.trans sq)))
            have r2 := sb3.trans (sb4.trans r4)
            exact .lst (r4 _ _ eb4) (gl u3 hb4) (by rw [List.length_append]; show _ + 1 ≤ _; omega) ((hx5 v5).app (.cons (.tup (r2 _ _ eb2) (by show 2 ≤ 20000; decide) (.cons (.int _) (.cons (.tup ((sb2.trans r2) _ _ eb1) (Nat.zero_le _) .nil) .nil))) .nil))
          · refine k _ (.lst (ws ++ [.tup [.bl true, .tup []]])) H9 S9 kpz (DV.keep hk9 ?_) (purW_app hpu rfl (fun h => rfl))
            have r2 := sc3.trans (sc4.trans sq)
            exact .lst (sq _ _ ec4) (gl v3 hc4) (by rw [List.length_append]; show _ + 1 ≤ _; omega) ((hx5 v5).app (.cons (.tup (r2 _ _ ec2) (by show 2 ≤ 20000; decide) (.cons (.bl _) (.cons (.tup ((sc2.trans r2) _ _ ec1) (Nat.zero_le _) .nil) .nil))) .nil))
        · exact ifF (decide_eq_false (fun h => hu (by injection h))) ⟨rfl, hx, S3, kp03, ep3, hws3⟩
    rintro σ H2 ⟨rfl, hx, S2, kp2, ep2, hws2⟩
    have hxpos : 0 < ws.length := by
      rw [← hxl]
      exact List.length_pos_iff.mpr hx
    refine ⟨_, rfl, _, rfl, p, xs, rfl, .inl (SqL.of ep2), d, g, c, _, _, rfl, S2, by omega, by omega, by omega, fun u H3 u0 u1 S3 kp3 => ?_⟩
    rw [hxl] at u1
    have kp03 := kp2.trans kp3
    have ep3 := kp3 _ _ ep2 fp.1 fp.2.1
    have hws3 := hws2.keep (Kv.kp S2 kp3)
    have hwu : ws[u.toNat]? = some (ws[u.toNat]'(by omega)) := List.getElem?_eq_getElem (by omega)
    generalize hwd : ws[u.toNat]'(by omega) = wd at hwu
    obtain ⟨m, ss, rfl, hssl, hss⟩ := hsh wd (List.mem_of_getElem? hwu)
    obtain ⟨vx, hvx, hxd⟩ := hws3.at' hwu
    obtain ⟨bx, vm, vs_, rfl, ebx, hvm, hvs⟩ := hxd.tup2
    obtain rfl := hvm.int_inv
    obtain ⟨sb, xss, rfl, esb, _, hxss⟩ := hvs.tup_inv
    have hsl := hxss.len
    have hpss : purs ss = true := by
      have := purs_mem hpu (List.mem_of_getElem? hwu)
      have : (true && (purs ss && true)) = true := this
      simpa using this
    refine ⟨_, rfl, _, rfl, p, xs, u, _, rfl, rfl, SqL.of ep3, at_int u0 hvx, bx, _, rfl, SqT.of ebx, rfl, _, _, rfl, _, _, rfl, rfl, ?_⟩
    refine ⟨_, rfl, d, g, c, _, 6, rfl, S3, by omega, by decide, by decide, fun way H4 w0 w1 S4 kp4 => ?_⟩
    have kp04 := kp03.trans kp4
    have ep4 := kp4 _ _ ep3 fp.1 fp.2.1
    have hws4 := hws3.keep (Kv.kp S3 kp4)
    have esb4 := (Kv.kp S3 kp4).tup _ _ esb
    have hxss4 := hxss.keep (Kv.kp S3 kp4)
    have npg := fp.2.1
    refine ⟨fun σ H' => ∃ (v6 v7 v8 v9 va vb : Option V) (ys : List V) (ws' : List Dt), σ = [some (.ref d), some (.ref wa), some (.ref p), some (.int u), some (.int m), some (.ref sb), v6, v7, v8, v9, va, vb] ∧ H' p = some (.lst ys) ∧ DVs g H' ys ws' ∧ purs ws' = true ∧ ws'.length ≤ 12 ∧ StA H' d g c (n + 20) ∧ Kp d g H H', ?_, ?_⟩
    rotate_left
    · rintro σ H5 ⟨v6, v7, v8, v9, va, vb, ys, ws', rfl, ep5, hys, hpw, hwl', S5, kp5⟩
      exact ⟨_, rfl, k (.ref p) (.lst ws') H5 S5 kp5 (.lst ep5 npg (by omega) hys) (purW_of hpw)⟩
    have hix : ixN xs.length u = some u.toNat := by
      unfold ixN
      rw [if_pos u0, if_pos (by omega)]
    -- found[at] = a new pair
    have put : ∀ {H5 : Hp} {t : Addr} {va vb' : V} {a b : Dt} {k5 : Nat}, StA H5 d g c k5 → k5 ≤ n + 20 → Kp d g H4 H5 → H5 t = some (.tup [va, vb']) → t ≠ p → DV g H5 va a → DV g H5 vb' b → pur a = true → pur b = true →
        (upd H5 p (.lst (xs.set u.toNat (.ref t)))) p = some (.lst (xs.set u.toNat (.ref t))) ∧ DVs g (upd H5 p (.lst (xs.set u.toNat (.ref t)))) (xs.set u.toNat (.ref t)) (ws.set u.toNat (.tup [a, b])) ∧ purs (ws.set u.toNat (.tup [a, b])) = true ∧ (ws.set u.toNat (.tup [a, b])).length ≤ 12 ∧ StA (upd H5 p (.lst (xs.set u.toNat (.ref t)))) d g c (n + 20) ∧ Kp d g H (upd H5 p (.lst (xs.set u.toNat (.ref t)))) := by
      intro H5 t va vb' a b k5 S5 hk5 kp5 et nt ha hb hpa hpb
      have ep5 := kp5 _ _ ep4 fp.1 fp.2.1
      have kt := Kt.put (o := .lst (xs.set u.toNat (.ref t))) ep5
      have hpt : pur (.tup [a, b]) = true := by
        show (pur a && (pur b && true)) = true
        rw [hpa, hpb] <;> rfl
      refine ⟨upd_same, ?_, purs_set hpu hpt, by rw [List.length_set]; exact hwl, (S5.upF fp.1 fp.2.1 fp.2.2).mono hk5, (kp04.trans kp5).upF hp⟩
      refine DVs.set (DV.keepP (g := g) kt hpt (.tup et (by show 2 ≤ 20000; decide) (.cons ha (.cons hb .nil)))) _ ?_
      exact (hws4.keep (Kv.kp S4 kp5)).keepP kt hpu
    refine ⟨_, rfl, rfl, _, rfl, ?_⟩
    -- net exchanged
    by_cases hw0 : way = 0
    · refine ifT (by rw [hw0]; exact decide_eq_true rfl) (ifT rfl ?_)
      refine ⟨_, rfl, _, rfl, _, _, rfl, rfl, _, rfl, _, _, rfl, rfl, (by show 5 ≤ sizeLine; decide), fun q hq => ?_⟩
      generalize hX5 : upd H4 q _ = X5
      obtain ⟨sq, eq⟩ := freshF hq hX5
      refine ⟨d, g, c, q, _, _, rfl, S4.keep sq, by omega, eq, (S4.free hq).2.1, by simp, (by show 5 ≤ 1000000; decide), fun v X6 hv Y6 kq6 => ?_⟩
      refine ⟨_, rfl, (by show 2 ≤ sizeLine; decide), fun t ht => ?_⟩
      generalize hX7 : upd X6 t _ = X7
      obtain ⟨st, et⟩ := freshF ht hX7
      have kx7 : Kp d g H4 X7 := (Kp.refl H4).trans ((Kp.of sq).trans (kq6.trans (Kp.of st)))
      have ep7 := kx7 _ _ ep4 fp.1 fp.2.1
      have nt : t ≠ p := fun h => by
        rw [h, ((Kp.refl H4).trans ((Kp.of sq).trans kq6)) _ _ ep4 fp.1 fp.2.1] at ht
        cases ht
      obtain ⟨a, ha, hpa⟩ : ∃ a : Dt, DV g X7 v a ∧ pur a = true := by
        simp only [List.mem_cons, List.not_mem_nil, or_false] at hv
        rcases hv with rfl | rfl | rfl | rfl | rfl
        · exact ⟨_, .int _, rfl⟩
        · exact ⟨_, .int _, rfl⟩
        · exact ⟨_, .non, rfl⟩
        · exact ⟨_, .bl _, rfl⟩
        · exact ⟨_, .int _, rfl⟩
      refine ⟨_, rfl, _, rfl, p, xs, u, u.toNat, rfl, rfl, ep7, hix, ?_⟩
      obtain ⟨z1, z2, z3, z4, z5, z6⟩ := put (Y6.keep st) (by omega) kx7 et nt ha (.tup ((Kv.kp S4 kx7).tup _ _ esb4) (by omega) (hxss4.keep (Kv.kp S4 kx7))) hpa hpss
      exact ⟨_, _, _, _, _, _, _, _, rfl, z1, z2, z3, z4, z5, z6⟩
    refine ifF (decide_eq_false (fun h => hw0 (by injection h))) ?_
    refine ⟨_, rfl, (by show 0 ≤ sizeLine; decide), fun e1 he1 => ?_⟩
    generalize hH5 : upd H4 e1 _ = H5
    obtain ⟨se1, ee1⟩ := freshF he1 hH5
    have S5 := S4.keep se1
    have hd5 : DV g H5 (.ref sb) (.tup ss) := .tup (se1 _ _ esb4) (by omega) (hxss4.keep (Kv.of se1))
    have hdep : dep (.tup ss) ≤ 64 := by
      show deps ss + 1 ≤ 64
      have : deps ss ≤ 1 := deps_le fun s hs => by
        obtain ⟨k, _, _, h | ⟨j, h⟩⟩ := hss s hs
        · rw [h]; show 0 ≤ 1; omega
        · rw [h]; show max 0 (max 0 0) + 1 ≤ 1; omega
      omega
    refine ⟨toPy (.tup ss), .tuple [], dv_dp hpss hd5, .tup (SqT.of ee1) .nil, shaped_of hpss hdep, by decide, _, rfl, ?_⟩
    have hnil : PyData.eqv (toPy (.tup ss)) (.tuple []) = true ∨ ss ≠ [] := by
      cases ss with
      | nil => exact .inl (eqv_self (d := .tup []) rfl)
      | cons a b => exact .inr (by simp)
    cases hev : PyData.eqv (toPy (.tup ss)) (.tuple []) with
    | true =>
      refine ifT rfl ?_
      refine ⟨_, rfl, _, rfl, _, _, rfl, rfl, _, rfl, _, _, rfl, rfl, (by show 5 ≤ sizeLine; decide), fun q hq => ?_⟩
      generalize hX5 : upd H5 q _ = X5
      obtain ⟨sq, eq⟩ := freshF hq hX5
      refine ⟨d, g, c, q, _, _, rfl, S5.keep sq, by omega, eq, (S5.free hq).2.1, by simp, (by show 5 ≤ 1000000; decide), fun v X6 hv Y6 kq6 => ?_⟩
      refine ⟨_, rfl, (by show 2 ≤ sizeLine; decide), fun t ht => ?_⟩
      generalize hX7 : upd X6 t _ = X7
      obtain ⟨st, et⟩ := freshF ht hX7
      have kx7 : Kp d g H4 X7 := (Kp.of se1).trans ((Kp.of sq).trans (kq6.trans (Kp.of st)))
      have ep7 := kx7 _ _ ep4 fp.1 fp.2.1
      have nt : t ≠ p := fun h => by
        rw [h, ((Kp.of se1).trans ((Kp.of sq).trans kq6)) _ _ ep4 fp.1 fp.2.1] at ht
        cases ht
      obtain ⟨a, ha, hpa⟩ : ∃ a : Dt, DV g X7 v a ∧ pur a = true := by
        simp only [List.mem_cons, List.not_mem_nil, or_false] at hv
        rcases hv with rfl | rfl | rfl | rfl | rfl
        · exact ⟨_, .int _, rfl⟩
        · exact ⟨_, .int _, rfl⟩
        · exact ⟨_, .non, rfl⟩
        · exact ⟨_, .bl _, rfl⟩
        · exact ⟨_, .int _, rfl⟩
      refine ⟨_, rfl, _, rfl, p, xs, u, u.toNat, rfl, rfl, ep7, hix, ?_⟩
      obtain ⟨z1, z2, z3, z4, z5, z6⟩ := put (Y6.keep st) (by omega) kx7 et nt ha (.tup ((Kv.kp S4 kx7).tup _ _ esb4) (by omega) (hxss4.keep (Kv.kp S4 kx7))) hpa hpss
      exact ⟨_, _, _, _, _, _, _, _, rfl, z1, z2, z3, z4, z5, z6⟩
    | false =>
    have hne : ss ≠ [] := hnil.resolve_left (by rw [hev]; decide)
    have hspos : 0 < ss.length := List.length_pos_iff.mpr hne
    refine ifF rfl ?_
    have kp05 := kp04.trans (Kp.of se1)
    have ep5 := se1 _ _ ep4
    have esb5 := se1 _ _ esb4
    have hxss5 := hxss4.keep (Kv.of se1)
    refine ⟨_, rfl, rfl, _, rfl, ?_⟩
    by_cases hw1 : way = 1
    · refine ifT (by rw [hw1]; exact decide_eq_true rfl) ?_
      refine ⟨_, rfl, .inl ⟨rfl, _, SqL.of ep5⟩, _, rfl, p, xs, u, u.toNat, _, rfl, rfl, ep5, by omega, by omega, seqIndex_of u0 (by omega), hvx, ?_⟩
      have kt := Kt.put (o := .lst (xs.eraseIdx u.toNat)) ep5
      refine ⟨_, _, _, _, _, _, _, ws.eraseIdx u.toNat, rfl, upd_same, ?_, purs_erase hpu, ?_, (S5.upF fp.1 fp.2.1 fp.2.2).mono (by omega), kp05.upF hp⟩
      · exact ((hws4.keep (Kv.of se1)).keepP kt hpu).erase _
      · rw [List.length_eraseIdx_of_lt (by omega)]
        omega
    refine ifF (decide_eq_false (fun h => hw1 (by injection h))) ?_
    refine ⟨_, rfl, _, rfl, sb, xss, rfl, .inr (SqT.of esb5), d, g, c, _, _, rfl, S5, by omega, by omega, by omega, fun u2 H6 v0 v1 S6 kp6 => ?_⟩
    rw [hsl] at v1
    have kp06 := kp05.trans kp6
    have esb6 := (Kv.kp S5 kp6).tup _ _ esb5
    have hxss6 := hxss5.keep (Kv.kp S5 kp6)
    have hsu : ss[u2.toNat]? = some (ss[u2.toNat]'(by omega)) := List.getElem?_eq_getElem (by omega)
    generalize hsd : ss[u2.toNat]'(by omega) = s2 at hsu
    obtain ⟨vs2, hvs2, hsdv⟩ := hxss6.at' hsu
    obtain ⟨kk, kk0, kk1, hshape⟩ := hss s2 (List.mem_of_getElem? hsu)
    have hps2 : pur s2 = true := purs_mem hpss (List.mem_of_getElem? hsu)
    refine ⟨_, rfl, _, rfl, sb, xss, u2, _, rfl, rfl, SqT.of esb6, at_int v0 hvs2, ?_⟩
    refine ⟨fun σ H' => σ = [some (.ref d), some (.ref wa), some (.ref p), some (.int u), some (.int m), some (.ref sb), some (.int way), some (.int u2), some vs2, some (.int kk), none, none] ∧ Same H6 H', ?_, ?_⟩
    · refine ⟨_, rfl, (by show 1 ≤ sizeLine; decide), fun z1 hz1 => ?_⟩
      generalize hH7 : upd H6 z1 _ = H7
      obtain ⟨sz1, ez1⟩ := freshF hz1 hH7
      refine ⟨z1 + 1, .ref z1, .lst [s2], rfl, .lst ez1 (Nat.succ_ne_self z1).symm (by show 1 ≤ 20000; decide) (.cons (DV.keepP (g := g) (Kt.of sz1) hps2 hsdv) .nil), fun H8 s8 => ⟨_, rfl, ?_⟩⟩
      have s68 := sz1.trans s8
      rcases hshape with rfl | ⟨j, rfl⟩
      · obtain rfl := hsdv.int_inv
        exact ifT rfl ⟨_, rfl, rfl, s68⟩
      · obtain ⟨b2, vk, vj, rfl, eb2, hvk, _⟩ := hsdv.tup2
        obtain rfl := hvk.int_inv
        exact ifF rfl ⟨_, rfl, b2, _, 0, _, rfl, rfl, SqT.of (s68 _ _ eb2), atI_nat (j := 0) rfl, rfl, s68⟩
    rintro σ H7 ⟨rfl, s67⟩
    have S7 := S6.keep s67
    -- other
    refine ⟨_, rfl, _, rfl, _, _, rfl, rfl, _, rfl, _, _, rfl, rfl, _, rfl, (by show 2 ≤ sizeLine; decide), fun q1 hq1 => ?_⟩
    generalize hG1 : upd H7 q1 _ = G1
    obtain ⟨sq1, eq1⟩ := freshF hq1 hG1
    refine ⟨_, rfl, _, rfl, (by show 2 ≤ sizeLine; decide), fun q2 hq2 => ?_⟩
    generalize hG2 : upd G1 q2 _ = G2
    obtain ⟨sq2, eq2⟩ := freshF hq2 hG2
    refine ⟨_, rfl, _, rfl, _, _, rfl, rfl, (by show 2 ≤ sizeLine; decide), fun q3 hq3 => ?_⟩
    generalize hG3 : upd G2 q3 _ = G3
    obtain ⟨sq3, eq3⟩ := freshF hq3 hG3
    refine ⟨_, rfl, _, rfl, (by show 1 ≤ sizeLine; decide), fun q4 hq4 => ?_⟩
    generalize hG4 : upd G3 q4 _ = G4
    obtain ⟨sq4, eq4⟩ := freshF hq4 hG4
    refine ⟨_, rfl, (by show 2 ≤ sizeLine; decide), fun q5 hq5 => ?_⟩
    generalize hG5 : upd G4 q5 _ = G5
    obtain ⟨sq5, eq5⟩ := freshF hq5 hG5
    refine ⟨_, rfl, (by show 2 ≤ sizeLine; decide), fun q6 hq6 => ?_⟩
    generalize hG6 : upd G5 q6 _ = G6
    obtain ⟨sq6, eq6⟩ := freshF hq6 hG6
    have t6 := sq1.trans (sq2.trans (sq3.trans (sq4.trans (sq5.trans sq6))))
    have kp67 : Kp d g H6 G6 := Kp.of (s67.trans t6)
    have ewa6 : G6 wa = some (.lst xs) := kp67 _ _ (kp06 _ _ ewa (by
      obtain ⟨r, tt, gs, cs, S⟩ := S
      exact ne_of ewa S.dk (by intro z; cases z)) nwg) (by
      obtain ⟨r, tt, gs, cs, S⟩ := S
      exact ne_of ewa S.dk (by intro z; cases z)) nwg
    refine ⟨_, rfl, kk, rfl, log_ok kk0 (by omega), ?_⟩
    refine ⟨_, rfl, _, rfl, wa, xs, rfl, .inl (SqL.of ewa6), (by show 2 ≤ sizeLine; decide), fun q7 hq7 => ?_⟩
    generalize hG7 : upd G6 q7 _ = G7
    obtain ⟨sq7, eq7⟩ := freshF hq7 hG7
    refine ⟨(by show 11 ≤ sizeLine; decide), fun q hq => ?_⟩
    generalize hG8 : upd G7 q _ = G8
    obtain ⟨sq, eq⟩ := freshF hq hG8
    have t8 := t6.trans (sq7.trans sq)
    have Sg := S7.keep t8
    refine ⟨d, g, c, q, _, _, rfl, Sg, by omega, eq, ((S7.keep (t6.trans sq7)).free hq).2.1, by simp, (by show 11 ≤ 1000000; decide), fun v Ha hv Sa kpa => ?_⟩
    obtain ⟨od, hod, hpod⟩ : ∃ od : Dt, DV g Ha v od ∧ pur od = true := by
      have hka : Kt G8 Ha := (Kv.kp Sg kpa).tup
      have tw : ∀ {x : Addr} {a b : V} {da db : Dt}, G8 x = some (.tup [a, b]) → DV g Ha a da → DV g Ha b db → pur da = true → pur db = true → ∃ od : Dt, DV g Ha (.ref x) od ∧ pur od = true := fun e h1 h2 p1 p2 =>
        ⟨.tup [_, _], .tup (hka _ _ e) (by show 2 ≤ 20000; decide) (.cons h1 (.cons h2 .nil)), by show (pur _ && (pur _ && true)) = true; rw [p1, p2] <;> rfl⟩
      simp only [List.mem_cons, List.not_mem_nil, or_false] at hv
      have r7 := sq7.trans sq
      rcases hv with rfl | rfl | rfl | rfl | rfl | rfl | rfl | rfl | rfl | rfl | rfl
      · exact ⟨_, .int _, rfl⟩
      · exact ⟨_, .int _, rfl⟩
      · exact tw ((sq2.trans (sq3.trans (sq4.trans (sq5.trans (sq6.trans r7))))) _ _ eq1) (.int _) (.int _) rfl rfl
      · exact tw ((sq3.trans (sq4.trans (sq5.trans (sq6.trans r7)))) _ _ eq2) (.int _) (.int _) rfl rfl
      · exact tw ((sq4.trans (sq5.trans (sq6.trans r7))) _ _ eq3) (.int _) (.int _) rfl rfl
      · exact ⟨_, .int _, rfl⟩
      · exact ⟨.tup [_], .tup (hka _ _ ((sq5.trans (sq6.trans r7)) _ _ eq4)) (by show 1 ≤ 20000; decide) (.cons (.int _) .nil), rfl⟩
      · exact tw ((sq6.trans r7) _ _ eq5) (.int _) .non rfl rfl
      · exact tw (r7 _ _ eq6) (.int _) (.bl _) rfl rfl
      · exact ⟨_, .str (str_ok kk0 (by omega)).2, (str_ok kk0 (by omega)).1⟩
      · exact tw (sq _ _ eq7) (.int _) (.int _) rfl rfl
    have kp4a : Kp d g H4 Ha := (Kp.of se1).trans (kp6.trans ((Kp.of (s67.trans t8)).trans kpa))
    have esba := (Kv.kp S4 kp4a).tup _ _ esb4
    have hxssa := hxss4.keep (Kv.kp S4 kp4a)
    have cut : ∀ (lo hi : Option Int) (H' : Hp), Same Ha H' → ∃ dl, DVs g H' (cutV xss lo hi) dl ∧ purs dl = true ∧ dl.length ≤ ss.length := by
      intro lo hi H' s'
      have h := hxssa.keep (Kv.of s')
      unfold cutV
      refine ⟨(ss.drop (HT.sIx xss.length 0 lo)).take (HT.sIx xss.length xss.length hi - HT.sIx xss.length 0 lo), DVs.take _ (DVs.drop _ h), ?_, by rw [List.length_take, List.length_drop]; omega⟩
      exact purs_of fun x hx => purs_mem hpss (List.mem_of_mem_drop (List.mem_of_mem_take hx))
    refine ⟨fun σ H' => ∃ (lb : Addr) (ls : List V) (dl : List Dt), σ = [some (.ref d), some (.ref wa), some (.ref p), some (.int u), some (.int m), some (.ref sb), some (.int way), some (.int u2), some vs2, some (.int kk), some v, some (.ref lb)] ∧ Same Ha H' ∧ H' lb = some (.tup ls) ∧ DVs g H' ls dl ∧ purs dl = true ∧ dl.length ≤ ss.length, ?_, ?_⟩
    · refine ⟨_, rfl, _, _, rfl, rfl, _, rfl, ?_⟩
      by_cases hw5 : way < 5
      · refine ifT (decide_eq_true hw5) ?_
        refine ⟨_, rfl, _, rfl, _, _, rfl, rfl, _, rfl, ?_⟩
        unfold tNoPart
        refine slA_of esba fun r H' s' er => ?_
        obtain ⟨dl, h1, h2, h3⟩ := cut (some (u2 + 1)) none H' s'
        exact ⟨r, _, dl, rfl, s', er, h1, h2, h3⟩
      · refine ifF (decide_eq_false hw5) ?_
        refine ⟨_, rfl, _, rfl, _, rfl, ?_⟩
        unfold tNoPart
        refine slA_of esba fun r H' s' er => ?_
        obtain ⟨dl, h1, h2, h3⟩ := cut (some u2) none H' s'
        exact ⟨r, _, dl, rfl, s', er, h1, h2, h3⟩
    rintro σ Hb ⟨lb, ls, dl, rfl, sab, elb, hdl, hpdl, hdll⟩
    refine ⟨_, rfl, _, rfl, _, rfl, _, rfl, slA_of (sab _ _ esba) fun r1 Hc sbc er1 => ?_⟩
    obtain ⟨dl1, h1, h2, h3⟩ := cut none (some u2) Hc (sab.trans sbc)
    have hl1 := h1.len
    have hl2 := hdl.len
    refine ⟨_, rfl, (by show 1 ≤ sizeLine; decide), fun o1 ho1 => ?_⟩
    generalize hHd : upd Hc o1 _ = Hd
    obtain ⟨so1, eo1⟩ := freshF ho1 hHd
    refine catA_of (so1 _ _ er1) eo1 (by rw [hl1, sizeLine_eq]; show _ + 1 ≤ _; omega) fun r2 He sde er2 => ?_
    have sbe := sbc.trans (so1.trans sde)
    refine ⟨_, rfl, catA_of er2 (sbe _ _ elb) (by rw [List.length_append, hl1, hl2, sizeLine_eq]; show _ + 1 + _ ≤ _; omega) fun r3 Hf sef er3 => ?_⟩
    refine ⟨(by show 2 ≤ sizeLine; decide), fun t ht => ?_⟩
    generalize hHg : upd Hf t _ = Hg
    obtain ⟨st, et⟩ := freshF ht hHg
    have sag := sab.trans (sbe.trans (sef.trans st))
    have kp4g := kp4a.trans (Kp.of sag)
    have epg := kp4g _ _ ep4 fp.1 fp.2.1
    have nt : t ≠ p := fun h => by
      rw [h, (kp4a.trans (Kp.of (sab.trans (sbe.trans sef)))) _ _ ep4 fp.1 fp.2.1] at ht
      cases ht
    have hcat : DVs g Hg (cutV xss none (some u2) ++ [v] ++ ls) (dl1 ++ [od] ++ dl) :=
      ((h1.keep (Kv.of (so1.trans (sde.trans (sef.trans st))))).app (.cons (hod.keep (Kv.of sag)) .nil)).app (hdl.keep (Kv.of (sbe.trans (sef.trans st))))
    have hpc : purs (dl1 ++ [od] ++ dl) = true := purs_app (purs_app h2 (by show (pur od && true) = true; rw [hpod] <;> rfl)) hpdl
    have hcl : (dl1 ++ [od] ++ dl).length ≤ 20000 := by
      rw [List.length_append, List.length_append]
      show _ + 1 + _ ≤ _
      omega
    refine ⟨_, rfl, _, rfl, p, xs, u, u.toNat, rfl, rfl, epg, hix, ?_⟩
    obtain ⟨z1, z2, z3, z4, z5, z6⟩ := put (Sa.keep sag) (by omega) kp4g et nt (.int m) (.tup (st _ _ er3) hcl hcat) rfl hpc
    exact ⟨_, _, _, _, _, _, _, _, rfl, z1, z2, z3, z4, z5, z6⟩
end
end K66

set_option Elab.async false
set_option linter.all false
set_option pp.maxSteps 900
set_option maxRecDepth 100000
set_option maxHeartbeats 4000000
namespace K66
open PySem PySem.Spec PyProof.Rows L2
open TL (tl)
/-! ### how great measures can be (mathematics) -/
def Bnd (B : Int) (v : List Int) : Prop := ∀ x ∈ v, -B ≤ x ∧ x ≤ B
theorem Bnd.mono {B C : Int} {v : List Int} (h : Bnd B v) (hb : B ≤ C) : Bnd C v := fun x hx => by
  have := h x hx
  omega
theorem bnd_rep {B : Int} (n : Nat) (h : 0 ≤ B) : Bnd B (List.replicate n 0) := fun x hx => by
  rw [(List.mem_replicate.mp hx).2]
  omega
theorem bnd_vadd {B C : Int} : ∀ {a b : List Int}, Bnd B a → Bnd C b → Bnd (B + C) (vadd a b)
  | [], _, _, _ => fun x hx => by
    unfold vadd at hx
    simp at hx
  | _ :: _, [], _, _ => fun x hx => by
    unfold vadd at hx
    simp at hx
  | a :: as, b :: bs, ha, hb => fun x hx => by
    have hx : x ∈ (a + 1 * b) :: vadd as bs := hx
    rcases List.mem_cons.mp hx with rfl | hx
    · have := ha a List.mem_cons_self
      have := hb b List.mem_cons_self
      omega
    · exact bnd_vadd (fun y hy => ha y (List.mem_cons_of_mem _ hy)) (fun y hy => hb y (List.mem_cons_of_mem _ hy)) x hx
theorem bnd_bump {B : Int} (hB : 0 ≤ B) : ∀ (l : List Int) {v : List Int}, Bnd B v → Bnd (B + l.length) (bump v l)
  | [], v, h => h.mono (by simp)
  | k :: l, v, h => by
    have h1 : Bnd (B + 1) (v.set k.toNat (v.getD k.toNat 0 + 1)) := fun x hx => by
      rcases List.mem_or_eq_of_mem_set hx with hx | rfl
      · have := h x hx
        omega
      · rw [List.getD_eq_getElem?_getD]
        cases e : v[k.toNat]? with
        | none =>
          show -(B + 1) ≤ (0 : Int) + 1 ∧ (0 : Int) + 1 ≤ B + 1
          omega
        | some y =>
          have := h y (List.mem_of_getElem? e)
          show -(B + 1) ≤ y + 1 ∧ y + 1 ≤ B + 1
          omega
    have := bnd_bump (B := B + 1) (by omega) l h1
    refine this.mono ?_
    rw [List.length_cons]
    omega
theorem bnd_own {W : Web} (okw : OkW W) {nt : Int × List Ed} (hn : nt ∈ W.ns) {e : Ed} (he : e ∈ nt.2) : Bnd 2000000000 (own W.lb e) := by
  have o := okw.ed nt hn e he
  have h : Bnd 1000000000 (List.replicate W.lb.toNat 0 ++ [e.b]) := fun x hx => by
    rcases List.mem_append.mp hx with hx | hx
    · exact bnd_rep _ (by decide) x hx
    · rw [List.mem_singleton.mp hx]
      exact o.b
  have := bnd_bump (by decide) e.l h
  refine this.mono ?_
  have := o.l
  omega
theorem bnd_fold {W : Web} (okw : OkW W) {nt : Int × List Ed} (hn : nt ∈ W.ns) {fd : List (List Int × Int)} {B : Int} (hB : 0 ≤ B) (hf : ∀ m ∈ fd, Bnd B (flat m)) : ∀ (ss : List Dt) {v : List Int} {C : Int}, 0 ≤ C → Bnd C v → Bnd (C + ss.length * (2000000000 + B)) (ss.foldl (lawS W.lb nt.2 fd) v)
  | [], v, C, hC, h => h.mono (by simp)
  | s :: ss, v, C, hC, h => by
    have h1 : Bnd (C + (2000000000 + B)) (lawS W.lb nt.2 fd v s) := by
      have hv : Bnd (C + (2000000000 + B)) v := h.mono (by omega)
      unfold lawS
      cases e1 : edK nt.2 s with
      | none => exact hv
      | some e =>
        have he : e ∈ nt.2 := by
          unfold edK at e1
          split at e1
          · exact List.mem_of_getElem? e1
          · cases e1
        have ho := bnd_own okw hn he
        cases inI s with
        | none => exact (bnd_vadd h ho).mono (by omega)
        | some j =>
          show Bnd _ (match fd[j.toNat]? with | some m => vadd (vadd v (own W.lb e)) (flat m) | none => v)
          cases e2 : fd[j.toNat]? with
          | none => exact hv
          | some m => exact (bnd_vadd (bnd_vadd h ho) (hf m (List.mem_of_getElem? e2))).mono (by omega)
    have h2 := bnd_fold okw hn hB hf ss (by omega) h1
    show Bnd _ (ss.foldl (lawS W.lb nt.2 fd) (lawS W.lb nt.2 fd v s))
    refine h2.mono ?_
    rw [List.length_cons]
    have : ((ss.length + 1 : Nat) : Int) * (2000000000 + B) = (ss.length : Int) * (2000000000 + B) + (2000000000 + B) := by
      rw [Int.natCast_add, Int.add_mul]
      omega
    omega
def fB : Nat → Int
  | 0 => 0
  | n + 1 => 30 * (2000000000 + fB n)
theorem fB_pos : ∀ n, 0 ≤ fB n
  | 0 => Int.le_refl _
  | n + 1 => by
    have := fB_pos n
    show 0 ≤ 30 * (2000000000 + fB n)
    omega
theorem fB_le (n : Nat) : fB n ≤ fB (n + 1) := by
  have := fB_pos n
  show fB n ≤ 30 * (2000000000 + fB n)
  omega
theorem fB_mono {m n : Nat} (h : m ≤ n) : fB m ≤ fB n := by
  induction h with
  | refl => exact Int.le_refl _
  | step _ ih => exact Int.le_trans ih (fB_le _)
theorem ms_bnd {W : Web} (okw : OkW W) {ws : List Dt} (hb : ∀ j, j < ws.length → wB W ws j = true) (h30 : ∀ w ∈ ws, ∃ (m : Int) (ss : List Dt), w = .tup [.int m, .tup ss] ∧ ss.length ≤ 30) : ∀ i, i ≤ ws.length → ∀ m ∈ (ws.take i).foldl (stW W) [], Bnd (fB i) (flat m)
  | 0, _, m, h => by cases h
  | i + 1, hi, m, h => by
    have ih := ms_bnd okw hb h30 i (by omega)
    obtain ⟨kn, _, R, hl, hf, _⟩ := lw_run okw i (by omega) fun j hj => hb j (by omega)
    obtain ⟨n, ss, nt, h1, h2, h3, h4⟩ := word_shape (hb i hi)
    have hw := h30 _ (List.mem_of_getElem? h1)
    obtain ⟨m', ss', e, hss⟩ := hw
    injection e with e
    injection e with e1 e2
    injection e2 with e2
    injection e2 with e2
    subst e2
    rw [List.take_succ, h1] at h
    have h : m ∈ ((ws.take i) ++ [Dt.tup [Dt.int n, Dt.tup ss]]).foldl (stW W) [] := h
    rw [List.foldl_append] at h
    generalize hfd : (ws.take i).foldl (stW W) [] = fd at *
    have h : m ∈ (match W.ns[n.toNat]? with | some nt => fd ++ [mOne W fd nt.2 ss] | none => fd) := h
    rw [h3] at h
    have h : m ∈ fd ++ [mOne W fd nt.2 ss] := h
    rcases List.mem_append.mp h with h | h
    · exact (ih m h).mono (fB_le i)
    · rw [List.mem_singleton.mp h]
      have e := law_mOne hf (by rw [hl]; exact h4) (ok_lab okw h3)
      rw [← e]
      refine (bnd_fold okw (List.mem_of_getElem? h3) (fB_pos i) ih ss (Int.le_refl 0) (bnd_rep _ (Int.le_refl 0))).mono ?_
      show 0 + (ss.length : Int) * (2000000000 + fB i) ≤ 30 * (2000000000 + fB i)
      have := fB_pos i
      have : (ss.length : Int) * (2000000000 + fB i) ≤ 30 * (2000000000 + fB i) := Int.mul_le_mul_of_nonneg_right (by omega) (by omega)
      omega
theorem ms_small {W : Web} (okw : OkW W) {ws : List Dt} (hb : ∀ j, j < ws.length → wB W ws j = true) (h30 : ∀ w ∈ ws, ∃ (m : Int) (ss : List Dt), w = .tup [.int m, .tup ss] ∧ ss.length ≤ 30) (hl : ws.length ≤ 12) : ∀ m ∈ msOf W ws, ∀ x ∈ flat m, x.natAbs.log2 < 100 := by
  intro m hm x hx
  have h := ms_bnd okw hb h30 ws.length (Nat.le_refl _)
  rw [List.take_length] at h
  have h := (h m hm).mono (fB_mono hl) x hx
  have e : fB 12 < 2 ^ 100 := by decide
  by_cases h0 : x.natAbs = 0
  · rw [h0]
    decide
  · exact (Nat.log2_lt h0).mpr (by omega)
/-! ### their texts -/
theorem textFrom_le : ∀ (ts : List Str) (k : Nat) (acc : Str), (textFrom k acc ts).length ≤ acc.length + piled ts
  | [], k, acc => Nat.le_refl _
  | t :: r, k, acc => by
    have h := textFrom_le r (k + 1) (acc ++ (if k > 0 then ", " else "" : String) ++ t)
    have e : (acc ++ (if k > 0 then ", " else "" : String) ++ t).length = acc.length + (if k > 0 then 2 else 0) + t.length := by
      rw [strLen_append, strLen_append]
      split <;> rfl
    have e2 : (if k > 0 then 2 else 0) ≤ 2 := by split <;> omega
    show (textFrom (k + 1) (acc ++ (if k > 0 then ", " else "" : String) ++ t) r).length ≤ _
    rw [piled_cons]
    generalize (if k > 0 then 2 else 0) = q at e e2
    rw [e] at h
    omega
theorem listText_le (ts : List Str) : (listText ts).length ≤ 2 + piled ts := by
  have h := textFrom_le ts 0 "["
  have e : ((("[" : String) : Str)).length = 1 := rfl
  have e2 : ((("]" : String) : Str)).length = 1 := rfl
  show (textFrom 0 "[" ts ++ "]").length ≤ _
  rw [strLen_append]
  omega
theorem tupleText_le (ts : List Str) : (tupleText ts).length ≤ 3 + piled ts := by
  have e : ((("(" : String) : Str)).length = 1 := rfl
  have hj : (Str.join ", " ts).length ≤ piled ts := by
    by_cases h : ts = []
    · rw [h]
      exact Nat.zero_le _
    · have := join_length_add ts h
      omega
  show (("(" : Str) ++ Str.join ", " ts ++ (if ts.length == 1 then ",)" else ")" : String)).length ≤ _
  rw [strLen_append, strLen_append]
  have e3 : (((if ts.length == 1 then ",)" else ")" : String)) : Str).length ≤ 2 := by
    split
    · show 2 ≤ 2
      omega
    · show 1 ≤ 2
      omega
  omega
theorem piled_le {ts : List Str} {n : Nat} (h : ∀ t ∈ ts, t.length ≤ n) : piled ts ≤ ts.length * (n + 2) := by
  induction ts with
  | nil => simp [piled]
  | cons t ts ih =>
    rw [piled_cons, List.length_cons, Nat.add_mul]
    have := h t List.mem_cons_self
    have := ih fun x hx => h x (List.mem_cons_of_mem _ hx)
    omega
theorem int_len {x : Int} (h : x.natAbs.log2 < 100) : (PyData.shown (.int x)).length ≤ 101 := by
  have := int_text_length_le (k := 100) (by decide) h
  show (Str.ofString (toString x)).length ≤ 101
  rw [PySem.ofString_length]
  exact this
theorem msD_show {m : List Int × Int} (h : ∀ x ∈ flat m, x.natAbs.log2 < 100) (hl : m.1.length ≤ 4000) : (toPy (msD m)).showable = true ∧ (toPy (msD m)).hasDict = false ∧ (toPy (msD m)).shown.length ≤ 412300 := by
  have h1 : ∀ x ∈ m.1, x.natAbs.log2 < 100 := fun x hx => h x (List.mem_append_left _ hx)
  have h2 : m.2.natAbs.log2 < 100 := h m.2 (List.mem_append_right _ (List.mem_singleton.mpr rfl))
  have e : toPy (msD m) = .tuple [.tuple (toPys (m.1.map Dt.int)), .int m.2] := rfl
  rw [e]
  have a1 : ∀ l : List Int, (∀ x ∈ l, x.natAbs.log2 < 100) → PyData.showableAll (toPys (l.map Dt.int)) = true ∧ PyData.hasDictAll (toPys (l.map Dt.int)) = false ∧ (∀ t ∈ PyData.shownAll (toPys (l.map Dt.int)), t.length ≤ 101) ∧ (PyData.shownAll (toPys (l.map Dt.int))).length = l.length := by
    intro l
    induction l with
    | nil => exact fun _ => ⟨rfl, rfl, (fun t h => by cases h), rfl⟩
    | cons x l ih =>
      intro h
      obtain ⟨i1, i2, i3, i4⟩ := ih fun y hy => h y (List.mem_cons_of_mem _ hy)
      have hx := h x List.mem_cons_self
      refine ⟨?_, ?_, fun t ht => ?_, ?_⟩
      · show (decide (x.natAbs.log2 < 1920) && PyData.showableAll (toPys (l.map Dt.int))) = true
        rw [i1, decide_eq_true (by omega)] <;> rfl
      · show (false || PyData.hasDictAll (toPys (l.map Dt.int))) = false
        rw [i2] <;> rfl
      · have ht : t ∈ PyData.shown (.int x) :: PyData.shownAll (toPys (l.map Dt.int)) := ht
        rcases List.mem_cons.mp ht with rfl | ht
        · exact int_len hx
        · exact i3 t ht
      · show (PyData.shownAll (toPys (l.map Dt.int))).length + 1 = l.length + 1
        rw [i4]
  obtain ⟨i1, i2, i3, i4⟩ := a1 m.1 h1
  refine ⟨?_, ?_, ?_⟩
  · show (PyData.showableAll (toPys (m.1.map Dt.int)) && (decide (m.2.natAbs.log2 < 1920) && true)) = true
    rw [i1, decide_eq_true (by omega)] <;> rfl
  · show (PyData.hasDictAll (toPys (m.1.map Dt.int)) || (false || false)) = false
    rw [i2] <;> rfl
  · show (tupleText [tupleText (PyData.shownAll (toPys (m.1.map Dt.int))), PyData.shown (.int m.2)]).length ≤ _
    have p1 := piled_le i3
    rw [i4] at p1
    have p2 := tupleText_le (PyData.shownAll (toPys (m.1.map Dt.int)))
    have p3 := tupleText_le [tupleText (PyData.shownAll (toPys (m.1.map Dt.int))), PyData.shown (.int m.2)]
    rw [piled_cons, piled_cons, piled_nil] at p3
    have p4 := int_len h2
    have : m.1.length * (101 + 2) ≤ 4000 * 103 := Nat.mul_le_mul hl (Nat.le_refl _)
    omega
theorem msDs_show {ms : List (List Int × Int)} (h : ∀ m ∈ ms, ∀ x ∈ flat m, x.natAbs.log2 < 100) (hl : ∀ m ∈ ms, m.1.length ≤ 4000) (h12 : ms.length ≤ 12) :
    (PyData.list (toPys (ms.map msD))).showable = true ∧ (PyData.list (toPys (ms.map msD))).hasDict = false ∧ (PyData.list (toPys (ms.map msD))).shown.length ≤ sizeLine := by
  have a1 : PyData.showableAll (toPys (ms.map msD)) = true ∧ PyData.hasDictAll (toPys (ms.map msD)) = false ∧ (∀ t ∈ PyData.shownAll (toPys (ms.map msD)), t.length ≤ 412300) ∧ (PyData.shownAll (toPys (ms.map msD))).length = ms.length := by
    clear h12
    induction ms with
    | nil => exact ⟨rfl, rfl, (fun t h => by cases h), rfl⟩
    | cons x l ih =>
      obtain ⟨i1, i2, i3, i4⟩ := ih (fun y hy => h y (List.mem_cons_of_mem _ hy)) (fun y hy => hl y (List.mem_cons_of_mem _ hy))
      obtain ⟨j1, j2, j3⟩ := msD_show (h x List.mem_cons_self) (hl x List.mem_cons_self)
      refine ⟨?_, ?_, fun t ht => ?_, ?_⟩
      · show ((toPy (msD x)).showable && PyData.showableAll (toPys (l.map msD))) = true
        rw [i1, j1] <;> rfl
      · show ((toPy (msD x)).hasDict || PyData.hasDictAll (toPys (l.map msD))) = false
        rw [i2, j2] <;> rfl
      · have ht : t ∈ (toPy (msD x)).shown :: PyData.shownAll (toPys (l.map msD)) := ht
        rcases List.mem_cons.mp ht with rfl | ht
        · exact j3
        · exact i3 t ht
      · show (PyData.shownAll (toPys (l.map msD))).length + 1 = l.length + 1
        rw [i4]
  obtain ⟨i1, i2, i3, i4⟩ := a1
  refine ⟨i1, i2, ?_⟩
  show (listText (PyData.shownAll (toPys (ms.map msD)))).length ≤ _
  have p1 := piled_le i3
  rw [i4] at p1
  have p2 := listText_le (PyData.shownAll (toPys (ms.map msD)))
  have : ms.length * (412300 + 2) ≤ 12 * 412302 := Nat.mul_le_mul h12 (Nat.le_refl _)
  rw [sizeLine_eq]
  omega
end K66

set_option Elab.async false
set_option linter.all false
set_option pp.maxSteps 900
set_option maxRecDepth 100000
set_option maxHeartbeats 8000000
namespace K66
open PySem PySem.Spec PyProof.Rows L2
open TL (tl)
theorem ed_ok {pl nt lb : Int} {e : Ed} (h : OkE pl nt lb e) : edgeB pl nt lb (edD e) = true := by
  show ((intIn 0 (pl - 2) (.int e.p) && intIn 0 (pl - 1) (.int e.t)) && ((callB nt (oI e.c) && intIn (-1000000000) 1000000000 (.int e.b)) && toldB lb (.tup (e.l.map Dt.int)))) = true
  have h1 : intIn 0 (pl - 2) (.int e.p) = true := int_in.mpr ⟨_, rfl, h.p⟩
  have h2 : intIn 0 (pl - 1) (.int e.t) = true := int_in.mpr ⟨_, rfl, h.t⟩
  have h3 : callB nt (oI e.c) = true := by
    cases hc : e.c with
    | none => rfl
    | some c => exact int_in.mpr ⟨c, rfl, h.c c hc⟩
  have h4 : intIn (-1000000000) 1000000000 (.int e.b) = true := int_in.mpr ⟨_, rfl, h.b⟩
  have h5 : toldB lb (.tup (e.l.map Dt.int)) = true := by
    show (decide ((e.l.map Dt.int).length ≤ 8) && (e.l.map Dt.int).all (intIn 0 (lb - 1))) = true
    rw [List.length_map, decide_eq_true h.l, Bool.true_and]
    refine List.all_eq_true.mpr fun d hd => ?_
    obtain ⟨k, hk, rfl⟩ := List.mem_map.mp hd
    exact int_in.mpr ⟨k, rfl, h.k k hk⟩
  rw [h1, h2, h3, h4, h5] <;> rfl
theorem wb_ok {W : Web} (o : OkW W) : webB (wbD W) = true := by
  show (intIn 0 4000 (.int W.lb) && ((lenIn 1 400 (.tup (W.ns.map ntD)) && (W.ns.map ntD).all headB) && ((decide (((W.ns.map ntD).map net0).sum ≤ 4000) && decide (((W.ns.map ntD).map fun n => ((netEs n).length : Int)).sum ≤ 8000)) && (W.ns.map ntD).all fun n => (netEs n).all (edgeB (net0 n) (W.ns.map ntD).length W.lb)))) = true
  have m1 : (W.ns.map ntD).map net0 = W.ns.map (·.1) := by
    rw [List.map_map]
    rfl
  have m2 : ((W.ns.map ntD).map fun n => ((netEs n).length : Int)) = W.ns.map fun n => (n.2.length : Int) := by
    rw [List.map_map]
    refine List.map_congr_left fun n _ => ?_
    show (((n.2.map edD).length : Nat) : Int) = _
    rw [List.length_map]
  have h1 : intIn 0 4000 (.int W.lb) = true := int_in.mpr ⟨_, rfl, o.lb⟩
  have h2 : lenIn 1 400 (.tup (W.ns.map ntD)) = true := by
    show (decide ((1 : Int) ≤ ((W.ns.map ntD).length : Int)) && decide (((W.ns.map ntD).length : Int) ≤ 400)) = true
    rw [List.length_map, decide_eq_true (by have := o.n1; omega), decide_eq_true (by have := o.n4; omega)] <;> rfl
  have h3 : (W.ns.map ntD).all headB = true := by
    refine List.all_eq_true.mpr fun d hd => ?_
    obtain ⟨n, hn, rfl⟩ := List.mem_map.mp hd
    show (decide (1 ≤ n.1) && true) = true
    rw [decide_eq_true (o.pos n hn)] <;> rfl
  have h4 : ((W.ns.map ntD).all fun n => (netEs n).all (edgeB (net0 n) (W.ns.map ntD).length W.lb)) = true := by
    refine List.all_eq_true.mpr fun d hd => ?_
    obtain ⟨n, hn, rfl⟩ := List.mem_map.mp hd
    show (n.2.map edD).all (edgeB n.1 (W.ns.map ntD).length W.lb) = true
    refine List.all_eq_true.mpr fun e he => ?_
    obtain ⟨e, he2, rfl⟩ := List.mem_map.mp he
    rw [List.length_map]
    exact ed_ok (o.ed n hn e he2)
  rw [m1, m2, h1, h2, h3, h4, decide_eq_true o.sp, decide_eq_true o.se] <;> rfl
theorem oI_inj {a b : Option Int} (h : oI a = oI b) : a = b := by
  cases a <;> cases b <;> first | rfl | cases h
  rfl
theorem map_inj' {α β : Type} {f : α → β} (hf : ∀ a b, f a = f b → a = b) : ∀ {l m : List α}, l.map f = m.map f → l = m
  | [], [], _ => rfl
  | [], _ :: _, h => by cases h
  | _ :: _, [], h => by cases h
  | a :: l, b :: m, h => by
    rw [List.map_cons, List.map_cons] at h
    injection h with h1 h2
    rw [hf a b h1, map_inj' hf h2]
theorem ed_inj {a b : Ed} (h : edD a = edD b) : a = b := by
  obtain ⟨p, t, c, b1, l⟩ := a
  obtain ⟨p', t', c', b', l'⟩ := b
  unfold edD at h
  injection h with h
  injection h with h1 h
  injection h with h2 h
  injection h with h3 h
  injection h with h4 h
  injection h with h5 h
  injection h1 with h1
  injection h2 with h2
  injection h4 with h4
  injection h5 with h5
  have h3 := oI_inj h3
  have h5 := map_inj' (f := Dt.int) (fun a b h => by injection h) h5
  simp only at h1 h2 h3 h4 h5
  rw [h1, h2, h3, h4, h5]
theorem wb_inj {a b : Web} (h : wbD a = wbD b) : a = b := by
  obtain ⟨la, na⟩ := a
  obtain ⟨lb, nb⟩ := b
  unfold wbD at h
  injection h with h
  injection h with h1 h
  injection h with h2 h
  injection h1 with h1
  injection h2 with h2
  have h2 := map_inj' (f := ntD) (fun a b h => by
    obtain ⟨a1, a2⟩ := a
    obtain ⟨b1, b2⟩ := b
    unfold ntD at h
    injection h with h
    injection h with h1 h
    injection h with h2 h
    injection h1 with h1
    injection h2 with h2
    have h2 := map_inj' (fun a b h => ed_inj h) h2
    simp only at h1 h2
    rw [h1, h2]) h2
  simp only at h1 h2
  rw [h1, h2]
end K66

set_option Elab.async false
set_option linter.all false
set_option pp.maxSteps 900
set_option maxRecDepth 100000
set_option maxHeartbeats 4000000
namespace GD
open PySem PySem.Spec PyProof.Rows L2
/-- what is asked of the law's own def: its run where no repr is under way -/
def Start (P : Program) (w : World) (K : PySem.W.Frag) (mg : Str → Option Value) (fa a : Addr) (cs : List (Addr × Addr)) (ns : List Int) (s : Shared) : Prop :=
  ∀ (base : Heap) (H : Hp), (∀ p ∈ cs, LamX.TabB base mg p.1 p.2) → Env0 P w K mg base callerA [] s H → (∀ p ∈ cs, H p.2 = some (.tbl #[])) → SqL K H a (ns.map V.int) →
    codeAny (model P w) callerA (.call (.ref fa) ⟨[.ref a], []⟩) (CR CX0 [] P w H s (fun v _ => v = .bl true) fun _ _ _ => False) s
/-- the tracked objects at the start: the tables and, where the program's own objects don't hold it, the script -/
def hp0 (K : PySem.W.Frag) (ts : List Addr) (a : Addr) (o : Obj) (xs : List V) : Hp := fun b =>
  if b ∈ ts then some (.tbl #[]) else if b = a ∧ K.lookup a = none then some (.frz o (.lst xs)) else none
section
variable {K : PySem.W.Frag} {ts : List Addr} {a b : Addr} {o : Obj} {xs : List V} {u : HO}
theorem hp0_tab (h : b ∈ ts) : hp0 K ts a o xs b = some (.tbl #[]) := if_pos h
theorem hp0_cases (h : hp0 K ts a o xs b = some u) : (b ∈ ts ∧ u = .tbl #[]) ∨ (b ∉ ts ∧ b = a ∧ K.lookup a = none ∧ u = .frz o (.lst xs)) := by
  unfold hp0 at h
  by_cases h1 : b ∈ ts
  · rw [if_pos h1] at h
    exact .inl ⟨h1, (Option.some.inj h).symm⟩
  · rw [if_neg h1] at h
    by_cases h2 : b = a ∧ K.lookup a = none
    · rw [if_pos h2] at h
      exact .inr ⟨h1, h2.1, h2.2, (Option.some.inj h).symm⟩
    · rw [if_neg h2] at h
      cases h
theorem hp0_none (h1 : b ∉ ts) (h2 : b = a → K.lookup a ≠ none) : hp0 K ts a o xs b = none := by
  unfold hp0
  rw [if_neg h1, if_neg fun z => h2 z.1 z.2]
end
theorem law_start {P : Program} {w : World} {K : PySem.W.Frag} {mg mb : Str → Option Value} {fa a : Addr} {cs : List (Addr × Addr)} {s₁ : Shared} {vs : List Value} {ns : List Int}
    (KX : K.In s₁.heap) (hns : s₁.heap.Ns mainGlobals mg) (hb : s₁.heap.Ns builtinsNs mb) (hbb : ∀ x : Str, x ≠ "__name__" → mb x = bootBuiltins x) (hlim : s₁.heap.NoLimit) (hg : s₁.gens = #[])
    (hT : ∀ p ∈ cs, s₁.heap.get? p.2 = some { cls := .none, data := .fields #[] }) (nT : ∀ p ∈ cs, K.lookup p.2 = none) (C : ∀ p ∈ cs, PySem.W.CodeHd s₁.heap p.1 p.2)
    (hbm : ∃ (bm : Addr) (ob : Obj), mg "__builtins__" = some (.ref bm) ∧ bm ≠ builtinsNs ∧ s₁.heap.get? bm = some ob ∧ ob.cls = .type "module" ∧ ob.dict = some builtinsNs ∧ ob.data = .plain)
    (ha : s₁.heap.get? a = some { cls := .type "list", data := .seq vs.toArray }) (hi : IntsAre vs ns) (hl : ns.length ≤ sizeLine) (F : Start P w K mg fa a cs ns s₁) :
    codeAny (model P w) callerA (.call (.ref fa) ⟨[.ref a], []⟩) (fun r s' => r = .ok (.ret (.bool true)) ∧ OldK s₁.heap s'.heap ∧ s'.os = s₁.os ∧ AllBare s'.gens) s₁ := by
  have rv := vals_ints hi
  -- a table's object, an object that is no table
  have tab : ∀ {b : Addr}, b ∈ cs.map (·.2) → s₁.heap.get? b = some { cls := .none, data := .fields #[] } := fun {b} h => by
    obtain ⟨p, hp, rfl⟩ := List.mem_map.mp h
    exact hT p hp
  have aT : a ∉ cs.map (·.2) := fun z => by
    rw [tab z] at ha
    cases ha
  have hH : ∀ {b : Addr} {o : Obj}, s₁.heap.get? b = some o → (∀ x n, o.data ≠ .seq x n) → o.data ≠ .fields #[] → hp0 K (cs.map (·.2)) a { cls := .type "list", data := .seq vs.toArray } (ns.map V.int) b = none := fun {b o} e n1 n2 =>
    hp0_none (fun z => by rw [tab z] at e; cases e; exact n2 rfl) (fun z => by rw [z, ha] at e; cases e; exact absurd rfl (n1 _ _))
  generalize hHd : hp0 K (cs.map (·.2)) a { cls := .type "list", data := .seq vs.toArray } (ns.map V.int) = H at hH
  have cas : ∀ {b : Addr} {u : HO}, H b = some u → (b ∈ cs.map (·.2) ∧ u = .tbl #[]) ∨ (b ∉ cs.map (·.2) ∧ b = a ∧ K.lookup a = none ∧ u = .frz { cls := .type "list", data := .seq vs.toArray } (.lst (ns.map V.int))) := fun h => hp0_cases (by rw [hHd]; exact h)
  have hok : HOk P w H s₁.heap := fun b u h => by
    rcases cas h with ⟨h1, rfl⟩ | ⟨_, rfl, _, rfl⟩
    · exact tab h1
    · exact ⟨ha, by rw [List.length_map]; exact hl, vs, _, rv, ha⟩
  have nsK : ∀ {b : Addr} {m : Str → Option Value}, s₁.heap.Ns b m → (hidT s₁.heap H).Ns b m := fun {b m} ⟨o, es, ep, e, d, r⟩ => ⟨o, es, ep, hidT_get e (hH e (by rw [d]; intro _ _ z; cases z) (by rw [d]; intro z; cases z)), d, r⟩
  have hKb : K.In (hidT s₁.heap H) := fun b o e => hidT_get (KX b o e) (by
    rw [← hHd]
    refine hp0_none (fun z => ?_) fun z => by rw [← z, e]; intro q; cases q
    obtain ⟨p, hp, rfl⟩ := List.mem_map.mp z
    rw [nT p hp] at e
    cases e)
  have hM : L2.Mod K mg (hidT s₁.heap H) := ⟨hKb, nsK hns, ⟨mb, nsK hb, hbb⟩, hlim.imp fun mc h => ⟨nsK h.1, h.2⟩⟩
  have e0 : Env0 P w K mg (hidT s₁.heap H) callerA [] s₁ H :=
    ⟨rfl, hM, fun b o e => of_hidT e, Nat.le_of_eq (hidT_size _ _), trivial, fun b z => absurd (show b ∈ ([] : List Addr) from z) List.not_mem_nil, hok, .of_eq hg⟩
  have TB : ∀ p ∈ cs, LamX.TabB (hidT s₁.heap H) mg p.1 p.2 := fun p hp => by
    refine ⟨?_, ?_, fun z => ?_⟩
    · obtain ⟨o, us, file, tf, flags, tg, inF, text, tt, e1, r1, r2, r3, r⟩ := C p hp
      refine ⟨o, us, file, tf, flags, tg, inF, text, tt, hidT_get e1 (hH e1 (by rw [r2]; intro _ _ z; cases z) ?_), r1, r2, r3, r⟩
      rw [r2]
      intro z
      cases z
      simp at r3
    · obtain ⟨bm, ob, b1, b2, b3, b4, b5, b6⟩ := hbm
      refine ⟨bm, ob, b1, b2, fun z => ?_, fun z => ?_, hidT_get b3 (hH b3 (by rw [b6]; intro _ _ z; cases z) (by rw [b6]; intro z; cases z)), b4, b5, b6⟩
      · obtain ⟨o, es, ep, e, hd, _⟩ := hns
        rw [z, e] at b3
        cases b3
        rw [hd] at b6
        cases b6
      · rw [z, hT p hp] at b3
        cases b3
        cases b6
    · obtain ⟨o, es, ep, e, hd, _⟩ := hns
      rw [z, hT p hp] at e
      cases e
      cases hd
  have hS : SqL K H a (ns.map V.int) := by
    cases hk : K.lookup a with
    | none =>
      refine .inl (.inr ⟨{ cls := .type "list", data := .seq vs.toArray }, ?_⟩)
      rw [← hHd]
      unfold hp0
      rw [if_neg aT, if_pos ⟨rfl, hk⟩]
    | some o =>
      have e := KX a o hk
      rw [ha] at e
      cases e
      exact .inr ⟨_, vs.toArray, _, hk, rfl, rfl, rfl, by rw [List.size_toArray, hi.length]; exact hl, rv⟩
  have hTb : ∀ p ∈ cs, H p.2 = some (.tbl #[]) := fun p hp => by
    rw [← hHd]
    exact hp0_tab (List.mem_map.mpr ⟨p, hp, rfl⟩)
  refine codeAny_mono (F _ H TB e0 hTb hS) fun r s' h => ?_
  cases r with
  | error e => exact h.elim
  | ok fl =>
    cases fl with
    | next => exact h.elim
    | brk => exact h.elim
    | cont => exact h.elim
    | ret u =>
      obtain ⟨v, H', os, bare, un, hok', r', rfl⟩ := h
      obtain rfl : u = Value.bool true := r'
      have kept : ∀ b o, b ∉ cs.map (·.2) → s₁.heap.get? b = some o → s'.heap.get? b = some o := fun b o nb e => by
        cases q : H b with
        | none => exact un.keep b o e q (fun z => absurd (show b ∈ ([] : List Addr) from z) List.not_mem_nil) List.not_mem_nil
        | some u =>
          rcases cas q with ⟨z, _⟩ | ⟨_, rfl, _, rfl⟩
          · exact absurd z nb
          · obtain ⟨e2, _⟩ := hok' _ _ (un.frzs _ _ _ q)
            rw [ha] at e
            cases e
            exact e2
      refine ⟨rfl, ⟨fun b o e => ?_, fun b o e => ?_⟩, os, bare⟩
      · by_cases hb : b ∈ cs.map (·.2)
        · obtain ⟨p, hp, rfl⟩ := List.mem_map.mp hb
          obtain ⟨more, z⟩ := un.tbls p.2 #[] (hTb p hp)
          rw [hT p hp] at e
          cases e
          exact .inr (.inl ⟨((C p hp).tab (hT p hp)).isCodeTable, rfl, #[], _, rfl, hok' p.2 _ z⟩)
        · exact .inl (kept b o hb e)
      · by_cases hb : b ∈ cs.map (·.2)
        · obtain ⟨p, hp, rfl⟩ := List.mem_map.mp hb
          obtain ⟨more, z⟩ := un.tbls p.2 #[] (hTb p hp)
          exact ⟨_, hok' p.2 _ z⟩
        · exact ⟨o, kept b o hb e⟩
end GD

set_option Elab.async false
set_option linter.all false
set_option pp.maxSteps 900
set_option maxRecDepth 100000
set_option maxHeartbeats 4000000
namespace GD
open PySem PySem.Spec PyProof.Rows L2
/-! ### repr(x) of data, nothing under way -/
def rRepr (K : PySem.W.Frag) : List V → Hp → VK → Prop := fun xs H Q => ∃ (v : V) (d : PyData), xs = [v] ∧ Dp K H v d ∧ d.showable = true ∧ d.hasDict = false ∧ d.depth ≤ 64 ∧ d.shown.length ≤ sizeLine ∧ Q (.str d.shown) H
theorem call_reprD {X : Cx} (hg : X.A.guards = some []) (hu : X.A.units + 66 < cLine) : CallR X (.builtin "repr") (rRepr X.K) := by
  intro pins s σ H xs us Q I r h
  obtain ⟨v, d, rfl, hd, hs, hn, hdp, hsz, q⟩ := h
  obtain ⟨u, rfl, ru⟩ := vals1 r
  obtain ⟨as, rd⟩ := Dp.reads I d v u hd ru
  cases hd with
  | non =>
    cases ru
    exact P.repr_of_none ⟨.str _, H, I.tok _, ⟨_, rfl⟩, q⟩
  | bl b =>
    cases ru
    exact P.repr_of_bool ⟨.str _, H, I.tok _, ⟨_, rfl⟩, q⟩
  | int i =>
    obtain ⟨t, rfl⟩ := ru
    exact P.repr_of_int (of_decide_eq_true hs) ⟨.str _, H, I.tok _, ⟨_, rfl⟩, q⟩
  | str x =>
    obtain ⟨t, rfl⟩ := ru
    exact P.repr_of_str ⟨.str _, H, I.tok _, ⟨_, rfl⟩, q⟩ hsz
  | lst h1 h2 =>
    cases ru
    exact repr_of_reads' rd hs (fun e => by rw [hn] at e; cases e) hg (by omega) (fun _ _ e => e) (fun h' u tk hk => ⟨.str _, H, I.kept hk, ⟨_, rfl⟩, q⟩) hsz
  | tup h1 h2 =>
    cases ru
    exact repr_of_reads' rd hs (fun e => by rw [hn] at e; cases e) hg (by omega) (fun _ _ e => e) (fun h' u tk hk => ⟨.str _, H, I.kept hk, ⟨_, rfl⟩, q⟩) hsz
/-! ### the law's own def, run by the caller -/
theorem run_law {P : Program} {w : World} {K : PySem.W.Frag} {mg : Str → Option Value} {base : Heap} {A : Around} {k : Nat} {f : Addr} {name qual : Str} {params : Arguments} {body : List Stmt} {scope : Scope} {dV kV doc pm cdv ct oc : Value} {an od : Option Addr}
    {osl : Array (Option Value)} {N ps : List Str} {s : Shared} {H : Hp} {args : Args} {us : List Value} {vs : List V} {Q : VK} {E : XK}
    (lk : K.lookup f = some ⟨oc, od, .func (PySem.W.fnOf name qual params body scope dV kV doc pm an cdv ct), osl⟩) (hcd : PySem.W.codeIn K cdv qual = true) (S : FnScope N ps scope) (hr : Room (k + 1) A) (e0 : Env0 P w K mg base A [] s H)
    (hb : BindsTo s (PySem.W.fnOf name qual params body scope dV kV doc pm an cdv ct) args (ps.zip us)) (r : Vals vs us) (hl : vs.length = ps.length)
    (hbody : Room k (A.deeper (envOfC qual scope s.heap.objs.size f cdv)) → ∃ t, PSs (cxOf CX0 P w K mg base N qual scope f cdv A [] s H E) body t ∧ t { nx := fun _ H' => Q .non H', rt := Q } (start N vs) H) :
    codeAny (model P w) A (.call (.ref f) args) (CR CX0 [] P w H s Q E) s := by
  have KX : K.In s.heap := e0.mod.kin.keeps fun b o e => (e0.bs b o e).1
  have lim : s.heap.NoLimit := e0.mod.nolimit.keeps fun b o e => (e0.bs b o e).1
  have kinds : ∀ y ∈ ps.zip us, scope.names.lookup y.1 = some .local ∨ (scope.names.lookup y.1 = some .cell ∧ ((cellsFrom (s.heap.objs.size + 1) scope.names []).lookup y.1).isSome = true) := fun y hy =>
    (S.par y.1 (List.of_mem_zip (a := y.1) (b := y.2) hy).1).imp id fun q => ⟨q, PySem.W.cellsFrom_some _ _ _ (.inl q)⟩
  refine codeAny_call_function hr.depth (KX _ _ lk) rfl S.co S.gen rfl (PySem.W.codeRec_of KX hcd) (hb _ _ _ _ (wpAny_newFunctionEnv_cells S.kind kinds fun env he s1 x => ?_))
  subst he
  obtain ⟨t, ht, hq⟩ := hbody (hr.deeper _)
  refine ⟨lim.keeps x.toInCall.keep, codeAny_func (wpAny_mono (ht.run [] s1 (start N vs) H _ (inv_start S hr.hd e0 hl r x) hq) (fun fl s' hs => ?_) fun e s' hs => hs)⟩
  cases fl with
  | ret u =>
    obtain ⟨v, σ', H', J, rv, q⟩ := hs
    exact ⟨v, H', J.os, J.bare, J.base, J.hok, rv, q⟩
  | next =>
    obtain ⟨σ', H', J, q⟩ := hs
    exact ⟨V.non, H', J.os, J.bare, J.base, J.hok, rfl, q⟩
  | brk =>
    obtain ⟨_, _, _, q⟩ := hs
    exact q.elim
  | cont =>
    obtain ⟨_, _, _, q⟩ := hs
    exact q.elim
/-- the def's own surroundings: no repr is under way there -/
theorem deeper_guards (env : Env) : (callerA.deeper env).guards = some [] := rfl
/-! ### the whole -/
def LawG (l : PySem.W.OpenLaw) (w : World) (K : PySem.W.Frag) (n : Nat) (mg : Str → Option Value) (fa : Addr) (h : Heap) : Prop :=
  ∃ cs : List (Addr × Addr), (∀ p ∈ cs, h.get? p.2 = some { cls := .none, data := .fields #[] }) ∧ (∀ p ∈ cs, K.lookup p.2 = none) ∧ (∀ p ∈ cs, PySem.W.CodeHd h p.1 p.2) ∧
    ∀ (s : Shared) (a : Addr) (ns : List Int), ns.length ≤ n → (∀ z ∈ ns, Builtin.Int.intBits z ≤ 1048576) → Start l.prog w K mg fa a cs ns s
theorem walk_G {l : PySem.W.OpenLaw} {n : Nat} {q : Program} {loose : List Str} {XP : (Str → Option Value) → Heap → Prop} {YP : World → Heap → Prop} {d : DefRec} {K : Params → PySem.W.Frag}
    (hn : l.most = some n) (hn2 : n ≤ sizeLine) (hdf : d.params.defaults = []) (hY : ∀ (w : World) (h : Heap), YP w h → (K w.params).In h)
    (F : ∀ (w : World) (mg : Str → Option Value) (fa : Addr) (h : Heap), YP w h → (K w.params).In h → h.Ns mainGlobals mg → mg d.name = some (.ref fa) → LawG l w (K w.params) n mg fa h) :
    PySem.W.WalkO q loose XP YP l.row.toRowW d [] (fun f vs => PySem.call f vs) := by
  refine Att.attach_callB hn hdf fun w s₀ s₁ mg mb fa o pm cd doc a vs ns G Y ho hd hcd hmg hobj hints hlen hbits hg => ?_
  have KX := hY w _ Y
  obtain ⟨cs, hT, nT, C, hF⟩ := F w mg fa _ Y KX G.T.g hmg
  exact law_start KX G.T.g G.T.b G.T.builtins G.T.nolimit hg hT nT C G.T.bmain hobj hints (Nat.le_trans hlen hn2) (hF s₁ a ns hlen hbits)
end GD

set_option Elab.async false
set_option linter.all false
set_option pp.maxSteps 900
set_option maxRecDepth 100000
set_option maxHeartbeats 8000000
namespace K66
open PySem PySem.Spec PyProof.Rows L2
open LamX (GivesTo CodeO Tabs TabS TabB tLam pe_lamcall lamCx lamEnv lamS_by ExtN)
open TL (tl)
abbrev sLaw : Stmt := top 50
abbrev qLam : Str := ("law" : Str) ++ ".<locals>." ++ "<lambda>"
abbrev tbs (T1 : Addr) : List (Addr × Str) := [(T1, qLam)]
theorem tbs_1 {T1 : Addr} : ∀ p ∈ tbs T1, p.1 = T1 → p.2 = qLam := fun p hp e => by
  rw [List.mem_singleton.mp hp]
/-! ### a kept error without a dict -/
def rIsH0 (K : PySem.W.Frag) (D : Addr) : List V → Hp → VK → Prop := fun xs H Q => ∃ (a : Addr) (c : V) (cv : Value) (b : Bool), xs = [.ref a, c] ∧ (∀ u, RelV c u → u = cv) ∧ H a = some (exh a (.ref D) none) ∧
  PySem.W.kitOne K (.ref D) cv = some b ∧ Q (.bl b) H
theorem call_isH0 {X : Cx} {D : Addr} (C : ExcC X.K D) : CallR X (.builtin "isinstance") (rIsH0 X.K D) := by
  intro pins s σ H xs us Q I r h
  obtain ⟨a, c, cv, b, rfl, hcv, h1, e, q⟩ := h
  obtain ⟨u1, u2, rfl, r1, r2⟩ := vals2 r
  cases r1
  have ec := hcv _ r2
  subst ec
  obtain ⟨oe, vs, ha, hz, hd⟩ := exh_at I.hok h1
  have J : PySem.W.InstAt s.heap a oe D none := ⟨ha, hz.1, by unfold PySem.W.notCls; rw [hd] <;> rfl, by rw [hz.2]; trivial⟩
  have hcl : (PySem.W.clsIn X.K D).isSome = true := by
    obtain ⟨cd, hc, _⟩ := PySem.W.any_some C.hd
    rw [hc]
    rfl
  exact PySem.W.kia_one (PySem.W.kitx_exc hcl C.hg C.hk C.hs C.ha C.hn C.ht C.hm) I.kIn J e (fun z => nomatch z) fun tk => ⟨.bl b, H, I.kept (t' := tk) fun _ _ z => z, rfl, q⟩
theorem kit_self {K : PySem.W.Frag} {S : Addr} : PySem.W.kitOne K (.ref S) (.ref S) = some true := by
  unfold PySem.W.kitOne
  rw [if_pos (beq_self_eq_true _)]
theorem Kv.extN {g : Addr} {H H' : Hp} (k : ExtN H H') : Kv g H H' := ⟨fun b xs e _ => k _ _ e (fun _ z => by cases z), fun b xs e => k _ _ e (fun _ z => by cases z), fun b e => k _ _ e (fun _ z => by cases z)⟩
theorem StA.extN {H H' : Hp} {d g c : Addr} {n : Nat} (S : StA H d g c n) (k : ExtN H H') : StA H' d g c n := by
  obtain ⟨r, tt, gs, cs, S⟩ := S
  exact ⟨r, tt, gs, cs, { S with dk := k _ _ S.dk (fun _ z => by cases z), gl := k _ _ S.gl (fun _ z => by cases z), cl := k _ _ S.cl (fun _ z => by cases z) }⟩
theorem tabs_but {T : List (Addr × Str)} {H H' : Hp} (t : Tabs T H) (k : ∀ b o, H b = some o → (∀ kv, o ≠ .dK kv) → (∀ xs, o ≠ .lst xs) → H' b = some o) : Tabs T H' := fun p hp => by
  obtain ⟨ps, h1, h2, h3⟩ := t p hp
  refine ⟨ps, k _ _ h1 (fun _ z => by cases z) (fun _ z => by cases z), h2, fun pos cv hc => ?_⟩
  obtain ⟨c', e1, e2⟩ := h3 pos cv hc
  exact ⟨c', e1, k _ _ e2 (fun kv z => by unfold CodeO at z; cases z) (fun xs z => by unfold CodeO at z; cases z)⟩
theorem tabs_kp {T : List (Addr × Str)} {H H' : Hp} {d g c : Addr} {n : Nat} (t : Tabs T H) (S : StA H d g c n) (k : Kp d g H H') : Tabs T H' := by
  obtain ⟨r, tt, gs, cs, S⟩ := S
  refine tabs_but t fun b o e n1 n2 => k b o e (fun z => ?_) (fun z => ?_)
  · rw [z] at e
    exact n1 _ (Option.some.inj (e.symm.trans S.dk))
  · rw [z] at e
    exact n2 _ (Option.some.inj (e.symm.trans S.gl))
theorem DVs.pick {g : Addr} {H : Hp} {v : V} : ∀ {xs : List V} {ds : List Dt}, DVs g H xs ds → v ∈ xs → ∃ d, d ∈ ds ∧ DV g H v d
  | _, _, .nil, h => by cases h
  | _, _, .cons (v := x) (vs := xs) (d := d) h r, m => by
    rcases List.mem_cons.mp m with rfl | m
    · exact ⟨d, List.mem_cons_self, h⟩
    · obtain ⟨d', h1, h2⟩ := r.pick m
      exact ⟨d', List.mem_cons_of_mem _ h1, h2⟩
/-- a def that is called with keywords too -/
def ClK (CX : CXT) (P : Program) (w : World) (K : PySem.W.Frag) (mg : Str → Option Value) (base : Heap) (x : Str) (p : Str) (k : Nat) (sp : Sp) : Prop :=
  ∃ f fd, FnOk P w K mg base CX k f fd [p] sp ∧ mg x = some (.ref f) ∧ PySem.W.keepIn K (.ref f) = true ∧ L2.Binds K fd [p] [] ∧ KBinds K fd [p] [p] (fun us ws => us ++ ws) (fun us ws => us ++ ws)
/-- the errors that the law keeps -/
structure Ek (K : PySem.W.Frag) (mg : Str → Option Value) (x : Str) (CE C : Addr) : Prop where
  m : mg x = some (.ref C)
  exm : PySem.W.exmOne K (.ref C) (.ref CE) = some true
  exc : ExcC K C
structure MgC (mg : Str → Option Value) (K : PySem.W.Frag) (CE fCgt : Addr) : Prop where
  cgt : mg "_law_caught" = some (.ref fCgt)
  kcgt : PySem.W.keepIn K (.ref fCgt) = true
  ce : mg "ClockError" = some (.ref CE)
theorem tabs_put {T : List (Addr × Str)} {H : Hp} {p : Addr} {l l' : List V} (t : Tabs T H) (h : H p = some (.lst l)) : Tabs T (upd H p (.lst l')) := by
  refine tabs_but t fun b o e n1 n2 => ?_
  have hb : b ≠ p := fun z => by
    rw [z, h] at e
    exact n2 _ (Option.some.inj e).symm
  rw [upd_ne hb]
  exact e
def kwX {α : Type} : List α → List α → List α
  | [], [a, b] => [b, a]
  | _, _ => []
theorem kwX_rel {vs : List V} {us : List Value} {zs : List V} {ws : List Value} (r1 : Vals vs us) (r2 : Vals zs ws) : Vals (kwX vs zs) (kwX us ws) := by
  cases r1 with
  | cons _ _ => exact .nil
  | nil =>
    cases r2 with
    | nil => exact .nil
    | cons a r2 =>
      cases r2 with
      | nil => exact .nil
      | cons b r2 =>
        cases r2 with
        | nil => exact .cons b (.cons a .nil)
        | cons _ _ => exact .nil
def rTupOf (K : PySem.W.Frag) : List V → Hp → VK → Prop := fun xs H Q => ∃ p ys, xs = [.ref p] ∧ ((SqL K H p ys ∧ ∀ l, H l = none → Q (.ref l) (upd H l (.tup ys))) ∨ (SqT K H p ys ∧ Q (.ref p) H))
theorem flat_last (m : List Int × Int) : atI ((flat m).map V.int) (-1) = some (.int m.2) := by
  unfold flat
  rw [List.map_append]
  exact atI_last _ _
theorem flat_cut (m : List Int × Int) : cutV ((flat m).map V.int) none (some (-1)) = m.1.map V.int := by
  unfold cutV
  have h : HT.sIx ((flat m).map V.int).length ((flat m).map V.int).length (some (-1)) = m.1.length := by
    show (if (-1 : Int) < 0 then ((-1 : Int) + ((((flat m).map V.int).length : Nat) : Int)).toNat else min (-1 : Int).toNat ((flat m).map V.int).length) = _
    rw [if_pos (by decide), List.length_map]
    unfold flat
    rw [List.length_append]
    show (-1 + ((m.1.length + 1 : Nat) : Int)).toNat = _
    omega
  rw [h, HT.sIx_none, Nat.sub_zero, List.drop_zero]
  unfold flat
  rw [List.map_append, List.take_left' (by rw [List.length_map])]
theorem DVs.snoc_inv {g : Addr} {H : Hp} {d : Dt} : ∀ {ds : List Dt} {xs : List V}, DVs g H xs (ds ++ [d]) → ∃ ys v, xs = ys ++ [v] ∧ DV g H v d
  | [], _, h => by
    cases h with
    | cons h r => cases r; exact ⟨[], _, rfl, h⟩
  | _ :: ds, _, h => by
    cases h with
    | cons h r =>
      obtain ⟨ys, v, rfl, hv⟩ := DVs.snoc_inv r
      exact ⟨_ :: ys, v, rfl, hv⟩
theorem msD_pur (m : List Int × Int) : pur (msD m) = true := by
  show (purs (m.1.map Dt.int) && (true && true)) = true
  have : purs (m.1.map Dt.int) = true := purs_of fun d hd => by
    obtain ⟨k, _, rfl⟩ := List.mem_map.mp hd
    rfl
  rw [this] <;> rfl
theorem msDs_pur (ms : List (List Int × Int)) : purs (ms.map msD) = true := purs_of fun d hd => by
  obtain ⟨m, _, rfl⟩ := List.mem_map.mp hd
  exact msD_pur m
theorem deps_ints (l : List Int) : deps (l.map Dt.int) = 0 := by
  induction l with
  | nil => rfl
  | cons x l ih =>
    show max 0 (deps (l.map Dt.int)) = 0
    rw [ih]
    rfl
theorem msD_dep (m : List Int × Int) : dep (msD m) = 2 := by
  show max (deps (m.1.map Dt.int) + 1) (max 0 0) + 1 = 2
  rw [deps_ints]
  rfl
theorem msDs_dep (ms : List (List Int × Int)) : deps (ms.map msD) ≤ 63 := deps_le fun d hd => by
  obtain ⟨m, _, rfl⟩ := List.mem_map.mp hd
  rw [msD_dep]
  omega
section
variable {P : Program} {w : World} {K : PySem.W.Frag} {mg : Str → Option Value} {base : Heap}
theorem scLaw : FnScope ["script", "state", "web", "words", "due", "told", "lap", "other", "right", "far", "line", "last", "at", "one"] ["script"] (defScope sLaw) := ⟨rfl, rfl, rfl, by decide +kernel, rfl, by decide +kernel, by decide +kernel⟩
theorem law_run {fa cL T1 CE C1 C2 fCgt a : Addr} {oc kV doc pm ct : Value} {od an : Option Addr} {sl : Array (Option Value)} {ns : List Int} {s : Shared} {H : Hp}
    {ocg kVg docg pmg cdg ctg : Value} {odg ang : Option Addr} {slg : Array (Option Value)} {fMs : Addr} {fdMs : FuncData}
    (lk : K.lookup fa = some ⟨oc, od, .func (PySem.W.fnOf "law" "law" (defArgs sLaw) (defBody sLaw) (defScope sLaw) .none kV doc pm an (.ref cL) ct), sl⟩) (hcd : PySem.W.codeIn K (.ref cL) "law" = true)
    (lkg : K.lookup fCgt = some ⟨ocg, odg, .func (PySem.W.fnOf "_law_caught" "_law_caught" (defArgs sCgt) (defBody sCgt) (defScope sCgt) .none kVg docg pmg ang cdg ctg), slg⟩) (hcg : PySem.W.codeIn K cdg "_law_caught" = true)
    (bCgt : L2.Binds K (PySem.W.fnOf "_law_caught" "_law_caught" (defArgs sCgt) (defBody sCgt) (defScope sCgt) .none kVg docg pmg ang cdg ctg) ["action"] [])
    (B : Bn mg) (hrepr : mg "repr" = none) (T : MgC mg K CE fCgt) (E1 : Ek K mg "BadWeb" CE C1) (E2 : Ek K mg "BadWords" CE C2) (TB : TabB base mg cL T1)
    (cBeg : Cl P w K mg base "_law_begun" ["script"] 1 (spBeg K)) (cWW : Cl P w K mg base "_law_wb_web" ["state", "low"] 6 spWW) (cRd : Cl P w K mg base "_law_wb_roads" ["web"] 2 spRd) (cDWs : Cl P w K mg base "_law_drawn_words" ["state", "web", "roads"] 5 spDWs)
    (cLW : Cl P w K mg base "_law_wb_words" ["web", "words"] 3 spLW) (GMs : FnOk P w K mg base (L2.CX P w) 6 fMs fdMs ["web", "words"] (spMs C1 C2)) (mMs : mg "measures" = some (.ref fMs)) (kMs : PySem.W.keepIn K (.ref fMs) = true) (bMs : L2.Binds K fdMs ["web", "words"] [])
    (hMs : KBinds K fdMs ["web", "words"] ["words", "web"] kwX kwX)
    (cIW : ClX (L2.CX P w) P w K mg base "is_words" ["web", "words"] 6 (spIW C1)) (cSt : Cl P w K mg base "_law_strange" ["state", "words"] 4 spSt) (cDb : Cl P w K mg base "_law_doubling" ["state"] 3 spDb)
    (e0 : Env0 P w K mg base callerA [] s H) (hT1 : H T1 = some (.tbl #[])) (hS : SqL K H a (ns.map V.int)) (hlen : ns.length ≤ 63) :
    codeAny (model P w) callerA (.call (.ref fa) ⟨[.ref a], []⟩) (CR CX0 [] P w H s (fun v _ => v = .bl true) fun _ _ _ => False) s := by
  obtain ⟨fBeg, fdBeg, GBeg, mBeg, kBeg, bBeg⟩ := cBeg
  obtain ⟨fWW, fdWW, GWW, mWW, kWW, bWW⟩ := cWW
  obtain ⟨fRd, fdRd, GRd, mRd, kRd, bRd⟩ := cRd
  obtain ⟨fDWs, fdDWs, GDWs, mDWs, kDWs, bDWs⟩ := cDWs
  obtain ⟨fLW, fdLW, GLW, mLW, kLW, bLW⟩ := cLW
  obtain ⟨fIW, fdIW, GIW, mIW, kIW, bIW⟩ := cIW
  obtain ⟨fSt, fdSt, GSt, mSt, kSt, bSt⟩ := cSt
  obtain ⟨fDb, fdDb, GDb, mDb, kDb, bDb⟩ := cDb
  refine GD.run_law (k := 12) (N := ["script", "state", "web", "words", "due", "told", "lap", "other", "right", "far", "line", "last", "at", "one"]) (ps := ["script"]) (us := [.ref a]) (vs := [.ref a]) lk hcd scLaw ⟨rfl, by decide, by decide⟩ e0 (.of_eq rfl) (.cons rfl .nil) rfl fun hr => ?_
  have hg : (callerA.deeper (envOfC "law" (defScope sLaw) s.heap.objs.size fa (.ref cL))).guards = some [] := rfl
  have hu66 : (callerA.deeper (envOfC "law" (defScope sLaw) s.heap.objs.size fa (.ref cL))).units + 66 < cLine := by have := hr.un; omega
  have hr1 : Room 1 _ := hr.mono (by decide)
  have hr2' : Room 2 _ := hr.mono (by decide)
  have hr3 : Room 3 _ := hr.mono (by decide)
  have hr4 : Room 4 _ := hr.mono (by decide)
  have hr5 : Room 5 _ := hr.mono (by decide)
  have hr6 : Room 6 _ := hr.mono (by decide)
  have hr10 : Room 10 _ := hr.mono (by decide)
  refine ⟨_, PSs.nox (pss_cons (ps_set (i := 1) scLaw.nd rfl (Or.inl rfl) (pe_call GBeg hr1 (by rfl) mBeg kBeg bBeg .nil pass0 (pa_cons (pv 0) pa_nil)))
      (pss_cons (ps_set (i := 2) scLaw.nd rfl (Or.inr rfl) (pe_call GWW hr6 (by rfl) mWW kWW bWW .nil pass0 (pa_cons (pv 1) (pa_cons pe_bl pa_nil))))
      (pss_cons (ps_set (i := 3) scLaw.nd rfl (Or.inr rfl) (pe_call GDWs hr5 (by rfl) mDWs kDWs bDWs .nil pass0 (pa_cons (pv 1) (pa_cons (pv 2) (pa_cons (pe_call GRd hr2' (by rfl) mRd kRd bRd .nil pass0 (pa_cons (pv 2) pa_nil)) pa_nil)))))
      (pss_cons (ps_set (i := 4) scLaw.nd rfl (Or.inl rfl) (pe_call GLW hr3 (by rfl) mLW kLW bLW .nil pass0 (pa_cons (pv 2) (pa_cons (pv 3) pa_nil))))
      (pss_cons (ps_set (i := 5) scLaw.nd rfl (Or.inl rfl) (pe_call GMs hr6 (by rfl) mMs kMs bMs .nil passL (pa_cons (pv 2) (pa_cons (pv 3) pa_nil))))
      (pss_cons (ps_if (PW.pt (pw_or (pt_cmpR op_isnot_bl (pe_call GIW hr6 (by rfl) mIW kIW bIW .nil passL (pa_cons (pv 2) (pa_cons (pv 3) pa_nil))) pe_bl (nomark _)) (pw_or1 (pt_cmpR op_isnot_bl (pe_call GIW hr6 (by rfl) mIW kIW bIW .nil passL (pa_cons (pv 2) (pa_cons (pe_callTy call_tuple_of (by rfl) B.tpl (by decide +kernel) (pa_cons (pv 3) pa_nil)) pa_nil))) pe_bl (nomark _))))) (pss_one (ps_ret pe_bl)) pss_nil)
      (pss_cons (ps_if (PW.pt (pw_or (pt_cmpR op_isN (pv 4) pe_non (nomark _)) (pw_or1 (pt_cmpR op_ne (pe_callB (GD.call_reprD hg hu66) (by rfl) hrepr (by decide +kernel) (pa_cons (pv 5) pa_nil)) (pe_callB (GD.call_reprD hg hu66) (by rfl) hrepr (by decide +kernel) (pa_cons (pe_lc (own := [("at", 12), ("one", 13)]) (g := gTup K 2 (gCons (gName 12) (gCons (gName 13) gNil))) (tt := tYes) (by rfl) scLaw.nd (pi_list (pv 4)) (blkOk_by (own := [("at", 12), ("one", 13)]) (N := ["script", "state", "web", "words", "due", "told", "lap", "other", "right", "far", "line", "last", "at", "one"]) (sc := defScope sLaw) (by decide +kernel)) (fun _ _ _ _ _ => (pg_tup (by rfl) (pgs_cons (pg_name (i := 12) scLaw.nd rfl (Or.inl rfl)) (pgs_cons (pg_name (i := 13) scLaw.nd rfl (Or.inl rfl)) pgs_nil)))) (fun _ _ _ _ _ => pts_nil) (fun _ _ _ _ _ => (pe_tup (pa_cons (pe_callTy (show CallR _ _ (rTupOf K) from call_tuple_of) (by rfl) B.tpl (by decide +kernel) (pa_cons (pe_slice (show SlR _ (rSlL K) from sl_list) (pv 13) po_none (po_some (pe_un un_neg pe_int))) pa_nil)) (pa_cons (pe_ix (show IxR _ (rIxL K) from ix_list) (pv 13) (pe_un un_neg pe_int) (fun _ _ => rfl)) pa_nil))))) pa_nil)) (nomark _))))) (pss_one (ps_ret pe_bl)) pss_nil)
      (pss_cons (ps_if (pt_cmpR (op_neD hr.units) (pe_callK0 GMs hr6 (by rfl) mMs kMs hMs passL (pk_cons (pe_callTy call_tuple_of (by rfl) B.tpl (by decide +kernel) (pa_cons (pv 3) pa_nil)) (pk_cons (pv 2) pk_nil))) (pv 5) (nomark _)) (pss_one (ps_ret pe_bl)) pss_nil)
      (pss_cons (ps_for PassesOwn.never rfl (pi_range1 (by rfl) B.rng (pa_cons pe_int pa_nil)) (pg_name (i := 6) scLaw.nd rfl (Or.inl rfl))
          (pss_cons (ps_set (i := 7) scLaw.nd rfl (Or.inr rfl) (pe_call GSt hr4 (by rfl) mSt kSt bSt .nil pass0 (pa_cons (pv 1) (pa_cons (pv 3) pa_nil))))
          (pss_cons (ps_set (i := 8) scLaw.nd rfl (Or.inl rfl) (pe_call GLW hr3 (by rfl) mLW kLW bLW .nil pass0 (pa_cons (pv 2) (pa_cons (pv 7) pa_nil))))
          (pss_cons (ps_if (pt_cmpR op_ne (pe_callB (GD.call_reprD hg hu66) (by rfl) hrepr (by decide +kernel) (pa_cons (pe_call GIW hr6 (by rfl) mIW kIW bIW .nil passL (pa_cons (pv 2) (pa_cons (pv 7) pa_nil))) pa_nil)) (pe_callB (GD.call_reprD hg hu66) (by rfl) hrepr (by decide +kernel) (pa_cons (pe_cmpR op_notN (pv 8) pe_non (nomark _)) pa_nil)) (nomark _)) (pss_one (ps_ret pe_bl)) pss_nil)
          (pss_one (ps_if (PW.pt (pw_and (pt_cmpR op_isN (pv 8) pe_non (nomark _)) (pw_and1 (pt_not (pt_val (pe_callB (call_isH0 E2.exc) (by rfl) B.isi (by decide +kernel) (pa_cons (pe_lamcall (k := 8) (by rfl) T.cgt T.kcgt lkg hcg bCgt scC rfl (Or.inl rfl) (caught_gives T.ce) TB rfl (List.mem_cons_self ..) tbs_1 hr10 (lamS_by (by show LamX.lamSB (defScope sLaw) _ = true; decide +kernel)) rfl (fun _ _ _ _ _ => rfl)
              (fun A outer s H E f c' hr2 => pe_call GMs (hr2.mono (by decide)) (by rfl) mMs kMs bMs .nil (passes_call (takes_of rfl rfl rfl rfl) (fun _ _ _ _ h => h)) (pa_cons (pv 2) (pa_cons (pv 7) pa_nil)))) (pa_cons (pe_glob (v := .ref C2) (by rfl) E2.m rfl) pa_nil)))))))) (pss_one (ps_ret pe_bl)) pss_nil))))))
      (pss_cons (ps_asg (pe_call GDb hr3 (by rfl) mDb kDb bDb .nil pass0 (pa_cons (pv 1) pa_nil)) (pg_tup (by rfl) (pgs_cons (pg_name (i := 9) scLaw.nd rfl (Or.inl rfl)) (pgs_cons (pg_name (i := 10) scLaw.nd rfl (Or.inl rfl)) (pgs_cons (pg_name (i := 11) scLaw.nd rfl (Or.inl rfl)) pgs_nil)))))
      (pss_cons (ps_if (pt_cmpR (op_neD hr.units) (pe_ix ix_list (pe_call GMs hr6 (by rfl) mMs kMs bMs .nil passL (pa_cons (pv 9) (pa_cons (pv 10) pa_nil))) (pe_un un_neg pe_int) (fun _ _ => rfl)) (pv 11) (nomark _)) (pss_one (ps_ret pe_bl)) pss_nil)
      (pss_one (ps_ret (pe_and (pe_callB (call_isH0 E1.exc) (by rfl) B.isi (by decide +kernel) (pa_cons (pe_lamcall (k := 8) (by rfl) T.cgt T.kcgt lkg hcg bCgt scC rfl (Or.inl rfl) (caught_gives T.ce) TB rfl (List.mem_cons_self ..) tbs_1 hr10 (lamS_by (by show LamX.lamSB (defScope sLaw) _ = true; decide +kernel)) rfl (fun _ _ _ _ _ => rfl)
              (fun A outer s H E f c' hr2 => pe_call GMs (hr2.mono (by decide)) (by rfl) mMs kMs bMs .nil (passes_call (takes_of rfl rfl rfl rfl) (fun _ _ _ _ h => h)) (pa_cons pe_non (pa_cons pe_non pa_nil)))) (pa_cons (pe_glob (v := .ref C1) (by rfl) E1.m rfl) pa_nil))) (pe_one (pe_callB (call_isH0 E1.exc) (by rfl) B.isi (by decide +kernel) (pa_cons (pe_lamcall (k := 8) (by rfl) T.cgt T.kcgt lkg hcg bCgt scC rfl (Or.inl rfl) (caught_gives T.ce) TB rfl (List.mem_cons_self ..) tbs_1 hr10 (lamS_by (by show LamX.lamSB (defScope sLaw) _ = true; decide +kernel)) rfl (fun _ _ _ _ _ => rfl)
              (fun A outer s H E f c' hr2 => pe_call GIW (hr2.mono (by decide)) (by rfl) mIW kIW bIW .nil (passes_call (takes_of rfl rfl rfl rfl) (fun _ _ _ _ h => h)) (pa_cons (pe_lst (pa_cons (pv 2) pa_nil)) (pa_cons (pv 3) pa_nil)))) (pa_cons (pe_glob (v := .ref C1) (by rfl) E1.m rfl) pa_nil)))))))))))))))))), ?_⟩
  refine ⟨_, rfl, a, ns, rfl, hS, hlen, fun d g c H1 S1 sm1 hd hg0 => ?_⟩
  have X1 : Tabs (tbs T1) H1 := fun p hp => by
    rw [List.mem_singleton.mp hp]
    exact TabS.nil (sm1 _ _ hT1)
  refine ⟨_, rfl, d, g, c, 0, true, rfl, S1, by omega, fun vw W H2 hW S2 kp2 hvw => ?_⟩
  have X2 := tabs_kp X1 S1 kp2
  have okw := hW.ok
  have hwb := wb_ok okw
  refine ⟨_, rfl, _, rfl, _, rfl, g, vw, W, rfl, hvw g, okw, fun rd kvs H3 s3 hrd erd => ?_⟩
  refine ⟨d, g, c, rd, _, vw, W, kvs, rfl, S2.keep s3, by omega, (hvw g).keep (Kv.of s3), okw, erd, fun wl xs ws H4 S4 kp4 hwl ewl hxs hpu hB hwl12 h30 => ?_⟩
  have X4 := tabs_kp (X2.ext s3) (S2.keep s3) kp4
  have hvw4 : ∀ g', DV g' H4 vw (wbD W) := fun g' => DV.keepP (g := g) (Kv.kp (S2.keep s3) kp4).tup (wb_pur W) ((hvw g).keep (Kv.of s3))
  have nwg : wl ≠ g := ((S2.keep s3).free hwl).2.1
  have nwd : wl ≠ d := ((S2.keep s3).free hwl).1
  have hwords : wordsB W (.lst ws) = true := List.all_eq_true.mpr fun j hj => hB j (List.mem_range.mp hj)
  obtain ⟨kn, hkn, hkm, hknl, hmsl, hmsf⟩ := (lw_main okw (d := .lst ws)).2 ws rfl hwords
  have hdw : DV g H4 (.ref wl) (.lst ws) := .lst ewl nwg (by omega) (hxs g)
  -- due
  refine ⟨_, rfl, _, rfl, g, vw, .ref wl, W, .lst ws, rfl, hvw4 g, okw, hdw, purW_of hpu, (fun h => by rw [hkn] at h; cases h), fun kn' hkn' Kn ks H5 s5 hKn eKn hkr => ?_⟩
  obtain rfl := Option.some.inj (hkn.symm.trans hkn')
  -- told
  refine ⟨_, rfl, _, rfl, g, vw, .ref wl, wbD W, .lst ws, rfl, (hvw4 g).keep (Kv.of s5), hdw.keep (Kv.of s5), (fun h => by rw [hwb] at h; cases h), (fun W' e _ h => by rw [← wb_inj e, hwords] at h; cases h), fun W' ws' e _ e2 _ D ys H6 s6 hD eD hys => ?_⟩
  obtain rfl := wb_inj e
  obtain rfl : ws = ws' := Option.some.inj e2
  have s46 := s5.trans s6
  -- is_words(web, words), is_words(web, tuple(words))
  refine ⟨_, rfl, _, rfl, g, vw, .ref wl, wbD W, .lst ws, rfl, (hvw4 g).keep (Kv.of s46), hdw.keep (Kv.of s46), fun W' e _ H7 s7 => ?_, (fun h => by rw [hwb] at h; cases h)⟩
  obtain rfl := wb_inj e
  rw [hwords]
  refine ⟨true, true, rfl, rfl, _, rfl, ifF rfl ?_⟩
  have s47 := s46.trans s7
  refine ⟨_, rfl, _, rfl, wl, xs, rfl, .inl ⟨SqL.of (s47 _ _ ewl), fun tp htp => ?_⟩⟩
  generalize hH8 : upd H7 tp _ = H8
  obtain ⟨stp, etp⟩ := freshF htp hH8
  have s48 := s47.trans stp
  refine ⟨g, vw, .ref tp, wbD W, .tup ws, rfl, (hvw4 g).keep (Kv.of s48), .tup etp (by omega) ((hxs g).keep (Kv.of s48)), fun W' e _ H9 s9 => ?_, (fun h => by rw [hwb] at h; cases h)⟩
  obtain rfl := wb_inj e
  rw [show wordsB W (.tup ws) = true from hwords]
  refine ⟨true, true, rfl, rfl, _, rfl, ifF rfl ?_⟩
  have s49 := s48.trans s9
  have s69 := s7.trans (stp.trans s9)
  clear hT1 etp htp stp s48
  -- repr(told) != repr([..])
  obtain ⟨sh1, sh2, sh3⟩ := msDs_show (ms_small okw hB h30 hwl12) (fun m hm => by have := hmsf m hm; have := hW.lb; omega) (by rw [hmsl]; exact hwl12)
  have hdep := msDs_dep (msOf W ws)
  obtain ⟨_, hdp⟩ := purs_lay (msDs_pur (msOf W ws))
  have hdpt : (PyData.list (toPys ((msOf W ws).map msD))).depth ≤ 64 := by
    show PyData.depthAll _ + 1 ≤ 64
    rw [hdp]
    omega
  have hys9 : ∀ g', DVs g' H9 ys ((msOf W ws).map msD) := fun g' => (hys g').keep (Kv.of s69)
  have eD9 := s69 _ _ eD
  refine ⟨_, rfl, rfl, _, rfl, ifF rfl ?_⟩
  refine ⟨_, rfl, .ref D, .list (toPys ((msOf W ws).map msD)), rfl, .lst (SqL.of eD9) (dvs_dp (msDs_pur _) (hys9 g)), sh1, sh2, hdpt, sh3, ?_⟩
  have s59 := s6.trans s69
  have hkr9 : KnR W.lb.toNat H9 ks kn := hkr.keep (fun b o e _ => s59 _ _ e)
  have eKn9 := s59 _ _ eKn
  refine ⟨_, rfl, Kn, rfl, ⟨_, SqL.of eKn9⟩, fun L hL => ?_⟩
  refine lc_it (walk_list (K := K) (a := Kn) (xs := ks)) (fun i H' => ∃ acc : List V, H' L = some (.lst acc) ∧ Same H9 H' ∧ ∀ g', DVs g' H' acc (((msOf W ws).map msD).take i)) ⟨[], upd_same, same_new hL, fun g' => .nil⟩ (fun _ _ _ ⟨_, _, s, _⟩ => SqL.of (s _ _ eKn9)) ?_ ?_
  · rintro i x Ha Haz hi ⟨acc, eL, sa, hacc⟩ ⟨rfl, hx⟩
    have hik : i < kn.length := by rw [← hkr9.1]; exact hi
    have hkni : kn[i]? = some (kn[i]'hik) := List.getElem?_eq_getElem hik
    generalize hmk : kn[i]'hik = mk at hkni
    obtain ⟨q, p, hq, eq, ep, hpl⟩ := hkr9.2 i mk hkni
    obtain rfl := Option.some.inj (hx.symm.trans hq)
    obtain ⟨m, hm, hmf⟩ : ∃ m, (msOf W ws)[i]? = some m ∧ mk.2 = flat m := by
      have h1 : (kn.map (·.2))[i]? = some mk.2 := by rw [List.getElem?_map, hkni]; rfl
      rw [hkm, List.getElem?_map] at h1
      obtain ⟨m, hm, e⟩ := Option.map_eq_some_iff.mp h1
      exact ⟨m, hm, e.symm⟩
    rw [hmf] at ep
    refine ⟨q, _, rfl, SqT.of (sa _ _ eq), (by rfl), _, _, rfl, _, _, rfl, rfl, (by rfl), ?_⟩
    refine ⟨_, rfl, 1, rfl, _, rfl, p, _, rfl, SqL.of (sa _ _ ep), fun q1 hq1 => ?_⟩
    generalize hHb : upd Haz q1 _ = Hb
    obtain ⟨sq1, eq1⟩ := freshF hq1 hHb
    refine ⟨q1, _, rfl, .inl ⟨SqL.of eq1, fun q2 hq2 => ?_⟩⟩
    generalize hHc : upd Hb q2 _ = Hc
    obtain ⟨sq2, eq2⟩ := freshF hq2 hHc
    refine ⟨_, rfl, 1, rfl, p, _, -1, _, rfl, rfl, SqL.of (sq2 _ _ (sq1 _ _ (sa _ _ ep))), flat_last m, (by show 2 ≤ sizeLine; decide), fun q3 hq3 => ?_⟩
    generalize hHd : upd Hc q3 _ = Hd
    obtain ⟨sq3, eq3⟩ := freshF hq3 hHd
    have sad := sq1.trans (sq2.trans sq3)
    rw [flat_cut] at eq2
    have hal := (hacc g).len
    rw [List.length_take] at hal
    have hmi := (List.getElem?_eq_some_iff.mp hm).1
    rw [hmsl] at hmi
    refine ⟨acc, sad _ _ eL, by rw [hal, sizeLine_eq]; omega, acc ++ [.ref q3], upd_same, ?_, fun g' => ?_⟩
    · intro b o eb
      rw [upd_ne (ne_of_none eb hL)]
      exact sad _ _ (sa _ _ eb)
    · rw [List.take_succ, List.getElem?_map, hm]
      have kt := Kt.put (o := .lst (acc ++ [.ref q3])) (sad _ _ eL)
      refine (((hacc g').keep (Kv.of sad)).keepP kt (purs_of fun d hd => purs_mem (msDs_pur _) (List.mem_of_mem_take hd))).app (.cons (DV.keepP (g := g') kt (msD_pur m) ?_) .nil)
      refine .tup eq3 (by show 2 ≤ 20000; decide) (.cons (.tup (sq3 _ _ eq2) (by rw [List.length_map]; have := hmsf m (List.mem_of_getElem? hm); have := hW.lb; omega) (dvs_ints m.1)) (.cons (.int _) .nil))
  · rintro Ha ⟨acc, eL, sa, hacc⟩
    have hlk : ks.length = ((msOf W ws).map msD).length := by rw [hkr9.1, hknl, List.length_map, hmsl]
    rw [hlk, List.take_length] at hacc
    refine ⟨.ref L, .list (toPys ((msOf W ws).map msD)), rfl, .lst (SqL.of eL) (dvs_dp (msDs_pur _) (hacc g)), sh1, sh2, hdpt, sh3, rfl, _, rfl, ifF (by rw [decide_eq_true rfl]; rfl) ?_⟩
    have s4a := s49.trans sa
    -- measures(words = .., web = ..) != told
    refine ⟨_, rfl, wl, xs, rfl, .inl ⟨SqL.of (s4a _ _ ewl), fun tp htp => ?_⟩⟩
    generalize hHb : upd Ha tp _ = Hb
    obtain ⟨stp, etp⟩ := freshF htp hHb
    have s4b := s4a.trans stp
    refine ⟨_, rfl, g, vw, .ref tp, wbD W, .tup ws, rfl, (hvw4 g).keep (Kv.of s4b), .tup etp (by omega) ((hxs g).keep (Kv.of s4b)), (fun h => by rw [hwb] at h; cases h), (fun W' e _ h => by rw [← wb_inj e, show wordsB W (.tup ws) = true from hwords] at h; cases h), fun W' ws' e _ e2 _ D2 ys2 Hc sc hD2 eD2 hys2 => ?_⟩
    obtain rfl := wb_inj e
    obtain rfl : ws = ws' := Option.some.inj e2
    have s9c := sa.trans (stp.trans sc)
    have hshp := shaped_lst (msDs_pur (msOf W ws)) hdep
    refine ⟨_, rfl, .list (toPys ((msOf W ws).map msD)), .list (toPys ((msOf W ws).map msD)), .lst (SqL.of eD2) (dvs_dp (msDs_pur _) (hys2 g)), .lst (SqL.of (s9c _ _ eD9)) (dvs_dp (msDs_pur _) ((hys9 g).keep (Kv.of s9c))), hshp, hshp, _, rfl, ?_⟩
    refine ifF (by rw [eqv_lst (msDs_pur _)]; rfl) ?_
    have s4c := s49.trans s9c
    have S4c := S4.keep s4c
    have X4c := X4.ext s4c
    clear hys2 eD2 etp htp stp s4b s4a
    have hsh : ∀ w ∈ ws, ∃ (m : Int) (ss : List Dt), w = .tup [.int m, .tup ss] ∧ ss.length ≤ 1000 ∧ ∀ s ∈ ss, ∃ k : Int, 0 ≤ k ∧ k ≤ 8000 ∧ (s = .int k ∨ ∃ j : Int, s = .tup [.int k, .int j]) := by
      intro w hw
      obtain ⟨j, hj⟩ := List.getElem?_of_mem hw
      obtain ⟨n, ss, nt, h1, h2, h3, h4⟩ := word_shape (hB j (List.getElem?_eq_some_iff.mp hj).1)
      rw [hj] at h1
      obtain rfl := Option.some.inj h1
      obtain ⟨m', ss', e, h5⟩ := h30 _ hw
      injection e with e
      injection e with e1 e2
      injection e2 with e2
      injection e2 with e2
      subst e2
      refine ⟨n, ss, rfl, by omega, fun s hs => ?_⟩
      obtain ⟨k, e, _, k0, ke, kk⟩ := (h4 s hs).ex
      have := (List.getElem?_eq_some_iff.mp ke).1
      have := okw.el (List.mem_of_getElem? h3)
      refine ⟨k, k0, by omega, kk.imp id fun ⟨j, e, _⟩ => ⟨j, e⟩⟩
    refine ⟨3, rfl, by decide, by decide, ?_⟩
    refine for_it (walk_range (lo := 0) (n := (3 : Int).toNat)) (fun i σ H' => ∃ (v6 v7 v8 : Option V), σ = [some (.ref a), some (.ref d), some vw, some (.ref wl), some (.ref Kn), some (.ref D), v6, v7, v8, none, none, none, none, none] ∧ StA H' d g c (0 + 1000 + 2000 + 20 * i) ∧ H' wl = some (.lst xs) ∧ (∀ g', DVs g' H' xs ws) ∧ (∀ g', DV g' H' vw (wbD W)) ∧ Tabs (tbs T1) H')
      ⟨_, _, _, rfl, S4c, s4c _ _ ewl, (fun g' => (hxs g').keep (Kv.of s4c)), (fun g' => (hvw4 g').keep (Kv.of s4c)), X4c⟩ (fun _ _ _ _ _ => trivial) ?_ ?_
    · rintro i x σ H2' H2z hi ⟨v6, v7, v8, rfl, S5, ewl5, hxs5, hvw5, X5⟩ ⟨rfl, rfl⟩
      have hi : i < 3 := hi
      refine ⟨_, rfl, _, rfl, d, g, c, wl, _, xs, ws, rfl, S5, by omega, ewl5, nwg, hxs5 g, hpu, hwl12, hsh, fun v d' H6 S6 kp6 hd6 hpur6 => ?_⟩
      have ewl6 := kp6 _ _ ewl5 nwd nwg
      have hxs6 : ∀ g', DVs g' H6 xs ws := fun g' => (hxs5 g').keepP (Kv.kp S5 kp6).tup hpu
      have hvw6 : ∀ g', DV g' H6 vw (wbD W) := fun g' => (hvw5 g').keepP (Kv.kp S5 kp6).tup (wb_pur W)
      have X6 := tabs_kp X5 S5 kp6
      obtain ⟨lm1, lm2⟩ := lw_main okw (d := d')
      -- right is not None just if the words are right
      have key : ∀ (b : Bool) (vr : V) (H7 : Hp), Same H6 H7 → wordsB W d' = b → (decide (vr = V.non) = !b) → scal vr V.non = true → (vr = V.non ∨ vr ≠ V.non) → True := fun _ _ _ _ _ _ _ _ => trivial
      clear key
      refine ⟨_, rfl, _, rfl, g, vw, v, W, d', rfl, hvw6 g, okw, hd6, hpur6, fun hno H7 s7 => ?_, fun kn2 hk2 Kn2 ks2 H7 s7 hKn2 eKn2 hkr2 => ?_⟩
      · have hwf : wordsB W d' = false := by
          cases hw : wordsB W d' with
          | false => rfl
          | true =>
            cases hs : seqOf d' with
            | none =>
              unfold wordsB at hw
              rw [hs] at hw
              cases hw
            | some ws' =>
              obtain ⟨kn2, e, _⟩ := lm2 ws' hs hw
              rw [hno] at e
              cases e
        refine ⟨_, rfl, _, rfl, g, vw, v, wbD W, d', rfl, (hvw6 g).keep (Kv.of s7), hd6.keep (Kv.of s7), fun W' e _ H8 s8 => ?_, (fun h => by rw [hwb] at h; cases h)⟩
        obtain rfl := wb_inj e
        rw [hwf]
        refine ⟨.bl false, .bool false, rfl, .bl _, rfl, rfl, by decide, by decide +kernel, ?_⟩
        refine ⟨_, rfl, rfl, .bl false, .bool false, rfl, .bl _, rfl, rfl, by decide, by decide +kernel, rfl, _, rfl, ifF (by rw [decide_eq_true rfl]; rfl) ?_⟩
        refine ⟨_, rfl, rfl, _, rfl, ifT rfl ?_⟩
        have s68 := s7.trans s8
        refine ⟨X6.ext s68, fun H9 e9 X9 => ?_⟩
        have S9 := (S6.keep s68).extN e9
        have hvw9 : ∀ g', DV g' H9 vw (wbD W) := fun g' => ((hvw6 g').keep (Kv.of s68)).keep (Kv.extN e9)
        refine ⟨_, rfl, _, rfl, g, vw, v, wbD W, d', rfl, hvw9 g, (hd6.keep (Kv.of s68)).keep (Kv.extN e9), (fun h => by rw [hwb] at h; cases h), (fun W' e _ h Ha sa => ?_), (fun W' ws' e _ e2 h => by rw [← wb_inj e, hwf] at h; cases h)⟩
        refine ⟨true, E2.exm, fun _ b hb => ?_, fun z => nomatch z⟩
        generalize hHb : upd Ha b _ = Hb
        obtain ⟨sb, eb⟩ := freshF hb hHb
        have s9b := sa.trans sb
        refine ⟨b, _, _, true, rfl, (fun u h => h), eb, kit_self, _, rfl, ifF rfl ?_⟩
        have ewl9 : H9 wl = some (.lst xs) := e9 _ _ (s68 _ _ ewl6) (fun _ z => by cases z)
        exact ⟨_, _, _, rfl, (S9.keep s9b).mono (by omega), s9b _ _ ewl9, (fun g' => (((hxs6 g').keep (Kv.of s68)).keep (Kv.extN e9)).keep (Kv.of s9b)), (fun g' => (hvw9 g').keep (Kv.of s9b)), X9.ext s9b⟩
      · have hwt : wordsB W d' = true := by
          cases hw : wordsB W d' with
          | true => rfl
          | false =>
            rw [lm1 hw] at hk2
            cases hk2
        refine ⟨_, rfl, _, rfl, g, vw, v, wbD W, d', rfl, (hvw6 g).keep (Kv.of s7), hd6.keep (Kv.of s7), fun W' e _ H8 s8 => ?_, (fun h => by rw [hwb] at h; cases h)⟩
        obtain rfl := wb_inj e
        rw [hwt]
        refine ⟨.bl true, .bool true, rfl, .bl _, rfl, rfl, by decide, by decide +kernel, ?_⟩
        refine ⟨_, rfl, rfl, .bl true, .bool true, rfl, .bl _, rfl, rfl, by decide, by decide +kernel, rfl, _, rfl, ifF (by rw [decide_eq_true rfl]; rfl) ?_⟩
        refine ⟨_, rfl, rfl, _, rfl, ifF rfl (ifF rfl ?_)⟩
        have s68 := s7.trans s8
        exact ⟨_, _, _, rfl, (S6.keep s68).mono (by omega), s68 _ _ ewl6, (fun g' => (hxs6 g').keep (Kv.of s68)), (fun g' => (hvw6 g').keep (Kv.of s68)), X6.ext s68⟩
    · rintro σ H5 ⟨v6, v7, v8, rfl, S5, ewl5, hxs5, hvw5, X5⟩
      refine ⟨_, rfl, d, g, c, _, rfl, S5, by show (0 + 1000 + 2000 + 20 * 3) ≤ _; omega, fun p wl2 vf vl ys2 Df b H6 hDf hb S6 kp6 ep ewl2 hfr hdv hpu2 => ?_⟩
      have X6 := tabs_kp X5 S5 kp6
      have hofar := far_ok hDf hb
      have nwg2 : wl2 ≠ g := (S5.free hfr).2.1
      refine ⟨p, _, rfl, SqT.of ep, rfl, _, _, rfl, _, _, rfl, _, _, rfl, rfl, ?_⟩
      refine ⟨_, rfl, _, rfl, g, vf, .ref wl2, wbD (farW Df b), .lst (lineWs Df), rfl, (hdv g).1, .lst ewl2 nwg2 (by rw [line_len]; omega) (hdv g).2.1, (fun h => by rw [wb_ok hofar] at h; cases h), (fun W' e _ h => by rw [← wb_inj e, line_words] at h; cases h), fun W' ws' e _ e2 _ D2 ys3 H7 s7 hD2 eD2 hys3 => ?_⟩
      obtain rfl := wb_inj e
      obtain rfl : lineWs Df = ws' := Option.some.inj e2
      rw [line_last, List.range_succ, List.map_append, List.map_append] at hys3
      obtain ⟨ya, vy, rfl, hvy⟩ := DVs.snoc_inv (hys3 g)
      refine ⟨1, rfl, D2, _, -1, _, rfl, rfl, SqL.of eD2, atI_last _ _, ?_⟩
      have hvl7 := (hdv g).2.2.keep (Kv.of s7)
      have hsh2 := shaped_of (msD_pur (dblM b Df)) (by rw [msD_dep]; omega)
      refine ⟨_, rfl, _, _, dv_dp (msD_pur _) hvy, dv_dp (msD_pur _) hvl7, hsh2, hsh2, _, rfl, ?_⟩
      refine ifF (by rw [eqv_self (msD_pur _)]; rfl) ?_
      -- measures(None, None)
      have S7 := S6.keep s7
      refine ⟨X6.ext s7, fun H8 e8 X8 => ?_⟩
      refine ⟨g, .non, .non, .non, .non, rfl, .non, .non, (fun _ H9 s9 => ⟨true, E1.exm, fun _ b hb => ?_, fun z => nomatch z⟩), (fun W e => by cases e), (fun W ws e => by cases e)⟩
      generalize hHa : upd H9 b _ = Ha
      obtain ⟨sb, eb⟩ := freshF hb hHa
      have S8 := S7.extN e8
      have s8a := s9.trans sb
      refine ⟨b, _, _, true, rfl, (fun u h => h), eb, kit_self, _, rfl, iteT ?_⟩
      have kv6 : Kv g H6 Ha := (Kv.of s7).trans ((Kv.extN e8).trans (Kv.of s8a))
      have hvw8 : DV g Ha vw (wbD W) := ((hvw5 g).keep (Kv.kp S5 kp6)).keep kv6
      have ewl8 : Ha wl = some (.lst xs) := kv6.lst _ _ (kp6 _ _ ewl5 nwd nwg) nwg
      have hxs8 : DVs g Ha xs ws := ((hxs5 g).keep (Kv.kp S5 kp6)).keep kv6
      refine ⟨X8.ext s8a, fun Hb eb2 Xb => ?_⟩
      refine ⟨_, rfl, (by show 1 ≤ sizeLine; decide), fun q hq => ?_⟩
      generalize hHc : upd Hb q _ = Hc
      obtain ⟨sq, eq⟩ := freshF hq hHc
      have Sb := (S8.keep s8a).extN eb2
      have kvb : Kv g Ha Hc := (Kv.extN eb2).trans (Kv.of sq)
      refine ⟨_, rfl, g, .ref q, .ref wl, .lst [wbD W], .lst ws, rfl, .lst eq (Sb.free hq).2.1 (by show 1 ≤ 20000; decide) (.cons (hvw8.keep kvb) .nil), .lst (kvb.lst _ _ ewl8 nwg) nwg (by omega) (hxs8.keep kvb), (fun W' e => by cases e), fun _ Hd sd => ⟨true, E1.exm, fun _ b2 hb2 => ?_, fun z => nomatch z⟩⟩
      generalize hHe : upd Hd b2 _ = He
      obtain ⟨se, ee⟩ := freshF hb2 hHe
      exact ⟨b2, _, _, true, rfl, (fun u h => h), ee, kit_self, rfl⟩
end

end K66

set_option Elab.async false
set_option linter.all false
set_option pp.maxSteps 900
set_option maxRecDepth 100000
set_option maxHeartbeats 8000000
namespace K66
open PySem PySem.Spec PyProof.Rows L2
open LamX (GivesTo CodeO Tabs TabS TabB tLam pe_lamcall lamCx lamEnv lamS_by ExtN)
open TL (tl)
theorem exm_of {K : PySem.W.Frag} {S B : Addr} (h1 : PySem.W.subIn K (.ref B) (.type "BaseException") = some true) (h2 : PySem.W.isClsIn K B = true) (h3 : PySem.W.typeIn K (.ref B) = some (.type "type")) (h4 : PySem.W.subIn K (.ref S) (.ref B) = some true) :
    PySem.W.exmOne K (.ref S) (.ref B) = some true := by
  have e1 : (PySem.W.subIn K (.ref B) (.type "BaseException") == some true) = true := by rw [h1] <;> rfl
  have e2 : ((PySem.W.clsIn K B).isSome && PySem.W.typeIn K (.ref B) == some (.type "type")) = true := by
    have h2' : (PySem.W.clsIn K B).isSome = true := h2
    rw [h2', h3] <;> rfl
  show (if (PySem.W.subIn K (.ref B) (.type "BaseException") == some true) = true then (if ((PySem.W.clsIn K B).isSome && PySem.W.typeIn K (.ref B) == some (.type "type")) = true then PySem.W.subIn K (.ref S) (.ref B) else none) else none) = some true
  rw [if_pos e1, if_pos e2]
  exact h4
def valStr : Value → Option Str
  | .str s _ => some s
  | _ => none
theorem vals_of : ∀ {us : List Value} {ss : List Str}, us.map valStr = ss.map some → Vals (ss.map V.str) us
  | [], [], _ => .nil
  | [], _ :: _, h => by cases h
  | _ :: _, [], h => by cases h
  | u :: us, s :: ss, h => by
    injection h with h1 h2
    refine .cons ?_ (vals_of h2)
    cases u with
    | str x t =>
      obtain rfl := Option.some.inj h1
      exact ⟨_, rfl⟩
    | _ => cases h1
theorem all_mk {l : PySem.W.OpenLaw} {w : World} {K : PySem.W.Frag} {h : Heap} {mg : Str → Option Value} {fa CE E1 E2 cL T1 : Addr} (X : K.In h) (G : h.Ns mainGlobals mg) (hfa : mg "law" = some (.ref fa))
    {f1 : Addr} {od1 an1 : Option Addr} {sl1 : Array (Option Value)} {oc1 kV1 dc1 pm1 cd1 ct1 : Value}
    {f2 : Addr} {od2 an2 : Option Addr} {sl2 : Array (Option Value)} {oc2 kV2 dc2 pm2 cd2 ct2 : Value}
    {f3 : Addr} {od3 an3 : Option Addr} {sl3 : Array (Option Value)} {oc3 kV3 dc3 pm3 cd3 ct3 : Value}
    {f4 : Addr} {od4 an4 : Option Addr} {sl4 : Array (Option Value)} {oc4 kV4 dc4 pm4 cd4 ct4 : Value}
    {f5 : Addr} {od5 an5 : Option Addr} {sl5 : Array (Option Value)} {oc5 kV5 dc5 pm5 cd5 ct5 : Value}
    {f6 : Addr} {od6 an6 : Option Addr} {sl6 : Array (Option Value)} {oc6 kV6 dc6 pm6 cd6 ct6 : Value}
    {f7 : Addr} {od7 an7 : Option Addr} {sl7 : Array (Option Value)} {oc7 kV7 dc7 pm7 cd7 ct7 : Value}
    {f8 : Addr} {od8 an8 : Option Addr} {sl8 : Array (Option Value)} {oc8 kV8 dc8 pm8 cd8 ct8 : Value}
    {f9 : Addr} {od9 an9 : Option Addr} {sl9 : Array (Option Value)} {oc9 kV9 dc9 pm9 cd9 ct9 : Value}
    {f10 : Addr} {od10 an10 : Option Addr} {sl10 : Array (Option Value)} {oc10 kV10 dc10 pm10 cd10 ct10 : Value}
    {f11 : Addr} {od11 an11 : Option Addr} {sl11 : Array (Option Value)} {oc11 kV11 dc11 pm11 cd11 ct11 : Value}
    {f12 : Addr} {od12 an12 : Option Addr} {sl12 : Array (Option Value)} {oc12 kV12 dc12 pm12 cd12 ct12 : Value}
    {f13 : Addr} {od13 an13 : Option Addr} {sl13 : Array (Option Value)} {oc13 kV13 dc13 pm13 cd13 ct13 : Value}
    {f14 : Addr} {od14 an14 : Option Addr} {sl14 : Array (Option Value)} {oc14 kV14 dc14 pm14 cd14 ct14 : Value}
    {f15 : Addr} {od15 an15 : Option Addr} {sl15 : Array (Option Value)} {oc15 kV15 dc15 pm15 cd15 ct15 : Value}
    {f16 : Addr} {od16 an16 : Option Addr} {sl16 : Array (Option Value)} {oc16 kV16 dc16 pm16 cd16 ct16 : Value}
    {f17 : Addr} {od17 an17 : Option Addr} {sl17 : Array (Option Value)} {oc17 kV17 dc17 pm17 cd17 ct17 : Value}
    {f18 : Addr} {od18 an18 : Option Addr} {sl18 : Array (Option Value)} {oc18 kV18 dc18 pm18 cd18 ct18 : Value}
    {f19 : Addr} {od19 an19 : Option Addr} {sl19 : Array (Option Value)} {oc19 kV19 dc19 pm19 cd19 ct19 : Value}
    {f20 : Addr} {od20 an20 : Option Addr} {sl20 : Array (Option Value)} {oc20 kV20 dc20 pm20 cd20 ct20 : Value}
    {f21 : Addr} {od21 an21 : Option Addr} {sl21 : Array (Option Value)} {oc21 kV21 dc21 pm21 cd21 ct21 : Value}
    {f22 : Addr} {od22 an22 : Option Addr} {sl22 : Array (Option Value)} {oc22 kV22 dc22 pm22 cd22 ct22 : Value}
    {f23 : Addr} {od23 an23 : Option Addr} {sl23 : Array (Option Value)} {oc23 kV23 dc23 pm23 cd23 ct23 : Value}
    {f24 : Addr} {od24 an24 : Option Addr} {sl24 : Array (Option Value)} {oc24 kV24 dc24 pm24 cd24 ct24 : Value}
    {f25 : Addr} {od25 an25 : Option Addr} {sl25 : Array (Option Value)} {oc25 kV25 dc25 pm25 cd25 ct25 : Value}
    {f26 : Addr} {od26 an26 : Option Addr} {sl26 : Array (Option Value)} {oc26 kV26 dc26 pm26 cd26 ct26 : Value}
    {f27 : Addr} {od27 an27 : Option Addr} {sl27 : Array (Option Value)} {oc27 kV27 dc27 pm27 cd27 ct27 : Value}
    {f28 : Addr} {od28 an28 : Option Addr} {sl28 : Array (Option Value)} {oc28 kV28 dc28 pm28 cd28 ct28 : Value}
    {f29 : Addr} {od29 an29 : Option Addr} {sl29 : Array (Option Value)} {oc29 kV29 dc29 pm29 cd29 ct29 : Value}
    {f30 : Addr} {od30 an30 : Option Addr} {sl30 : Array (Option Value)} {oc30 kV30 dc30 pm30 cd30 ct30 : Value}
    {f31 : Addr} {od31 an31 : Option Addr} {sl31 : Array (Option Value)} {oc31 kV31 dc31 pm31 cd31 ct31 : Value}
    {f32 : Addr} {od32 an32 : Option Addr} {sl32 : Array (Option Value)} {oc32 kV32 dc32 pm32 cd32 ct32 : Value}
    {f33 : Addr} {od33 an33 : Option Addr} {sl33 : Array (Option Value)} {oc33 kV33 dc33 pm33 cd33 ct33 : Value}
    {f34 : Addr} {od34 an34 : Option Addr} {sl34 : Array (Option Value)} {oc34 kV34 dc34 pm34 cd34 ct34 : Value}
    {f35 : Addr} {od35 an35 : Option Addr} {sl35 : Array (Option Value)} {oc35 kV35 dc35 pm35 cd35 ct35 : Value}
    {f36 : Addr} {od36 an36 : Option Addr} {sl36 : Array (Option Value)} {oc36 kV36 dc36 pm36 cd36 ct36 : Value}
    {f37 : Addr} {od37 an37 : Option Addr} {sl37 : Array (Option Value)} {oc37 kV37 dc37 pm37 ct37 : Value}
    {x_MOST_BEATS : Int} {t_MOST_BEATS : PySem.Tok}
    {x_MOST_EDGE_LABELS : Int} {t_MOST_EDGE_LABELS : PySem.Tok}
    {x_MOST_LABELS : Int} {t_MOST_LABELS : PySem.Tok}
    {x_MOST_NETS : Int} {t_MOST_NETS : PySem.Tok}
    {x_MOST_PLACES : Int} {t_MOST_PLACES : PySem.Tok}
    {x_MOST_EDGES : Int} {t_MOST_EDGES : PySem.Tok}
    (a1 : PySem.W.nsIn K mainGlobals "_law_mixed" = some (some (.ref f1)))
    (l1 : K.lookup f1 = some ⟨oc1, od1, .func (PySem.W.fnOf "_law_mixed" "_law_mixed" (defArgs sMix) (defBody sMix) (defScope sMix) .none kV1 dc1 pm1 an1 cd1 ct1), sl1⟩)
    (c1 : PySem.W.codeIn K cd1 "_law_mixed" = true)
    (k1 : PySem.W.keepIn K (.ref f1) = true)
    (a2 : PySem.W.nsIn K mainGlobals "_law_draw" = some (some (.ref f2)))
    (l2 : K.lookup f2 = some ⟨oc2, od2, .func (PySem.W.fnOf "_law_draw" "_law_draw" (defArgs sDrw) (defBody sDrw) (defScope sDrw) .none kV2 dc2 pm2 an2 cd2 ct2), sl2⟩)
    (c2 : PySem.W.codeIn K cd2 "_law_draw" = true)
    (k2 : PySem.W.keepIn K (.ref f2) = true)
    (a3 : PySem.W.nsIn K mainGlobals "_law_pick" = some (some (.ref f3)))
    (l3 : K.lookup f3 = some ⟨oc3, od3, .func (PySem.W.fnOf "_law_pick" "_law_pick" (defArgs sPck) (defBody sPck) (defScope sPck) .none kV3 dc3 pm3 an3 cd3 ct3), sl3⟩)
    (c3 : PySem.W.codeIn K cd3 "_law_pick" = true)
    (k3 : PySem.W.keepIn K (.ref f3) = true)
    (a4 : PySem.W.nsIn K mainGlobals "_law_begun" = some (some (.ref f4)))
    (l4 : K.lookup f4 = some ⟨oc4, od4, .func (PySem.W.fnOf "_law_begun" "_law_begun" (defArgs sBeg) (defBody sBeg) (defScope sBeg) .none kV4 dc4 pm4 an4 cd4 ct4), sl4⟩)
    (c4 : PySem.W.codeIn K cd4 "_law_begun" = true)
    (k4 : PySem.W.keepIn K (.ref f4) = true)
    (a5 : PySem.W.nsIn K mainGlobals "is_whole" = some (some (.ref f5)))
    (l5 : K.lookup f5 = some ⟨oc5, od5, .func (PySem.W.fnOf "is_whole" "is_whole" (defArgs sWhl) (defBody sWhl) (defScope sWhl) .none kV5 dc5 pm5 an5 cd5 ct5), sl5⟩)
    (c5 : PySem.W.codeIn K cd5 "is_whole" = true)
    (k5 : PySem.W.keepIn K (.ref f5) = true)
    (a6 : PySem.W.nsIn K mainGlobals "is_within" = some (some (.ref f6)))
    (l6 : K.lookup f6 = some ⟨oc6, od6, .func (PySem.W.fnOf "is_within" "is_within" (defArgs sWin) (defBody sWin) (defScope sWin) .none kV6 dc6 pm6 an6 cd6 ct6), sl6⟩)
    (c6 : PySem.W.codeIn K cd6 "is_within" = true)
    (k6 : PySem.W.keepIn K (.ref f6) = true)
    (a7 : PySem.W.nsIn K mainGlobals "is_tuple_of" = some (some (.ref f7)))
    (l7 : K.lookup f7 = some ⟨oc7, od7, .func (PySem.W.fnOf "is_tuple_of" "is_tuple_of" (defArgs sTof) (defBody sTof) (defScope sTof) .none kV7 dc7 pm7 an7 cd7 ct7), sl7⟩)
    (c7 : PySem.W.codeIn K cd7 "is_tuple_of" = true)
    (k7 : PySem.W.keepIn K (.ref f7) = true)
    (a8 : PySem.W.nsIn K mainGlobals "is_tuple_within" = some (some (.ref f8)))
    (l8 : K.lookup f8 = some ⟨oc8, od8, .func (PySem.W.fnOf "is_tuple_within" "is_tuple_within" (defArgs sTin) (defBody sTin) (defScope sTin) .none kV8 dc8 pm8 an8 cd8 ct8), sl8⟩)
    (c8 : PySem.W.codeIn K cd8 "is_tuple_within" = true)
    (k8 : PySem.W.keepIn K (.ref f8) = true)
    (a9 : PySem.W.nsIn K mainGlobals "is_list" = some (some (.ref f9)))
    (l9 : K.lookup f9 = some ⟨oc9, od9, .func (PySem.W.fnOf "is_list" "is_list" (defArgs sLs) (defBody sLs) (defScope sLs) .none kV9 dc9 pm9 an9 cd9 ct9), sl9⟩)
    (c9 : PySem.W.codeIn K cd9 "is_list" = true)
    (k9 : PySem.W.keepIn K (.ref f9) = true)
    (a10 : PySem.W.nsIn K mainGlobals "_is_head" = some (some (.ref f10)))
    (l10 : K.lookup f10 = some ⟨oc10, od10, .func (PySem.W.fnOf "_is_head" "_is_head" (defArgs sHd) (defBody sHd) (defScope sHd) .none kV10 dc10 pm10 an10 cd10 ct10), sl10⟩)
    (c10 : PySem.W.codeIn K cd10 "_is_head" = true)
    (k10 : PySem.W.keepIn K (.ref f10) = true)
    (a11 : PySem.W.nsIn K mainGlobals "_is_edge" = some (some (.ref f11)))
    (l11 : K.lookup f11 = some ⟨oc11, od11, .func (PySem.W.fnOf "_is_edge" "_is_edge" (defArgs sEd) (defBody sEd) (defScope sEd) .none kV11 dc11 pm11 an11 cd11 ct11), sl11⟩)
    (c11 : PySem.W.codeIn K cd11 "_is_edge" = true)
    (k11 : PySem.W.keepIn K (.ref f11) = true)
    (a12 : PySem.W.nsIn K mainGlobals "is_web" = some (some (.ref f12)))
    (l12 : K.lookup f12 = some ⟨oc12, od12, .func (PySem.W.fnOf "is_web" "is_web" (defArgs sWeb) (defBody sWeb) (defScope sWeb) .none kV12 dc12 pm12 an12 cd12 ct12), sl12⟩)
    (c12 : PySem.W.codeIn K cd12 "is_web" = true)
    (k12 : PySem.W.keepIn K (.ref f12) = true)
    (a13 : PySem.W.nsIn K mainGlobals "need_web" = some (some (.ref f13)))
    (l13 : K.lookup f13 = some ⟨oc13, od13, .func (PySem.W.fnOf "need_web" "need_web" (defArgs sNeed) (defBody sNeed) (defScope sNeed) .none kV13 dc13 pm13 an13 cd13 ct13), sl13⟩)
    (c13 : PySem.W.codeIn K cd13 "need_web" = true)
    (k13 : PySem.W.keepIn K (.ref f13) = true)
    (a14 : PySem.W.nsIn K mainGlobals "place_behind" = some (some (.ref f14)))
    (l14 : K.lookup f14 = some ⟨oc14, od14, .func (PySem.W.fnOf "place_behind" "place_behind" (defArgs sPB) (defBody sPB) (defScope sPB) .none kV14 dc14 pm14 an14 cd14 ct14), sl14⟩)
    (c14 : PySem.W.codeIn K cd14 "place_behind" = true)
    (k14 : PySem.W.keepIn K (.ref f14) = true)
    (a15 : PySem.W.nsIn K mainGlobals "are_words" = some (some (.ref f15)))
    (l15 : K.lookup f15 = some ⟨oc15, od15, .func (PySem.W.fnOf "are_words" "are_words" (defArgs sAW) (defBody sAW) (defScope sAW) .none kV15 dc15 pm15 an15 cd15 ct15), sl15⟩)
    (c15 : PySem.W.codeIn K cd15 "are_words" = true)
    (k15 : PySem.W.keepIn K (.ref f15) = true)
    (a16 : PySem.W.nsIn K mainGlobals "is_words" = some (some (.ref f16)))
    (l16 : K.lookup f16 = some ⟨oc16, od16, .func (PySem.W.fnOf "is_words" "is_words" (defArgs sIW) (defBody sIW) (defScope sIW) .none kV16 dc16 pm16 an16 cd16 ct16), sl16⟩)
    (c16 : PySem.W.codeIn K cd16 "is_words" = true)
    (k16 : PySem.W.keepIn K (.ref f16) = true)
    (a17 : PySem.W.nsIn K mainGlobals "need_words" = some (some (.ref f17)))
    (l17 : K.lookup f17 = some ⟨oc17, od17, .func (PySem.W.fnOf "need_words" "need_words" (defArgs sNW) (defBody sNW) (defScope sNW) .none kV17 dc17 pm17 an17 cd17 ct17), sl17⟩)
    (c17 : PySem.W.codeIn K cd17 "need_words" = true)
    (k17 : PySem.W.keepIn K (.ref f17) = true)
    (a18 : PySem.W.nsIn K mainGlobals "steps_apart" = some (some (.ref f18)))
    (l18 : K.lookup f18 = some ⟨oc18, od18, .func (PySem.W.fnOf "steps_apart" "steps_apart" (defArgs sSA) (defBody sSA) (defScope sSA) .none kV18 dc18 pm18 an18 cd18 ct18), sl18⟩)
    (c18 : PySem.W.codeIn K cd18 "steps_apart" = true)
    (k18 : PySem.W.keepIn K (.ref f18) = true)
    (a19 : PySem.W.nsIn K mainGlobals "_law_shuffled" = some (some (.ref f19)))
    (l19 : K.lookup f19 = some ⟨oc19, od19, .func (PySem.W.fnOf "_law_shuffled" "_law_shuffled" (defArgs sShf) (defBody sShf) (defScope sShf) .none kV19 dc19 pm19 an19 cd19 ct19), sl19⟩)
    (c19 : PySem.W.codeIn K cd19 "_law_shuffled" = true)
    (k19 : PySem.W.keepIn K (.ref f19) = true)
    (a20 : PySem.W.nsIn K mainGlobals "_law_wb_edge" = some (some (.ref f20)))
    (l20 : K.lookup f20 = some ⟨oc20, od20, .func (PySem.W.fnOf "_law_wb_edge" "_law_wb_edge" (defArgs sWE) (defBody sWE) (defScope sWE) .none kV20 dc20 pm20 an20 cd20 ct20), sl20⟩)
    (c20 : PySem.W.codeIn K cd20 "_law_wb_edge" = true)
    (k20 : PySem.W.keepIn K (.ref f20) = true)
    (a21 : PySem.W.nsIn K mainGlobals "_law_wb_net" = some (some (.ref f21)))
    (l21 : K.lookup f21 = some ⟨oc21, od21, .func (PySem.W.fnOf "_law_wb_net" "_law_wb_net" (defArgs sWN) (defBody sWN) (defScope sWN) .none kV21 dc21 pm21 an21 cd21 ct21), sl21⟩)
    (c21 : PySem.W.codeIn K cd21 "_law_wb_net" = true)
    (k21 : PySem.W.keepIn K (.ref f21) = true)
    (a22 : PySem.W.nsIn K mainGlobals "_law_wb_web" = some (some (.ref f22)))
    (l22 : K.lookup f22 = some ⟨oc22, od22, .func (PySem.W.fnOf "_law_wb_web" "_law_wb_web" (defArgs sWW) (defBody sWW) (defScope sWW) .none kV22 dc22 pm22 an22 cd22 ct22), sl22⟩)
    (c22 : PySem.W.codeIn K cd22 "_law_wb_web" = true)
    (k22 : PySem.W.keepIn K (.ref f22) = true)
    (a23 : PySem.W.nsIn K mainGlobals "_law_wb_sum" = some (some (.ref f23)))
    (l23 : K.lookup f23 = some ⟨oc23, od23, .func (PySem.W.fnOf "_law_wb_sum" "_law_wb_sum" (defArgs sSum) (defBody sSum) (defScope sSum) .none kV23 dc23 pm23 an23 cd23 ct23), sl23⟩)
    (c23 : PySem.W.codeIn K cd23 "_law_wb_sum" = true)
    (k23 : PySem.W.keepIn K (.ref f23) = true)
    (a24 : PySem.W.nsIn K mainGlobals "_law_wb_own" = some (some (.ref f24)))
    (l24 : K.lookup f24 = some ⟨oc24, od24, .func (PySem.W.fnOf "_law_wb_own" "_law_wb_own" (defArgs sOwn) (defBody sOwn) (defScope sOwn) .none kV24 dc24 pm24 an24 cd24 ct24), sl24⟩)
    (c24 : PySem.W.codeIn K cd24 "_law_wb_own" = true)
    (k24 : PySem.W.keepIn K (.ref f24) = true)
    (a25 : PySem.W.nsIn K mainGlobals "_law_power" = some (some (.ref f25)))
    (l25 : K.lookup f25 = some ⟨oc25, od25, .func (PySem.W.fnOf "_law_power" "_law_power" (defArgs sPow) (defBody sPow) (defScope sPow) .none kV25 dc25 pm25 an25 cd25 ct25), sl25⟩)
    (c25 : PySem.W.codeIn K cd25 "_law_power" = true)
    (k25 : PySem.W.keepIn K (.ref f25) = true)
    (a26 : PySem.W.nsIn K mainGlobals "_law_wb_wholes" = some (some (.ref f26)))
    (l26 : K.lookup f26 = some ⟨oc26, od26, .func (PySem.W.fnOf "_law_wb_wholes" "_law_wb_wholes" (defArgs sWhs) (defBody sWhs) (defScope sWhs) .none kV26 dc26 pm26 an26 cd26 ct26), sl26⟩)
    (c26 : PySem.W.codeIn K cd26 "_law_wb_wholes" = true)
    (k26 : PySem.W.keepIn K (.ref f26) = true)
    (a27 : PySem.W.nsIn K mainGlobals "measures" = some (some (.ref f27)))
    (l27 : K.lookup f27 = some ⟨oc27, od27, .func (PySem.W.fnOf "measures" "measures" (defArgs sMs) (defBody sMs) (defScope sMs) .none kV27 dc27 pm27 an27 cd27 ct27), sl27⟩)
    (c27 : PySem.W.codeIn K cd27 "measures" = true)
    (k27 : PySem.W.keepIn K (.ref f27) = true)
    (a28 : PySem.W.nsIn K mainGlobals "_law_wb_steps" = some (some (.ref f28)))
    (l28 : K.lookup f28 = some ⟨oc28, od28, .func (PySem.W.fnOf "_law_wb_steps" "_law_wb_steps" (defArgs sLS) (defBody sLS) (defScope sLS) .none kV28 dc28 pm28 an28 cd28 ct28), sl28⟩)
    (c28 : PySem.W.codeIn K cd28 "_law_wb_steps" = true)
    (k28 : PySem.W.keepIn K (.ref f28) = true)
    (a29 : PySem.W.nsIn K mainGlobals "_law_wb_words" = some (some (.ref f29)))
    (l29 : K.lookup f29 = some ⟨oc29, od29, .func (PySem.W.fnOf "_law_wb_words" "_law_wb_words" (defArgs sLW) (defBody sLW) (defScope sLW) .none kV29 dc29 pm29 an29 cd29 ct29), sl29⟩)
    (c29 : PySem.W.codeIn K cd29 "_law_wb_words" = true)
    (k29 : PySem.W.keepIn K (.ref f29) = true)
    (a30 : PySem.W.nsIn K mainGlobals "_law_wb_roads" = some (some (.ref f30)))
    (l30 : K.lookup f30 = some ⟨oc30, od30, .func (PySem.W.fnOf "_law_wb_roads" "_law_wb_roads" (defArgs sRd) (defBody sRd) (defScope sRd) .none kV30 dc30 pm30 an30 cd30 ct30), sl30⟩)
    (c30 : PySem.W.codeIn K cd30 "_law_wb_roads" = true)
    (k30 : PySem.W.keepIn K (.ref f30) = true)
    (a31 : PySem.W.nsIn K mainGlobals "_law_good_edges" = some (some (.ref f31)))
    (l31 : K.lookup f31 = some ⟨oc31, od31, .func (PySem.W.fnOf "_law_good_edges" "_law_good_edges" (defArgs sGE) (defBody sGE) (defScope sGE) .none kV31 dc31 pm31 an31 cd31 ct31), sl31⟩)
    (c31 : PySem.W.codeIn K cd31 "_law_good_edges" = true)
    (k31 : PySem.W.keepIn K (.ref f31) = true)
    (a32 : PySem.W.nsIn K mainGlobals "_law_drawn_word" = some (some (.ref f32)))
    (l32 : K.lookup f32 = some ⟨oc32, od32, .func (PySem.W.fnOf "_law_drawn_word" "_law_drawn_word" (defArgs sDW) (defBody sDW) (defScope sDW) .none kV32 dc32 pm32 an32 cd32 ct32), sl32⟩)
    (c32 : PySem.W.codeIn K cd32 "_law_drawn_word" = true)
    (k32 : PySem.W.keepIn K (.ref f32) = true)
    (a33 : PySem.W.nsIn K mainGlobals "_law_drawn_words" = some (some (.ref f33)))
    (l33 : K.lookup f33 = some ⟨oc33, od33, .func (PySem.W.fnOf "_law_drawn_words" "_law_drawn_words" (defArgs sDWs) (defBody sDWs) (defScope sDWs) .none kV33 dc33 pm33 an33 cd33 ct33), sl33⟩)
    (c33 : PySem.W.codeIn K cd33 "_law_drawn_words" = true)
    (k33 : PySem.W.keepIn K (.ref f33) = true)
    (a34 : PySem.W.nsIn K mainGlobals "_law_doubling" = some (some (.ref f34)))
    (l34 : K.lookup f34 = some ⟨oc34, od34, .func (PySem.W.fnOf "_law_doubling" "_law_doubling" (defArgs sDb) (defBody sDb) (defScope sDb) .none kV34 dc34 pm34 an34 cd34 ct34), sl34⟩)
    (c34 : PySem.W.codeIn K cd34 "_law_doubling" = true)
    (k34 : PySem.W.keepIn K (.ref f34) = true)
    (a35 : PySem.W.nsIn K mainGlobals "_law_strange" = some (some (.ref f35)))
    (l35 : K.lookup f35 = some ⟨oc35, od35, .func (PySem.W.fnOf "_law_strange" "_law_strange" (defArgs sSt) (defBody sSt) (defScope sSt) .none kV35 dc35 pm35 an35 cd35 ct35), sl35⟩)
    (c35 : PySem.W.codeIn K cd35 "_law_strange" = true)
    (k35 : PySem.W.keepIn K (.ref f35) = true)
    (a36 : PySem.W.nsIn K mainGlobals "_law_caught" = some (some (.ref f36)))
    (l36 : K.lookup f36 = some ⟨oc36, od36, .func (PySem.W.fnOf "_law_caught" "_law_caught" (defArgs sCgt) (defBody sCgt) (defScope sCgt) .none kV36 dc36 pm36 an36 cd36 ct36), sl36⟩)
    (c36 : PySem.W.codeIn K cd36 "_law_caught" = true)
    (k36 : PySem.W.keepIn K (.ref f36) = true)
    (a37 : PySem.W.nsIn K mainGlobals "law" = some (some (.ref f37)))
    (l37 : K.lookup f37 = some ⟨oc37, od37, .func (PySem.W.fnOf "law" "law" (defArgs sLaw) (defBody sLaw) (defScope sLaw) .none kV37 dc37 pm37 an37 (.ref cL) ct37), sl37⟩)
    (c37 : PySem.W.codeIn K (.ref cL) "law" = true)
    (k37 : PySem.W.keepIn K (.ref f37) = true)
    (z_isinstance : PySem.W.nsIn K mainGlobals "isinstance" = some none)
    (z_len : PySem.W.nsIn K mainGlobals "len" = some none)
    (z_str : PySem.W.nsIn K mainGlobals "str" = some none)
    (z_int : PySem.W.nsIn K mainGlobals "int" = some none)
    (z_bool : PySem.W.nsIn K mainGlobals "bool" = some none)
    (z_tuple : PySem.W.nsIn K mainGlobals "tuple" = some none)
    (z_list : PySem.W.nsIn K mainGlobals "list" = some none)
    (z_all : PySem.W.nsIn K mainGlobals "all" = some none)
    (z_range : PySem.W.nsIn K mainGlobals "range" = some none)
    (z_min : PySem.W.nsIn K mainGlobals "min" = some none)
    (z_zip : PySem.W.nsIn K mainGlobals "zip" = some none)
    (z_enumerate : PySem.W.nsIn K mainGlobals "enumerate" = some none)
    (z_abs : PySem.W.nsIn K mainGlobals "abs" = some none)
    (z_sum : PySem.W.nsIn K mainGlobals "sum" = some none)
    (z_repr : PySem.W.nsIn K mainGlobals "repr" = some none)
    (v_MOST_BEATS : PySem.W.nsIn K mainGlobals "MOST_BEATS" = some (some (.int x_MOST_BEATS t_MOST_BEATS)))
    (e_MOST_BEATS : x_MOST_BEATS = 1000000000)
    (v_MOST_EDGE_LABELS : PySem.W.nsIn K mainGlobals "MOST_EDGE_LABELS" = some (some (.int x_MOST_EDGE_LABELS t_MOST_EDGE_LABELS)))
    (e_MOST_EDGE_LABELS : x_MOST_EDGE_LABELS = 8)
    (v_MOST_LABELS : PySem.W.nsIn K mainGlobals "MOST_LABELS" = some (some (.int x_MOST_LABELS t_MOST_LABELS)))
    (e_MOST_LABELS : x_MOST_LABELS = 4000)
    (v_MOST_NETS : PySem.W.nsIn K mainGlobals "MOST_NETS" = some (some (.int x_MOST_NETS t_MOST_NETS)))
    (e_MOST_NETS : x_MOST_NETS = 400)
    (v_MOST_PLACES : PySem.W.nsIn K mainGlobals "MOST_PLACES" = some (some (.int x_MOST_PLACES t_MOST_PLACES)))
    (e_MOST_PLACES : x_MOST_PLACES = 4000)
    (v_MOST_EDGES : PySem.W.nsIn K mainGlobals "MOST_EDGES" = some (some (.int x_MOST_EDGES t_MOST_EDGES)))
    (e_MOST_EDGES : x_MOST_EDGES = 8000)
    (aCE : PySem.W.nsIn K mainGlobals "ClockError" = some (some (.ref CE)))
    (sE : PySem.W.subIn K (.ref CE) (.type "BaseException") = some true)
    (iE : PySem.W.isClsIn K CE = true)
    (tE : PySem.W.typeIn K (.ref CE) = some (.type "type"))
    (spO : PySem.W.specialIn K (.builtin "object.__class__") "__get__" = some (some (.builtin "getset_descriptor.__get__")))
    (tkO : PySem.W.takesIn K (.builtin "object.__class__") = some true)
    (aE1 : PySem.W.nsIn K mainGlobals "BadWeb" = some (some (.ref E1)))
    (kE1 : PySem.W.keepIn K (.ref E1) = true)
    (xE1 : PySem.W.excIn K E1 [.type "ValueError", .type "Exception", .type "BaseException", .type "object"] "ValueError.__new__" = true)
    (sBE1 : PySem.W.subIn K (.ref E1) (.type "BaseException") = some true)
    (tE1 : PySem.W.typeIn K (.ref E1) = some (.type "type"))
    (sEE1 : PySem.W.subIn K (.ref E1) (.ref CE) = some true)
    (gE1 : PySem.W.findIn K (.ref E1) "__getattribute__" = some (some (.builtin "BaseException.__getattribute__")))
    (ggE1 : PySem.W.findIn K (.ref E1) "__getattr__" = some none)
    (hdE1 : PySem.W.hasDictIn K E1 = true)
    (clE1 : PySem.W.findIn K (.ref E1) "__class__" = some (some (.builtin "object.__class__")))
    (mrE1 : PySem.W.mroIn K E1 (.type "object") = some true)
    (aE2 : PySem.W.nsIn K mainGlobals "BadWords" = some (some (.ref E2)))
    (kE2 : PySem.W.keepIn K (.ref E2) = true)
    (xE2 : PySem.W.excIn K E2 [.type "ValueError", .type "Exception", .type "BaseException", .type "object"] "ValueError.__new__" = true)
    (sBE2 : PySem.W.subIn K (.ref E2) (.type "BaseException") = some true)
    (tE2 : PySem.W.typeIn K (.ref E2) = some (.type "type"))
    (sEE2 : PySem.W.subIn K (.ref E2) (.ref CE) = some true)
    (gE2 : PySem.W.findIn K (.ref E2) "__getattribute__" = some (some (.builtin "BaseException.__getattribute__")))
    (ggE2 : PySem.W.findIn K (.ref E2) "__getattr__" = some none)
    (hdE2 : PySem.W.hasDictIn K E2 = true)
    (clE2 : PySem.W.findIn K (.ref E2) "__class__" = some (some (.builtin "object.__class__")))
    (mrE2 : PySem.W.mroIn K E2 (.type "object") = some true)
    (hdrT1 : PySem.W.codeHdIn K cL T1 = true)
    (npT1 : K.lookup T1 = none)
    (hTT1 : h.get? T1 = some { cls := .none, data := .fields #[] })
    : GD.LawG l w K 63 mg fa h := by
  have e := hfa.symm.trans (PySem.W.mg_of X G a37)
  cases e
  subst e_MOST_BEATS e_MOST_EDGE_LABELS e_MOST_LABELS e_MOST_NETS e_MOST_PLACES e_MOST_EDGES
  have F1 := fun_mk (st := sMix) l1 c1 k1
  have b1 := F1.binds (ps := ["state"]) fun _ _ _ _ _ _ us hl => match us, hl with | [_], _ => rfl
  have F2 := fun_mk (st := sDrw) l2 c2 k2
  have b2 := F2.binds (ps := ["state", "room"]) fun _ _ _ _ _ _ us hl => match us, hl with | [_, _], _ => rfl
  have F3 := fun_mk (st := sPck) l3 c3 k3
  have b3 := F3.binds (ps := ["state", "some"]) fun _ _ _ _ _ _ us hl => match us, hl with | [_, _], _ => rfl
  have F4 := fun_mk (st := sBeg) l4 c4 k4
  have b4 := F4.binds (ps := ["script"]) fun _ _ _ _ _ _ us hl => match us, hl with | [_], _ => rfl
  have F5 := fun_mk (st := sWhl) l5 c5 k5
  have b5 := F5.binds (ps := ["value"]) fun _ _ _ _ _ _ us hl => match us, hl with | [_], _ => rfl
  have F6 := fun_mk (st := sWin) l6 c6 k6
  have b6 := F6.binds (ps := ["value", "low", "high"]) fun _ _ _ _ _ _ us hl => match us, hl with | [_, _, _], _ => rfl
  have F7 := fun_mk (st := sTof) l7 c7 k7
  have b7 := F7.binds (ps := ["value", "many"]) fun _ _ _ _ _ _ us hl => match us, hl with | [_, _], _ => rfl
  have F8 := fun_mk (st := sTin) l8 c8 k8
  have b8 := F8.binds (ps := ["value", "low", "high"]) fun _ _ _ _ _ _ us hl => match us, hl with | [_, _, _], _ => rfl
  have F9 := fun_mk (st := sLs) l9 c9 k9
  have b9 := F9.binds (ps := ["value"]) fun _ _ _ _ _ _ us hl => match us, hl with | [_], _ => rfl
  have F10 := fun_mk (st := sHd) l10 c10 k10
  have b10 := F10.binds (ps := ["value"]) fun _ _ _ _ _ _ us hl => match us, hl with | [_], _ => rfl
  have F11 := fun_mk (st := sEd) l11 c11 k11
  have b11 := F11.binds (ps := ["value", "places", "nets", "labels"]) fun _ _ _ _ _ _ us hl => match us, hl with | [_, _, _, _], _ => rfl
  have F12 := fun_mk (st := sWeb) l12 c12 k12
  have b12 := F12.binds (ps := ["value"]) fun _ _ _ _ _ _ us hl => match us, hl with | [_], _ => rfl
  have F13 := fun_mk (st := sNeed) l13 c13 k13
  have b13 := F13.binds (ps := ["web"]) fun _ _ _ _ _ _ us hl => match us, hl with | [_], _ => rfl
  have F14 := fun_mk (st := sPB) l14 c14 k14
  have b14 := F14.binds (ps := ["web", "words", "known", "word", "place"]) fun _ _ _ _ _ _ us hl => match us, hl with | [_, _, _, _, _], _ => rfl
  have F15 := fun_mk (st := sAW) l15 c15 k15
  have b15 := F15.binds (ps := ["web", "words"]) fun _ _ _ _ _ _ us hl => match us, hl with | [_, _], _ => rfl
  have F16 := fun_mk (st := sIW) l16 c16 k16
  have b16 := F16.binds (ps := ["web", "words"]) fun _ _ _ _ _ _ us hl => match us, hl with | [_, _], _ => rfl
  have F17 := fun_mk (st := sNW) l17 c17 k17
  have b17 := F17.binds (ps := ["web", "words"]) fun _ _ _ _ _ _ us hl => match us, hl with | [_, _], _ => rfl
  have F18 := fun_mk (st := sSA) l18 c18 k18
  have b18 := F18.binds (ps := ["steps"]) fun _ _ _ _ _ _ us hl => match us, hl with | [_], _ => rfl
  have F19 := fun_mk (st := sShf) l19 c19 k19
  have b19 := F19.binds (ps := ["state", "some"]) fun _ _ _ _ _ _ us hl => match us, hl with | [_, _], _ => rfl
  have F20 := fun_mk (st := sWE) l20 c20 k20
  have b20 := F20.binds (ps := ["state", "here", "to", "calls", "labels", "low"]) fun _ _ _ _ _ _ us hl => match us, hl with | [_, _, _, _, _, _], _ => rfl
  have F21 := fun_mk (st := sWN) l21 c21 k21
  have b21 := F21.binds (ps := ["state", "at", "many", "labels", "low"]) fun _ _ _ _ _ _ us hl => match us, hl with | [_, _, _, _, _], _ => rfl
  have F22 := fun_mk (st := sWW) l22 c22 k22
  have b22 := F22.binds (ps := ["state", "low"]) fun _ _ _ _ _ _ us hl => match us, hl with | [_, _], _ => rfl
  have F23 := fun_mk (st := sSum) l23 c23 k23
  have b23 := F23.binds (ps := ["one", "other", "times"]) fun _ _ _ _ _ _ us hl => match us, hl with | [_, _, _], _ => rfl
  have F24 := fun_mk (st := sOwn) l24 c24 k24
  have b24 := F24.binds (ps := ["web", "edge"]) fun _ _ _ _ _ _ us hl => match us, hl with | [_, _], _ => rfl
  have F25 := fun_mk (st := sPow) l25 c25 k25
  have b25 := F25.binds (ps := ["deep"]) fun _ _ _ _ _ _ us hl => match us, hl with | [_], _ => rfl
  have F26 := fun_mk (st := sWhs) l26 c26 k26
  have b26 := F26.binds (ps := ["value"]) fun _ _ _ _ _ _ us hl => match us, hl with | [_], _ => rfl
  have F27 := fun_mk (st := sMs) l27 c27 k27
  have b27 := F27.binds (ps := ["web", "words"]) fun _ _ _ _ _ _ us hl => match us, hl with | [_, _], _ => rfl
  have F28 := fun_mk (st := sLS) l28 c28 k28
  have b28 := F28.binds (ps := ["web", "at", "steps", "here", "known"]) fun _ _ _ _ _ _ us hl => match us, hl with | [_, _, _, _, _], _ => rfl
  have F29 := fun_mk (st := sLW) l29 c29 k29
  have b29 := F29.binds (ps := ["web", "words"]) fun _ _ _ _ _ _ us hl => match us, hl with | [_, _], _ => rfl
  have F30 := fun_mk (st := sRd) l30 c30 k30
  have b30 := F30.binds (ps := ["web"]) fun _ _ _ _ _ _ us hl => match us, hl with | [_], _ => rfl
  have F31 := fun_mk (st := sGE) l31 c31 k31
  have b31 := F31.binds (ps := ["web", "roads", "at", "here"]) fun _ _ _ _ _ _ us hl => match us, hl with | [_, _, _, _], _ => rfl
  have F32 := fun_mk (st := sDW) l32 c32 k32
  have b32 := F32.binds (ps := ["state", "web", "roads", "at", "words"]) fun _ _ _ _ _ _ us hl => match us, hl with | [_, _, _, _, _], _ => rfl
  have F33 := fun_mk (st := sDWs) l33 c33 k33
  have b33 := F33.binds (ps := ["state", "web", "roads"]) fun _ _ _ _ _ _ us hl => match us, hl with | [_, _, _], _ => rfl
  have F34 := fun_mk (st := sDb) l34 c34 k34
  have b34 := F34.binds (ps := ["state"]) fun _ _ _ _ _ _ us hl => match us, hl with | [_], _ => rfl
  have F35 := fun_mk (st := sSt) l35 c35 k35
  have b35 := F35.binds (ps := ["state", "words"]) fun _ _ _ _ _ _ us hl => match us, hl with | [_, _], _ => rfl
  have F36 := fun_mk (st := sCgt) l36 c36 k36
  have b36 := F36.binds (ps := ["action"]) fun _ _ _ _ _ _ us hl => match us, hl with | [_], _ => rfl
  have F37 := fun_mk (st := sLaw) l37 c37 k37
  have b37 := F37.binds (ps := ["script"]) fun _ _ _ _ _ _ us hl => match us, hl with | [_], _ => rfl
  have g_MOST_BEATS : ∃ t, mg "MOST_BEATS" = some (.int (1000000000 : Int) t) := ⟨_, PySem.W.mg_of X G v_MOST_BEATS⟩
  have g_MOST_EDGE_LABELS : ∃ t, mg "MOST_EDGE_LABELS" = some (.int (8 : Int) t) := ⟨_, PySem.W.mg_of X G v_MOST_EDGE_LABELS⟩
  have g_MOST_LABELS : ∃ t, mg "MOST_LABELS" = some (.int (4000 : Int) t) := ⟨_, PySem.W.mg_of X G v_MOST_LABELS⟩
  have g_MOST_NETS : ∃ t, mg "MOST_NETS" = some (.int (400 : Int) t) := ⟨_, PySem.W.mg_of X G v_MOST_NETS⟩
  have g_MOST_PLACES : ∃ t, mg "MOST_PLACES" = some (.int (4000 : Int) t) := ⟨_, PySem.W.mg_of X G v_MOST_PLACES⟩
  have g_MOST_EDGES : ∃ t, mg "MOST_EDGES" = some (.int (8000 : Int) t) := ⟨_, PySem.W.mg_of X G v_MOST_EDGES⟩
  have TP : MgP K mg f5 := ⟨(PySem.W.mg_of X G a5), k5, (PySem.W.mg_none_of X G z_isinstance), (PySem.W.mg_none_of X G z_len), (PySem.W.mg_none_of X G z_int), (PySem.W.mg_none_of X G z_bool), (PySem.W.mg_none_of X G z_tuple)⟩
  have B : Bn mg := ⟨(PySem.W.mg_none_of X G z_isinstance), (PySem.W.mg_none_of X G z_len), (PySem.W.mg_none_of X G z_str), (PySem.W.mg_none_of X G z_int), (PySem.W.mg_none_of X G z_bool), (PySem.W.mg_none_of X G z_tuple), (PySem.W.mg_none_of X G z_list), (PySem.W.mg_none_of X G z_all), (PySem.W.mg_none_of X G z_range), (PySem.W.mg_none_of X G z_min), (PySem.W.mg_none_of X G z_zip), (PySem.W.mg_none_of X G z_enumerate)⟩
  have TS : MgS K mg f1 f2 := ⟨(PySem.W.mg_none_of X G z_int), (PySem.W.mg_none_of X G z_len), (PySem.W.mg_of X G a1), k1, (PySem.W.mg_of X G a2), k2⟩
  have R_BadWeb : Er K mg "BadWeb" E1 := ⟨PySem.W.mg_of X G aE1, xE1, kE1, sBE1, tE1⟩
  have K_BadWeb : Ek K mg "BadWeb" CE E1 := ⟨PySem.W.mg_of X G aE1, exm_of sE iE tE sEE1, ⟨gE1, ggE1, sBE1, hdE1, clE1, spO, tkO, mrE1⟩⟩
  have R_BadWords : Er K mg "BadWords" E2 := ⟨PySem.W.mg_of X G aE2, xE2, kE2, sBE2, tE2⟩
  have K_BadWords : Ek K mg "BadWords" CE E2 := ⟨PySem.W.mg_of X G aE2, exm_of sE iE tE sEE2, ⟨gE2, ggE2, sBE2, hdE2, clE2, spO, tkO, mrE2⟩⟩
  have TC : MgC mg K CE f36 := ⟨(PySem.W.mg_of X G a36), k36, PySem.W.mg_of X G aCE⟩
  refine ⟨[(cL, T1)], fun p hp => ?_, fun p hp => ?_, fun p hp => ?_, fun s a ns hl _ base H hTB e0 hT hS => ?_⟩
  · rw [List.mem_singleton.mp hp]
    exact hTT1
  · rw [List.mem_singleton.mp hp]
    exact npT1
  · rw [List.mem_singleton.mp hp]
    exact PySem.W.codeHd_of_K X hdrT1
  · have G__law_mixed := ok_mix (P := l.prog) (w := w) (base := base) F1 TS
    have G__law_draw := ok_drw (P := l.prog) (w := w) (base := base) F2 TS F1 b1
    have G__law_pick := ok_pck (P := l.prog) (w := w) (base := base) F3 TS F1 b1 F2 b2
    have G__law_begun := ok_beg (P := l.prog) (w := w) (base := base) F4 (PySem.W.mg_none_of X G z_abs)
    have G_is_whole := ok_whl (P := l.prog) (w := w) (base := base) F5 TP
    have G_is_within := ok_win (P := l.prog) (w := w) (base := base) F6 TP F5 b5
    have G_is_tuple_of := ok_tof (P := l.prog) (w := w) (base := base) F7 TP
    have G_is_tuple_within := ok_tin (P := l.prog) (w := w) (base := base) F8 TP
    have G_is_list := ok_ls (P := l.prog) (w := w) (base := base) F9 B
    have G__is_head := ok_hd (P := l.prog) (w := w) (base := base) F10 B ⟨f7, _, G_is_tuple_of, (PySem.W.mg_of X G a7), k7, b7⟩ ⟨f5, _, G_is_whole, (PySem.W.mg_of X G a5), k5, b5⟩
    have G__is_edge := ok_ed (P := l.prog) (w := w) (base := base) F11 B ⟨f7, _, G_is_tuple_of, (PySem.W.mg_of X G a7), k7, b7⟩ ⟨f8, _, G_is_tuple_within, (PySem.W.mg_of X G a8), k8, b8⟩ ⟨f6, _, G_is_within, (PySem.W.mg_of X G a6), k6, b6⟩ g_MOST_BEATS g_MOST_EDGE_LABELS
    have G_is_web := ok_web (P := l.prog) (w := w) (base := base) F12 B (PySem.W.mg_none_of X G z_sum) ⟨f7, _, G_is_tuple_of, (PySem.W.mg_of X G a7), k7, b7⟩ ⟨f8, _, G_is_tuple_within, (PySem.W.mg_of X G a8), k8, b8⟩ ⟨f6, _, G_is_within, (PySem.W.mg_of X G a6), k6, b6⟩ ⟨f10, _, G__is_head, (PySem.W.mg_of X G a10), k10, b10⟩ ⟨f11, _, G__is_edge, (PySem.W.mg_of X G a11), k11, b11⟩ g_MOST_LABELS g_MOST_NETS g_MOST_PLACES g_MOST_EDGES
    have G_need_web := ok_need (P := l.prog) (w := w) (base := base) F13 R_BadWeb ⟨f12, _, G_is_web, (PySem.W.mg_of X G a12), k12, b12⟩
    have G_place_behind := ok_pb (P := l.prog) (w := w) (base := base) F14 B ⟨f7, _, G_is_tuple_of, (PySem.W.mg_of X G a7), k7, b7⟩ ⟨f6, _, G_is_within, (PySem.W.mg_of X G a6), k6, b6⟩
    have G_are_words := ok_aw (P := l.prog) (w := w) (base := base) F15 B ⟨f9, _, G_is_list, (PySem.W.mg_of X G a9), k9, b9⟩ ⟨f7, _, G_is_tuple_of, (PySem.W.mg_of X G a7), k7, b7⟩ ⟨f6, _, G_is_within, (PySem.W.mg_of X G a6), k6, b6⟩ ⟨f14, _, G_place_behind, (PySem.W.mg_of X G a14), k14, b14⟩
    have G_is_words := ok_iw (P := l.prog) (w := w) (base := base) F16 ⟨f13, _, G_need_web, (PySem.W.mg_of X G a13), k13, b13⟩ ⟨f15, _, G_are_words, (PySem.W.mg_of X G a15), k15, b15⟩
    have G_need_words := ok_nwd (P := l.prog) (w := w) (base := base) F17 R_BadWords ⟨f15, _, G_are_words, (PySem.W.mg_of X G a15), k15, b15⟩
    have G_steps_apart := ok_sa (P := l.prog) (w := w) (base := base) F18 B
    have G__law_shuffled := ok_shf (P := l.prog) (w := w) (base := base) F19 B ⟨f2, _, G__law_draw, (PySem.W.mg_of X G a2), k2, b2⟩
    have G__law_wb_edge := ok_we (P := l.prog) (w := w) (base := base) F20 B ⟨f2, _, G__law_draw, (PySem.W.mg_of X G a2), k2, b2⟩ ⟨f3, _, G__law_pick, (PySem.W.mg_of X G a3), k3, b3⟩
    have G__law_wb_net := ok_wn (P := l.prog) (w := w) (base := base) F21 B ⟨f2, _, G__law_draw, (PySem.W.mg_of X G a2), k2, b2⟩ ⟨f3, _, G__law_pick, (PySem.W.mg_of X G a3), k3, b3⟩ ⟨f20, _, G__law_wb_edge, (PySem.W.mg_of X G a20), k20, b20⟩ ⟨f19, _, G__law_shuffled, (PySem.W.mg_of X G a19), k19, b19⟩
    have G__law_wb_web := ok_ww (P := l.prog) (w := w) (base := base) F22 B ⟨f3, _, G__law_pick, (PySem.W.mg_of X G a3), k3, b3⟩ ⟨f21, _, G__law_wb_net, (PySem.W.mg_of X G a21), k21, b21⟩
    have G__law_wb_sum := ok_sum (P := l.prog) (w := w) (base := base) F23 B
    have G__law_wb_own := ok_own (P := l.prog) (w := w) (base := base) F24 B
    have G__law_power := ok_pow (P := l.prog) (w := w) (base := base) F25 B
    have G__law_wb_wholes := ok_whs (P := l.prog) (w := w) (base := base) F26 B
    have G_measures := ok_ms (P := l.prog) (w := w) (base := base) F27 B ⟨f13, _, G_need_web, (PySem.W.mg_of X G a13), k13, b13⟩ ⟨f17, _, G_need_words, (PySem.W.mg_of X G a17), k17, b17⟩ ⟨f18, _, G_steps_apart, (PySem.W.mg_of X G a18), k18, b18⟩
    have G__law_wb_steps := ok_lst (P := l.prog) (w := w) (base := base) F28 B ⟨f26, _, G__law_wb_wholes, (PySem.W.mg_of X G a26), k26, b26⟩ ⟨f23, _, G__law_wb_sum, (PySem.W.mg_of X G a23), k23, b23⟩ ⟨f24, _, G__law_wb_own, (PySem.W.mg_of X G a24), k24, b24⟩
    have G__law_wb_words := ok_lw (P := l.prog) (w := w) (base := base) F29 B ⟨f26, _, G__law_wb_wholes, (PySem.W.mg_of X G a26), k26, b26⟩ ⟨f28, _, G__law_wb_steps, (PySem.W.mg_of X G a28), k28, b28⟩
    have G__law_wb_roads := ok_rd (P := l.prog) (w := w) (base := base) F30 B ⟨f23, _, G__law_wb_sum, (PySem.W.mg_of X G a23), k23, b23⟩ ⟨f24, _, G__law_wb_own, (PySem.W.mg_of X G a24), k24, b24⟩
    have G__law_good_edges := ok_ge (P := l.prog) (w := w) (base := base) F31 B
    have G__law_drawn_word := ok_dw (P := l.prog) (w := w) (base := base) F32 B ⟨f3, _, G__law_pick, (PySem.W.mg_of X G a3), k3, b3⟩ ⟨f31, _, G__law_good_edges, (PySem.W.mg_of X G a31), k31, b31⟩
    have G__law_drawn_words := ok_dws (P := l.prog) (w := w) (base := base) F33 B ⟨f2, _, G__law_draw, (PySem.W.mg_of X G a2), k2, b2⟩ ⟨f32, _, G__law_drawn_word, (PySem.W.mg_of X G a32), k32, b32⟩
    have G__law_doubling := ok_db (P := l.prog) (w := w) (base := base) F34 B ⟨f2, _, G__law_draw, (PySem.W.mg_of X G a2), k2, b2⟩ ⟨f25, _, G__law_power, (PySem.W.mg_of X G a25), k25, b25⟩
    have G__law_strange := ok_st (P := l.prog) (w := w) (base := base) F35 B ⟨f2, _, G__law_draw, (PySem.W.mg_of X G a2), k2, b2⟩ ⟨f3, _, G__law_pick, (PySem.W.mg_of X G a3), k3, b3⟩ ⟨f26, _, G__law_wb_wholes, (PySem.W.mg_of X G a26), k26, b26⟩
    have kb_measures : KBinds K (PySem.W.fnOf "measures" "measures" (defArgs sMs) (defBody sMs) (defScope sMs) .none kV27 dc27 pm27 an27 cd27 ct27) ["web", "words"] ["words", "web"] kwX kwX :=
      ⟨fun s us ws _ hl => match us, ws, hl with | [], [_, _], _ => .of_eq rfl, fun r1 r2 => kwX_rel r1 r2⟩
    exact law_run l37 c37 l36 c36 (Binds.all fun us hl => match us, hl with | [_], _ => rfl) B (PySem.W.mg_none_of X G z_repr) TC K_BadWeb K_BadWords (hTB _ (List.mem_cons_self ..)) ⟨f4, _, G__law_begun, (PySem.W.mg_of X G a4), k4, b4⟩ ⟨f22, _, G__law_wb_web, (PySem.W.mg_of X G a22), k22, b22⟩ ⟨f30, _, G__law_wb_roads, (PySem.W.mg_of X G a30), k30, b30⟩ ⟨f33, _, G__law_drawn_words, (PySem.W.mg_of X G a33), k33, b33⟩ ⟨f29, _, G__law_wb_words, (PySem.W.mg_of X G a29), k29, b29⟩ G_measures (PySem.W.mg_of X G a27) k27 b27 kb_measures ⟨f16, _, G_is_words, (PySem.W.mg_of X G a16), k16, b16⟩ ⟨f35, _, G__law_strange, (PySem.W.mg_of X G a35), k35, b35⟩ ⟨f34, _, G__law_doubling, (PySem.W.mg_of X G a34), k34, b34⟩ e0 (hT _ (List.mem_cons_self ..)) hS hl
end K66

open PySem PySem.W PyProof.Rows
set_option Elab.async false
set_option pp.maxSteps 700
set_option maxRecDepth 100000 in
set_option maxHeartbeats 0 in
theorem PySem.Challenge.cw_labelclocks_k66_words_and_their_measures_holds : PySem.Challenge.rw_labelclocks_k66_words_and_their_measures.Holds := by
  w_on; o_law; k_head; (case hw => w_witness2)
  k_fill
  refine GD.walk_G (l := PySem.Challenge.rw_labelclocks_k66_words_and_their_measures) (n := 63) rfl (by decide) rfl (fun w h Y => PySem.W.km_in_of Y) ?F
  case F =>
    intro w mg fa h Y KX G hmg
    have hT8 := PySem.W.km_tabs_of Y
    refine' K66.all_mk KX G hmg ?a1 ?l1 ?c1 ?k1 ?a2 ?l2 ?c2 ?k2 ?a3 ?l3 ?c3 ?k3 ?a4 ?l4 ?c4 ?k4 ?a5 ?l5 ?c5 ?k5 ?a6 ?l6 ?c6 ?k6 ?a7 ?l7 ?c7 ?k7 ?a8 ?l8 ?c8 ?k8 ?a9 ?l9 ?c9 ?k9 ?a10 ?l10 ?c10 ?k10 ?a11 ?l11 ?c11 ?k11 ?a12 ?l12 ?c12 ?k12 ?a13 ?l13 ?c13 ?k13 ?a14 ?l14 ?c14 ?k14 ?a15 ?l15 ?c15 ?k15 ?a16 ?l16 ?c16 ?k16 ?a17 ?l17 ?c17 ?k17 ?a18 ?l18 ?c18 ?k18 ?a19 ?l19 ?c19 ?k19 ?a20 ?l20 ?c20 ?k20 ?a21 ?l21 ?c21 ?k21 ?a22 ?l22 ?c22 ?k22 ?a23 ?l23 ?c23 ?k23 ?a24 ?l24 ?c24 ?k24 ?a25 ?l25 ?c25 ?k25 ?a26 ?l26 ?c26 ?k26 ?a27 ?l27 ?c27 ?k27 ?a28 ?l28 ?c28 ?k28 ?a29 ?l29 ?c29 ?k29 ?a30 ?l30 ?c30 ?k30 ?a31 ?l31 ?c31 ?k31 ?a32 ?l32 ?c32 ?k32 ?a33 ?l33 ?c33 ?k33 ?a34 ?l34 ?c34 ?k34 ?a35 ?l35 ?c35 ?k35 ?a36 ?l36 ?c36 ?k36 ?a37 ?l37 ?c37 ?k37 ?z_isinstance ?z_len ?z_str ?z_int ?z_bool ?z_tuple ?z_list ?z_all ?z_range ?z_min ?z_zip ?z_enumerate ?z_abs ?z_sum ?z_repr ?v_MOST_BEATS ?e_MOST_BEATS ?v_MOST_EDGE_LABELS ?e_MOST_EDGE_LABELS ?v_MOST_LABELS ?e_MOST_LABELS ?v_MOST_NETS ?e_MOST_NETS ?v_MOST_PLACES ?e_MOST_PLACES ?v_MOST_EDGES ?e_MOST_EDGES ?aCE ?sE ?iE ?tE ?spO ?tkO ?aE1 ?kE1 ?xE1 ?sBE1 ?tE1 ?sEE1 ?gE1 ?ggE1 ?hdE1 ?clE1 ?mrE1 ?aE2 ?kE2 ?xE2 ?sBE2 ?tE2 ?sEE2 ?gE2 ?ggE2 ?hdE2 ?clE2 ?mrE2 ?hdrT1 ?npT1 ?hTT1
    (case aCE => k_is)
    (case aE1 => k_is)
    (case aE2 => k_is)
    (case a1 => k_is)
    (case l1 => k_is)
    (case c1 => k_is)
    (case k1 => k_is)
    (case a2 => k_is)
    (case l2 => k_is)
    (case c2 => k_is)
    (case k2 => k_is)
    (case a3 => k_is)
    (case l3 => k_is)
    (case c3 => k_is)
    (case k3 => k_is)
    (case a4 => k_is)
    (case l4 => k_is)
    (case c4 => k_is)
    (case k4 => k_is)
    (case a5 => k_is)
    (case l5 => k_is)
    (case c5 => k_is)
    (case k5 => k_is)
    (case a6 => k_is)
    (case l6 => k_is)
    (case c6 => k_is)
    (case k6 => k_is)
    (case a7 => k_is)
    (case l7 => k_is)
    (case c7 => k_is)
    (case k7 => k_is)
    (case a8 => k_is)
    (case l8 => k_is)
    (case c8 => k_is)
    (case k8 => k_is)
    (case a9 => k_is)
    (case l9 => k_is)
    (case c9 => k_is)
    (case k9 => k_is)
    (case a10 => k_is)
    (case l10 => k_is)
    (case c10 => k_is)
    (case k10 => k_is)
    (case a11 => k_is)
    (case l11 => k_is)
    (case c11 => k_is)
    (case k11 => k_is)
    (case a12 => k_is)
    (case l12 => k_is)
    (case c12 => k_is)
    (case k12 => k_is)
    (case a13 => k_is)
    (case l13 => k_is)
    (case c13 => k_is)
    (case k13 => k_is)
    (case a14 => k_is)
    (case l14 => k_is)
    (case c14 => k_is)
    (case k14 => k_is)
    (case a15 => k_is)
    (case l15 => k_is)
    (case c15 => k_is)
    (case k15 => k_is)
    (case a16 => k_is)
    (case l16 => k_is)
    (case c16 => k_is)
    (case k16 => k_is)
    (case a17 => k_is)
    (case l17 => k_is)
    (case c17 => k_is)
    (case k17 => k_is)
    (case a18 => k_is)
    (case l18 => k_is)
    (case c18 => k_is)
    (case k18 => k_is)
    (case a19 => k_is)
    (case l19 => k_is)
    (case c19 => k_is)
    (case k19 => k_is)
    (case a20 => k_is)
    (case l20 => k_is)
    (case c20 => k_is)
    (case k20 => k_is)
    (case a21 => k_is)
    (case l21 => k_is)
    (case c21 => k_is)
    (case k21 => k_is)
    (case a22 => k_is)
    (case l22 => k_is)
    (case c22 => k_is)
    (case k22 => k_is)
    (case a23 => k_is)
    (case l23 => k_is)
    (case c23 => k_is)
    (case k23 => k_is)
    (case a24 => k_is)
    (case l24 => k_is)
    (case c24 => k_is)
    (case k24 => k_is)
    (case a25 => k_is)
    (case l25 => k_is)
    (case c25 => k_is)
    (case k25 => k_is)
    (case a26 => k_is)
    (case l26 => k_is)
    (case c26 => k_is)
    (case k26 => k_is)
    (case a27 => k_is)
    (case l27 => k_is)
    (case c27 => k_is)
    (case k27 => k_is)
    (case a28 => k_is)
    (case l28 => k_is)
    (case c28 => k_is)
    (case k28 => k_is)
    (case a29 => k_is)
    (case l29 => k_is)
    (case c29 => k_is)
    (case k29 => k_is)
    (case a30 => k_is)
    (case l30 => k_is)
    (case c30 => k_is)
    (case k30 => k_is)
    (case a31 => k_is)
    (case l31 => k_is)
    (case c31 => k_is)
    (case k31 => k_is)
    (case a32 => k_is)
    (case l32 => k_is)
    (case c32 => k_is)
    (case k32 => k_is)
    (case a33 => k_is)
    (case l33 => k_is)
    (case c33 => k_is)
    (case k33 => k_is)
    (case a34 => k_is)
    (case l34 => k_is)
    (case c34 => k_is)
    (case k34 => k_is)
    (case a35 => k_is)
    (case l35 => k_is)
    (case c35 => k_is)
    (case k35 => k_is)
    (case a36 => k_is)
    (case l36 => k_is)
    (case c36 => k_is)
    (case k36 => k_is)
    (case a37 => k_is)
    (case l37 => k_is)
    (case c37 => k_is)
    (case k37 => k_is)
    (case z_isinstance => k_is)
    (case z_len => k_is)
    (case z_str => k_is)
    (case z_int => k_is)
    (case z_bool => k_is)
    (case z_tuple => k_is)
    (case z_list => k_is)
    (case z_all => k_is)
    (case z_range => k_is)
    (case z_min => k_is)
    (case z_zip => k_is)
    (case z_enumerate => k_is)
    (case z_abs => k_is)
    (case z_sum => k_is)
    (case z_repr => k_is)
    (case v_MOST_BEATS => k_is)
    (case e_MOST_BEATS => decide +kernel)
    (case v_MOST_EDGE_LABELS => k_is)
    (case e_MOST_EDGE_LABELS => decide +kernel)
    (case v_MOST_LABELS => k_is)
    (case e_MOST_LABELS => decide +kernel)
    (case v_MOST_NETS => k_is)
    (case e_MOST_NETS => decide +kernel)
    (case v_MOST_PLACES => k_is)
    (case e_MOST_PLACES => decide +kernel)
    (case v_MOST_EDGES => k_is)
    (case e_MOST_EDGES => decide +kernel)
    (case sE => k_is)
    (case iE => k_is)
    (case tE => k_is)
    (case spO => k_is)
    (case tkO => k_is)
    (case kE1 => k_is)
    (case xE1 => k_exc)
    (case sBE1 => k_is)
    (case tE1 => k_is)
    (case sEE1 => k_is)
    (case gE1 => k_is)
    (case ggE1 => k_is)
    (case hdE1 => k_is)
    (case clE1 => k_is)
    (case mrE1 => k_is)
    (case kE2 => k_is)
    (case xE2 => k_exc)
    (case sBE2 => k_is)
    (case tE2 => k_is)
    (case sEE2 => k_is)
    (case gE2 => k_is)
    (case ggE2 => k_is)
    (case hdE2 => k_is)
    (case clE2 => k_is)
    (case mrE2 => k_is)
    (case hTT1 => exact hT8 _ (List.mem_cons_self ..))
    (case hdrT1 => kernel_rfl)
    (case npT1 => kernel_rfl)

