import PyProof.Rows.All
import Wide.All
import OpenK.AllK
import Wide.FinOn
import HandS.ForMost
import HandS.Strs
import HandS.Zip
import HandS.IsInst
import HandS.WordsExc
import HandS.Style
import HandS.Lambda
import KE.KExcIs
import HandS.ExcIs
import PySem.Challenge.RW_labelclocks_k65_webs_and_useful_places
import HandS.DeepEq
import HandS.Walk
import HandS.TupAny
import HandS.More
import HandS.Deep
import HandS.Conv
import HandS.DictComp
import HandS.TupMul
import PyProof.ReprReads
import PyProof.FitsInt
import HandS.EndTab
import HandS.CallLocal
import HandS.Words
import PyProof.ReprRoads
import PyProof.CallFns
import HandS.TupLe
import KE.KNestM
set_option Elab.async false
set_option linter.all false
set_option pp.maxSteps 700
set_option maxRecDepth 100000
set_option maxHeartbeats 2000000
namespace K65
open PySem PySem.Spec PyProof.Rows L2
open TL (tl)
def top (i : Nat) : Stmt := PySem.Challenge.pw_labelclocks_k65_webs_and_useful_places.main.body.getD i (.Pass ⟨0, 0, 0, 0⟩)
theorem ifT {c : Bool} {A B : Prop} (hc : c = true) (h : A) : if c = true then A else B := by
  rw [if_pos hc]
  exact h
theorem ifF {c : Bool} {A B : Prop} (hc : c = false) (h : B) : if c = true then A else B := by
  rw [hc, if_neg Bool.false_ne_true]
  exact h
theorem while_m {c : TT} {tb : TS} {D : Ends} {σ : L2.St} {H : Hp} (Pv : Nat → L2.St → Hp → Prop) (m : Nat) (h0 : Pv m σ H)
    (hs : ∀ n σ H, Pv n σ H → c σ H fun b H1 => if b = true then ∃ N : L2.St → Hp → Prop, (∀ σ' H', N σ' H' → ∃ m', m' < n ∧ Pv m' σ' H') ∧ tb { D with nx := N, ct := N, bk := D.nx } σ H1 else D.nx σ H1) : tWhile c tb D σ H :=
  ⟨Pv, ⟨m, h0⟩, hs⟩
theorem same_new {H : Hp} {p : Addr} {o : HO} (h : H p = none) : Same H (upd H p o) := fun b u e => by
  rw [upd_ne (ne_of_none e h)]
  exact e
theorem paired_app {α β : Type} {F : α → β → Prop} : ∀ {a : List α} {b : List β} {a' : List α} {b' : List β}, Paired F a b → Paired F a' b' → Paired F (a ++ a') (b ++ b')
  | _, _, _, _, .nil, q => q
  | _, _, _, _, .cons r t, q => .cons r (paired_app t q)
theorem paired_len {α β : Type} {F : α → β → Prop} {a : List α} {b : List β} (p : Paired F a b) : a.length = b.length := Paired.length p
section
variable {X : Cx} {o e : Expr} {to te : TE} {apos cpos : Pos}
theorem qApp (ho : PE X o to) (he : PE X e te) (hbase : attributeBase o "append" X.env (eval o X.env) = eval o X.env := by rfl)
    (hfew : ((backTo cpos (starEach (e :: []) X.env)).all (fun x => !x.1) && (backToKw cpos (keywordEach [] X.env)).all (fun x => x.1.isSome)
      && decide ((e :: ([] : List Expr)).length + ([] : List Keyword).length + (if ([] : List Keyword).isEmpty then 0 else 1) < 30)) = true := by rfl)
    (hline : (apos.endLine == cpos.line) = true := by rfl) (hs : starEach (e :: []) X.env = (false, eval e X.env) :: starEach [] X.env := by rfl) (hplain : (backTo cpos (starEach [] X.env)).any (·.1) = false := by rfl) :
    PE X (.Call (.Attribute o "append" apos) [e] [] cpos) (tBM X.K "list" rAppend to (tCons te tNil)) :=
  pe_bm PySem.F.plainAttrs_list PySem.F.slot_list_append PySem.F.type_list_append mt_append ho (pa_cons he pa_nil hs) hbase hfew hline hs hplain
end
theorem while_q {c : TT} {tb : TS} {D : Ends} {σ : L2.St} {H : Hp} (Pv : Nat → L2.St → Hp → Prop) (m : Nat) (Post : L2.St → Hp → Prop) (h0 : Pv m σ H)
    (hs : ∀ X : L2.St → Hp → Prop, (∀ σ H, Post σ H → X σ H) → ∀ n σ H, Pv n σ H → c σ H fun b H1 => if b = true then ∃ N : L2.St → Hp → Prop, (∀ σ' H', N σ' H' → ∃ m', m' < n ∧ Pv m' σ' H') ∧ tb { D with nx := N, ct := N, bk := D.nx } σ H1 else X σ H1)
    (hp : ∀ σ H, Post σ H → D.nx σ H) : tWhile c tb D σ H :=
  ⟨Pv, ⟨m, h0⟩, hs D.nx hp⟩
abbrev sBeg : Stmt := top 24
abbrev sMix : Stmt := top 25
abbrev sDrw : Stmt := top 26
abbrev sPck : Stmt := top 27
/-! ### the state of the draws -/
theorem k12 : ¬ (Sum.inr ("great" : Str) : Key) = Sum.inr ("cells" : Str) := by decide +kernel
theorem k13 : ¬ (Sum.inr ("great" : Str) : Key) = Sum.inr ("rest" : Str) := by decide +kernel
theorem k14 : ¬ (Sum.inr ("great" : Str) : Key) = Sum.inr ("turn" : Str) := by decide +kernel
theorem k23 : ¬ (Sum.inr ("cells" : Str) : Key) = Sum.inr ("rest" : Str) := by decide +kernel
theorem k24 : ¬ (Sum.inr ("cells" : Str) : Key) = Sum.inr ("turn" : Str) := by decide +kernel
theorem k34 : ¬ (Sum.inr ("rest" : Str) : Key) = Sum.inr ("turn" : Str) := by decide +kernel
def StKV (g c : Addr) (r t : Int) : List (Key × V) := [(Sum.inr ("great" : Str), V.ref g), (Sum.inr ("cells" : Str), V.ref c), (Sum.inr ("rest" : Str), V.int r), (Sum.inr ("turn" : Str), V.int t)]
section
variable {g c d : Addr} {r t : Int} {H : Hp}
theorem v_great : valV (StKV g c r t) (Sum.inr ("great" : Str)) = some (.ref g) := valV_pos rfl
theorem v_cells : valV (StKV g c r t) (Sum.inr ("cells" : Str)) = some (.ref c) := (valV_neg k12).trans (valV_pos rfl)
theorem v_rest : valV (StKV g c r t) (Sum.inr ("rest" : Str)) = some (.int r) := (valV_neg k13).trans ((valV_neg k23).trans (valV_pos rfl))
theorem v_turn : valV (StKV g c r t) (Sum.inr ("turn" : Str)) = some (.int t) := (valV_neg k14).trans ((valV_neg k24).trans ((valV_neg k34).trans (valV_pos rfl)))
theorem p_rest (x : Int) : putK (StKV g c r t) (Sum.inr ("rest" : Str)) (.int x) = StKV g c x t := by
  unfold putK
  rw [valV_any, v_rest, if_pos (show (some (V.int r)).isSome = true from rfl)]
  unfold StKV
  simp only [List.map_cons, List.map_nil, if_neg k13, if_neg k23, if_pos, if_neg (Ne.symm k34 : ¬ (Sum.inr ("turn" : Str) : Key) = Sum.inr ("rest" : Str))]
theorem p_turn (x : Int) : putK (StKV g c r t) (Sum.inr ("turn" : Str)) (.int x) = StKV g c r x := by
  unfold putK
  rw [valV_any, v_turn, if_pos (show (some (V.int t)).isSome = true from rfl)]
  unfold StKV
  simp only [List.map_cons, List.map_nil, if_neg k14, if_neg k24, if_neg k34, if_pos]
theorem g_great (h : H d = some (.dK (StKV g c r t))) : DGet H d (.str ("great" : Str)) (some (.ref g)) := by
  have e := DGet.k (k := Sum.inr ("great" : Str)) h
  rw [v_great] at e
  exact e
theorem g_cells (h : H d = some (.dK (StKV g c r t))) : DGet H d (.str ("cells" : Str)) (some (.ref c)) := by
  have e := DGet.k (k := Sum.inr ("cells" : Str)) h
  rw [v_cells] at e
  exact e
theorem g_rest (h : H d = some (.dK (StKV g c r t))) : DGet H d (.str ("rest" : Str)) (some (.int r)) := by
  have e := DGet.k (k := Sum.inr ("rest" : Str)) h
  rw [v_rest] at e
  exact e
theorem g_turn (h : H d = some (.dK (StKV g c r t))) : DGet H d (.str ("turn" : Str)) (some (.int t)) := by
  have e := DGet.k (k := Sum.inr ("turn" : Str)) h
  rw [v_turn] at e
  exact e
theorem s_rest (h : H d = some (.dK (StKV g c r t))) (x : Int) : DPut H d (.str ("rest" : Str)) (.int x) (upd H d (.dK (StKV g c x t))) := by
  have e := DPut.k (k := Sum.inr ("rest" : Str)) (v := .int x) h (by rw [sizeLine_eq]; show 4 < _; omega)
  rw [p_rest] at e
  exact e
theorem s_turn (h : H d = some (.dK (StKV g c r t))) (x : Int) : DPut H d (.str ("turn" : Str)) (.int x) (upd H d (.dK (StKV g c r x))) := by
  have e := DPut.k (k := Sum.inr ("turn" : Str)) (v := .int x) h (by rw [sizeLine_eq]; show 4 < _; omega)
  rw [p_turn] at e
  exact e
end
/-- the state at d: great at g, cells at c; at most n turns were made -/
structure StX (H : Hp) (d g c : Addr) (n : Nat) (r t : Int) (gs cs : List Int) : Prop where
  dk : H d = some (.dK (StKV g c r t))
  gl : H g = some (.lst (gs.map V.int))
  cl : H c = some (.lst (cs.map V.int))
  gc : g ≠ c
  r0 : 0 ≤ r
  g0 : ∀ x ∈ gs, 0 ≤ x
  t0 : 0 ≤ t
  tn : t ≤ n
  gn : gs.length ≤ 63
  cn : cs.length ≤ 63
def StA (H : Hp) (d g c : Addr) (n : Nat) : Prop := ∃ r t gs cs, StX H d g c n r t gs cs
theorem StX.dg {H : Hp} {d g c : Addr} {n : Nat} {r t : Int} {gs cs : List Int} (S : StX H d g c n r t gs cs) : d ≠ g := ne_of S.dk S.gl (by intro z; cases z)
theorem StX.dc {H : Hp} {d g c : Addr} {n : Nat} {r t : Int} {gs cs : List Int} (S : StX H d g c n r t gs cs) : d ≠ c := ne_of S.dk S.cl (by intro z; cases z)
theorem StX.keep {H H' : Hp} {d g c : Addr} {n : Nat} {r t : Int} {gs cs : List Int} (S : StX H d g c n r t gs cs) (k : Same H H') : StX H' d g c n r t gs cs :=
  ⟨k _ _ S.dk, k _ _ S.gl, k _ _ S.cl, S.gc, S.r0, S.g0, S.t0, S.tn, S.gn, S.cn⟩
theorem StA.keep {H H' : Hp} {d g c : Addr} {n : Nat} (S : StA H d g c n) (k : Same H H') : StA H' d g c n := by
  obtain ⟨r, t, gs, cs, S⟩ := S
  exact ⟨r, t, gs, cs, S.keep k⟩
theorem StA.mono {H : Hp} {d g c : Addr} {n m : Nat} (S : StA H d g c n) (h : n ≤ m) : StA H d g c m := by
  obtain ⟨r, t, gs, cs, S⟩ := S
  exact ⟨r, t, gs, cs, S.dk, S.gl, S.cl, S.gc, S.r0, S.g0, S.t0, by have := S.tn; omega, S.gn, S.cn⟩
/-- all but the state's dict and great stay -/
def Kp (d g : Addr) (H H' : Hp) : Prop := ∀ b o, H b = some o → b ≠ d → b ≠ g → H' b = some o
theorem Kp.of {d g : Addr} {H H' : Hp} (s : Same H H') : Kp d g H H' := fun b o e _ _ => s b o e
theorem Kp.refl {d g : Addr} (H : Hp) : Kp d g H H := fun _ _ e _ _ => e
theorem Kp.trans {d g : Addr} {H H1 H2 : Hp} (a : Kp d g H H1) (b : Kp d g H1 H2) : Kp d g H H2 := fun c o e h1 h2 => b c o (a c o e h1 h2) h1 h2
theorem Kp.put {d g : Addr} {H : Hp} {o : HO} : Kp d g H (upd H d o) := fun b u e h1 _ => by
  rw [upd_ne h1]
  exact e
theorem Kp.putg {d g : Addr} {H : Hp} {o : HO} : Kp d g H (upd H g o) := fun b u e _ h2 => by
  rw [upd_ne h2]
  exact e
theorem StX.rest {H : Hp} {d g c : Addr} {n : Nat} {r t : Int} {gs cs : List Int} (S : StX H d g c n r t gs cs) {x : Int} (hx : 0 ≤ x) : StX (upd H d (.dK (StKV g c x t))) d g c n x t gs cs :=
  ⟨upd_same, by rw [upd_ne S.dg.symm]; exact S.gl, by rw [upd_ne S.dc.symm]; exact S.cl, S.gc, hx, S.g0, S.t0, S.tn, S.gn, S.cn⟩
theorem StX.turn {H : Hp} {d g c : Addr} {n : Nat} {r t : Int} {gs cs : List Int} (S : StX H d g c n r t gs cs) : StX (upd H d (.dK (StKV g c r (t + 1)))) d g c (n + 1) r (t + 1) gs cs :=
  ⟨upd_same, by rw [upd_ne S.dg.symm]; exact S.gl, by rw [upd_ne S.dc.symm]; exact S.cl, S.gc, S.r0, S.g0, by have := S.t0; omega, by have := S.tn; omega, S.gn, S.cn⟩
theorem dpInts {K : PySem.W.Frag} {H : Hp} : ∀ gs : List Int, DpAll K H (gs.map V.int) (gs.map PyData.int)
  | [] => .nil
  | x :: r => .cons (.int x) (dpInts r)
theorem layInts : ∀ gs : List Int, PyData.canLayAll0 (gs.map PyData.int) = true
  | [] => rfl
  | x :: r => by
    show (true && PyData.canLayAll0 (r.map PyData.int)) = true
    rw [layInts r]
    rfl
theorem depInts : ∀ gs : List Int, PyData.depthAll (gs.map PyData.int) = 0
  | [] => rfl
  | x :: r => by
    show max 0 (PyData.depthAll (r.map PyData.int)) = 0
    rw [depInts r]
    rfl
theorem shInts (gs : List Int) : SeqAt.shaped (.list (gs.map PyData.int)) = true := by
  unfold SeqAt.shaped
  show (PyData.canLayAll0 (gs.map PyData.int) && decide (PyData.depthAll (gs.map PyData.int) + 1 ≤ 64)) = true
  rw [layInts, depInts]
  rfl
def spMix : Sp := fun vs H Q _ => ∃ (d g c : Addr) (n : Nat), vs = [.ref d] ∧ StA H d g c n ∧ n ≤ 1000000000 ∧ ∀ (v : Int) (H' : Hp), 0 ≤ v → StA H' d g c (n + 1) → Kp d g H H' → Q (.int v) H'
def spDrw : Sp := fun vs H Q _ => ∃ (d g c : Addr) (n : Nat) (room : Int), vs = [.ref d, .int room] ∧ StA H d g c n ∧ n ≤ 1000000000 ∧ 0 < room ∧ room < 1073741824 ∧
  ∀ (v : Int) (H' : Hp), 0 ≤ v → v < room → StA H' d g c (n + 1) → Kp d g H H' → Q (.int v) H'
def spPck : Sp := fun vs H Q _ => ∃ (d g c a : Addr) (n : Nat) (xs : List V), vs = [.ref d, .ref a] ∧ StA H d g c n ∧ n ≤ 1000000000 ∧ H a = some (.lst xs) ∧ a ≠ g ∧ xs ≠ [] ∧ xs.length ≤ 1000000 ∧
  ∀ (v : V) (H' : Hp), v ∈ xs → StA H' d g c (n + 1) → Kp d g H H' → Q v H'
structure MgS (K : PySem.W.Frag) (mg : Str → Option Value) (fM fD : Addr) : Prop where
  int : mg "int" = none
  len : mg "len" = none
  mx : mg "_law_mixed" = some (.ref fM)
  kmx : PySem.W.keepIn K (.ref fM) = true
  dr : mg "_law_draw" = some (.ref fD)
  kdr : PySem.W.keepIn K (.ref fD) = true
section
variable {P : Program} {w : World} {K : PySem.W.Frag} {mg : Str → Option Value} {base : Heap}
theorem scMix : FnScope ["state", "turn", "found", "prime", "blend", "cell"] ["state"] (defScope sMix) := ⟨rfl, rfl, rfl, by decide +kernel, rfl, by decide +kernel, by decide +kernel⟩
theorem ok_mix {f fM fD : Addr} {fd : FuncData} (F : Fun K "_law_mixed" "_law_mixed" sMix f fd) (T : MgS K mg fM fD) : FnOk P w K mg base CX0 1 f fd ["state"] spMix := by
  refine F.ok scMix (fun vs H Q E h => ?_) (fun cdv A outer s H vs Q E hr h => ?_)
  · obtain ⟨d, g, c, n, rfl, _⟩ := h
    rfl
  · obtain ⟨d, g, c, n, rfl, ⟨r, t, gs, cs, S⟩, hn, k⟩ := h
    have hu := hu_of hr
    refine ⟨_, pss_cons (ps_par (i := 1) (j := 2) (by rfl) scMix.nd rfl rfl (by decide) rfl rfl (pa_cons (pe_op op_add (pe_dget hu (pv 0) pe_str (fun _ _ => rfl)) pe_int) (pa_cons pe_int pa_nil)) (by rfl))
      (pss_cons (ps_dput hu (pv 0) pe_str (pv 1) rfl)
      (pss_cons (ps_for PassesOwn.never rfl (pi_list (pe_lst (pa_cons pe_int (pa_cons pe_int (pa_cons pe_int (pa_cons pe_int pa_nil)))))) (pg_name (i := 3) scMix.nd rfl (Or.inl rfl))
        (pss_cons (ps_set (i := 4) scMix.nd rfl (Or.inl rfl) (pe_op op_add (pe_op op_mul pe_int (pv 1)) (pe_op op_fdivN (pv 3) pe_int)))
        (pss_cons (ps_for PassesOwn.never rfl (pi_list (pe_dget hu (pv 0) pe_str (fun _ _ => rfl))) (pg_name (i := 5) scMix.nd rfl (Or.inl rfl))
          (pss_one (ps_set (i := 4) scMix.nd rfl (Or.inl rfl) (pe_op op_mod (pe_callTy call_int1 (by rfl) T.int (by decide +kernel) (pa_cons (pe_op op_add (pe_op op_add (pe_op op_mul (pv 4) pe_int) (pv 5)) (pv 1)) pa_nil)) (pv 3)))))
        (pss_one (ps_set (i := 2) scMix.nd rfl (Or.inl rfl) (pe_op op_add (pe_op op_mul (pv 2) pe_int) (pe_op op_mod (pe_callTy call_int1 (by rfl) T.int (by decide +kernel) (pa_cons (pe_op op_pow (pv 4) pe_int) pa_nil)) (pv 3))))))))
      (pss_one (ps_ret (pv 2))))), ?_⟩
    refine ⟨_, rfl, d, _, rfl, g_turn S.dk, _, _, rfl, rfl, ⟨_, _, rfl, ?_⟩⟩
    refine ⟨_, rfl, _, rfl, d, _, rfl, s_turn S.dk _, ?_⟩
    have S1 := S.turn
    have t0 := S.t0
    have tn := S.tn
    refine ⟨(by show 4 ≤ sizeLine; decide), fun l hl => ?_⟩
    have S2 := S1.keep (same_new (o := .lst [V.int 2147483629, V.int 2147483647, V.int 2147483563, V.int 2147483587]) hl)
    have kp : Kp d g H (upd (upd H d (.dK (StKV g c r (t + 1)))) l (.lst [V.int 2147483629, V.int 2147483647, V.int 2147483563, V.int 2147483587])) := Kp.put.trans (Kp.of (same_new hl))
    generalize hH1 : upd (upd H d (.dK (StKV g c r (t + 1)))) l (.lst [V.int 2147483629, V.int 2147483647, V.int 2147483563, V.int 2147483587]) = H1 at S2 kp
    have hl1 : H1 l = some (.lst [V.int 2147483629, V.int 2147483647, V.int 2147483563, V.int 2147483587]) := by rw [← hH1, upd_same]
    refine ⟨l, rfl, ⟨_, SqL.of (by first | exact upd_same | exact hl1)⟩, for_list (K := K) (a := l) (xs := [V.int 2147483629, V.int 2147483647, V.int 2147483563, V.int 2147483587])
      (fun i σ H' => ∃ (fd : Int) (pv bv cv : Option V), σ = [some (.ref d), some (.int (t + 1)), some (.int fd), pv, bv, cv] ∧ 0 ≤ fd ∧ H' = H1) ⟨0, none, none, none, rfl, Int.le_refl _, by first | rfl | exact hH1⟩ (fun i σ H' _ ⟨_, _, _, _, _, _, e⟩ => by rw [e]; exact SqL.of hl1) ?_ ?_⟩
    · rintro i x σ H' hi ⟨fd, pv, bv, cv, rfl, hfd, rfl⟩
      have hm := List.mem_of_getElem? hi
      obtain ⟨pr, rfl, hp0, hp1⟩ : ∃ pr : Int, x = .int pr ∧ 0 < pr ∧ pr < 2147483648 := by
        simp only [List.mem_cons, List.not_mem_nil, or_false] at hm
        rcases hm with rfl | rfl | rfl | rfl
        · exact ⟨_, rfl, by decide, by decide⟩
        · exact ⟨_, rfl, by decide, by decide⟩
        · exact ⟨_, rfl, by decide, by decide⟩
        · exact ⟨_, rfl, by decide, by decide⟩
      have hq : pr.fdiv 41 = pr / 41 := Int.fdiv_eq_ediv_of_nonneg _ (by decide)
      refine ⟨_, rfl, _, _, rfl, rfl, .inl ⟨by decide, by decide⟩, _, rfl, _, _, rfl, rfl, ⟨by decide, by decide⟩, _, _, rfl, rfl, ?_⟩
      refine ⟨_, rfl, d, _, rfl, g_cells S2.dk, c, rfl, ⟨_, SqL.of S2.cl⟩, for_list (K := K) (a := c) (xs := cs.map V.int)
        (fun i σ H'' => ∃ (bl : Int) (cv : Option V), σ = [some (.ref d), some (.int (t + 1)), some (.int fd), some (.int pr), some (.int bl), cv] ∧ -9000000000000000000 < bl ∧ bl < 9000000000000000000 ∧ H'' = H') ⟨_, cv, rfl, by omega, by omega, rfl⟩ (fun i σ H'' _ ⟨_, _, _, _, _, e⟩ => by rw [e]; exact SqL.of S2.cl) ?_ ?_⟩
      · rintro j y σ H'' hj ⟨bl, cv2, rfl, hb1, hb2, rfl⟩
        rw [List.getElem?_map] at hj
        obtain ⟨z, _, rfl⟩ := Option.map_eq_some_iff.mp hj
        refine ⟨_, rfl, _, _, rfl, rfl, .inr ⟨by decide, by decide⟩, _, rfl, _, _, rfl, rfl, _, rfl, _, _, rfl, rfl, .inl ⟨_, rfl, _, rfl, _, _, rfl, rfl, hp0, ?_⟩⟩
        refine ⟨_, _, rfl, ?_, ?_, rfl⟩
        · have := Int.emod_nonneg (bl * 48271 + z + (t + 1)) (Int.ne_of_gt hp0)
          omega
        · have := Int.emod_lt_of_pos (bl * 48271 + z + (t + 1)) hp0
          omega
      · rintro σ H'' ⟨bl, cv2, rfl, hb1, hb2, rfl⟩
        refine ⟨_, rfl, _, _, rfl, rfl, .inr ⟨by decide, by decide⟩, _, rfl, _, _, rfl, rfl, ⟨by decide, by decide, by omega⟩, .inl ⟨_, rfl, _, rfl, _, _, rfl, rfl, hp0, _, _, rfl, rfl, ?_⟩⟩
        refine ⟨_, _, _, _, rfl, ?_, rfl⟩
        have := Int.emod_nonneg (bl ^ (5 : Int).toNat) (Int.ne_of_gt hp0)
        omega
    · rintro σ H' ⟨fd, pv, bv, cv, rfl, hfd, rfl⟩
      refine ⟨_, rfl, k fd H' hfd ⟨_, _, _, _, S2⟩ kp⟩
end
/-- a statement, a word of one's own, the rest -/
def tMid (t u : TS) : TS := fun D σ H => ∃ M : L2.St → Hp → Prop, t { D with nx := M } σ H ∧ ∀ σ1 H1, M σ1 H1 → u D σ1 H1
section
variable {X : Cx} {o e : Expr} {to te : TE} {apos cpos : Pos}
theorem pss_mid {st : Stmt} {rest : List Stmt} {t u : TS} (h1 : PS X st t) (h2 : PSs X rest u) : PSs X (st :: rest) (tMid t u) := by
  constructor
  intro pins s σ H D I h
  obtain ⟨M, ha, hb⟩ := h
  refine wpAny_execs_cons (thn (h1.run pins s σ H { D with nx := M } I ha) ?_)
  intro f s1 q
  match f, q with
  | .next, ⟨σ1, H1, I1, q⟩ => exact h2.run pins s1 σ1 H1 D I1 (hb σ1 H1 q)
  | .ret v, q => exact q
  | .brk, q => exact q
  | .cont, q => exact q
theorem qPopAt (ho : PE X o to) (he : PE X e te) (hbase : attributeBase o "pop" X.env (eval o X.env) = eval o X.env := by rfl)
    (hfew : ((backTo cpos (starEach (e :: []) X.env)).all (fun x => !x.1) && (backToKw cpos (keywordEach [] X.env)).all (fun x => x.1.isSome)
      && decide ((e :: ([] : List Expr)).length + ([] : List Keyword).length + (if ([] : List Keyword).isEmpty then 0 else 1) < 30)) = true := by rfl)
    (hline : (apos.endLine == cpos.line) = true := by rfl) (hs : starEach (e :: []) X.env = (false, eval e X.env) :: starEach [] X.env := by rfl) (hplain : (backTo cpos (starEach [] X.env)).any (·.1) = false := by rfl) :
    PE X (.Call (.Attribute o "pop" apos) [e] [] cpos) (tBM X.K "list" rPopAt to (tCons te tNil)) :=
  pe_bm PySem.F.plainAttrs_list PySem.F.slot_list_pop PySem.F.type_list_pop mt_popAt ho (pa_cons he pa_nil hs) hbase hfew hline hs hplain
end
theorem StX.pop {H : Hp} {d g c : Addr} {n : Nat} {r t x : Int} {gs cs : List Int} (S : StX H d g c n r t (x :: gs) cs) : 0 ≤ x ∧ StX (upd (upd H g (.lst (gs.map V.int))) d (.dK (StKV g c x t))) d g c n x t gs cs := by
  have hx := S.g0 x (List.mem_cons_self ..)
  refine ⟨hx, upd_same, by rw [upd_ne S.dg.symm, upd_same], by rw [upd_ne S.dc.symm, upd_ne S.gc.symm]; exact S.cl, S.gc, hx, fun y hy => S.g0 y (List.mem_cons_of_mem _ hy), S.t0, S.tn, by have := S.gn; simp only [List.length_cons] at this; omega, S.cn⟩
section
variable {P : Program} {w : World} {K : PySem.W.Frag} {mg : Str → Option Value} {base : Heap}
theorem scDrw : FnScope ["state", "room", "found"] ["state", "room"] (defScope sDrw) := ⟨rfl, rfl, rfl, by decide +kernel, rfl, by decide +kernel, by decide +kernel⟩
theorem ok_drw {f fM fD : Addr} {fd fdM : FuncData} (F : Fun K "_law_draw" "_law_draw" sDrw f fd) (T : MgS K mg fM fD) (FM : Fun K "_law_mixed" "_law_mixed" sMix fM fdM) (bM : L2.Binds K fdM ["state"] []) : FnOk P w K mg base CX0 2 f fd ["state", "room"] spDrw := by
  have GM : FnOk P w K mg base CX0 1 fM fdM ["state"] spMix := ok_mix FM T
  refine F.ok scDrw (fun vs H Q E h => ?_) (fun cdv A outer s H vs Q E hr h => ?_)
  · obtain ⟨d, g, c, n, room, rfl, _⟩ := h
    rfl
  · obtain ⟨d, g, c, n, room, rfl, ⟨r, t, gs, cs, S⟩, hn, hr0, hr1, k⟩ := h
    have hu := hu_of hr
    refine ⟨_, pss_mid (ps_if (pt_cmpR op_eq (pe_dget hu (pv 0) pe_str (fun _ _ => rfl)) pe_int (nomark _))
        (pss_one (ps_dput hu (pv 0) pe_str (pe_ifExp (pt_cmpR (op_neD hr.units) (pe_dget hu (pv 0) pe_str (fun _ _ => rfl)) (pe_lst pa_nil) (nomark _))
          (qPopAt (pe_dget hu (pv 0) pe_str (fun _ _ => rfl)) pe_int) (pe_call GM hr (by rfl) T.mx T.kmx bM .nil pass0 (pa_cons (pv 0) pa_nil))) rfl)) pss_nil)
      (pss_cons (ps_set (i := 2) scDrw.nd rfl (Or.inl rfl) (pe_op op_mod (pe_callTy call_int1 (by rfl) T.int (by decide +kernel) (pa_cons (pe_dget hu (pv 0) pe_str (fun _ _ => rfl)) pa_nil)) (pv 1)))
      (pss_cons (ps_dput hu (pv 0) pe_str (pe_op op_fdivN (pe_dget hu (pv 0) pe_str (fun _ _ => rfl)) (pv 1)) rfl)
      (pss_one (ps_ret (pv 2))))), ?_⟩
    refine ⟨fun σ1 H1 => σ1 = [some (.ref d), some (.int room), none] ∧ StA H1 d g c (n + 1) ∧ Kp d g H H1, ?_, ?_⟩
    · refine ⟨_, rfl, d, _, rfl, g_rest S.dk, rfl, _, rfl, ?_⟩
      by_cases h0 : r = 0
      · refine ifT (decide_eq_true (by rw [h0])) ?_
        refine ⟨_, rfl, d, _, rfl, g_great S.dk, Nat.zero_le _, fun l hl => ?_⟩
        have S1 := S.keep (same_new (o := .lst []) hl)
        refine ⟨_, .list [], .lst (SqL.of S1.gl) (dpInts gs), .lst (SqL.of upd_same) .nil, shInts gs, by decide, _, rfl, ?_⟩
        cases gs with
        | nil =>
          refine ifF rfl ?_
          refine ⟨_, rfl, d, g, c, n, rfl, ⟨r, t, [], cs, S1⟩, hn, fun v H' hv S2 kp => ?_⟩
          obtain ⟨r2, t2, gs2, cs2, S2⟩ := S2
          refine ⟨_, rfl, d, _, rfl, s_rest S2.dk v, rfl, ⟨v, t2, gs2, cs2, S2.rest hv⟩, (Kp.of (same_new hl)).trans (kp.trans Kp.put)⟩
        | cons x gs =>
          refine ifT rfl ?_
          obtain ⟨hx, S2⟩ := S1.pop
          refine ⟨_, rfl, d, _, rfl, g_great S1.dk, .inl ⟨rfl, _, SqL.of S1.gl⟩, g, _, 0, 0, .int x, rfl, rfl, S1.gl, (by decide), (by decide), (by first | rfl | (unfold seqIndex?; simp)), rfl, ?_⟩
          refine ⟨_, rfl, d, _, rfl, s_rest (by rw [upd_ne S1.dg]; exact S1.dk) x, rfl, ?_, (Kp.of (same_new hl)).trans (Kp.putg.trans Kp.put)⟩
          exact StA.mono ⟨x, t, gs, cs, S2⟩ (Nat.le_succ _)
      · refine ifF (decide_eq_false (fun h => h0 (by injection h))) ?_
        exact ⟨rfl, StA.mono ⟨r, t, gs, cs, S⟩ (Nat.le_succ _), Kp.refl _⟩
    · rintro σ1 H1 ⟨rfl, ⟨r, t, gs, cs, S⟩, kp⟩
      refine ⟨_, rfl, d, _, rfl, g_rest S.dk, .inl ⟨_, rfl, _, rfl, _, _, rfl, rfl, hr0, ?_⟩⟩
      refine ⟨_, rfl, d, _, rfl, g_rest S.dk, _, rfl, _, _, rfl, rfl, ⟨by omega, by omega⟩, _, rfl, d, _, rfl, s_rest S.dk _, ?_⟩
      have hq : 0 ≤ r.fdiv room := by
        rw [Int.fdiv_eq_ediv_of_nonneg _ (by omega)]
        exact Int.ediv_nonneg S.r0 (by omega)
      exact ⟨_, rfl, k _ _ (Int.emod_nonneg _ (by omega)) (Int.emod_lt_of_pos _ hr0) ⟨_, _, _, _, S.rest hq⟩ (kp.trans Kp.put)⟩
end
theorem merge_st (g c : Addr) : mergeK [] (StKV g c 0 0) = StKV g c 0 0 := by
  have e1 : putK [] (Sum.inr ("great" : Str) : Key) (V.ref g) = [(Sum.inr ("great" : Str), V.ref g)] := by
    rw [putK_new _ valV_nil]
    rfl
  have e2 : putK [((Sum.inr ("great" : Str) : Key), V.ref g)] (Sum.inr ("cells" : Str)) (V.ref c) = [(Sum.inr ("great" : Str), V.ref g), (Sum.inr ("cells" : Str), V.ref c)] := by
    rw [putK_new _ ((valV_neg k12).trans valV_nil)]
    rfl
  have e3 : putK [((Sum.inr ("great" : Str) : Key), V.ref g), (Sum.inr ("cells" : Str), V.ref c)] (Sum.inr ("rest" : Str)) (V.int 0) = [(Sum.inr ("great" : Str), V.ref g), (Sum.inr ("cells" : Str), V.ref c), (Sum.inr ("rest" : Str), V.int 0)] := by
    rw [putK_new _ ((valV_neg k13).trans ((valV_neg k23).trans valV_nil))]
    rfl
  have e4 : putK [((Sum.inr ("great" : Str) : Key), V.ref g), (Sum.inr ("cells" : Str), V.ref c), (Sum.inr ("rest" : Str), V.int 0)] (Sum.inr ("turn" : Str)) (V.int 0) = StKV g c 0 0 := by
    rw [putK_new _ ((valV_neg k14).trans ((valV_neg k24).trans ((valV_neg k34).trans valV_nil)))]
    rfl
  show putK (putK (putK (putK [] (Sum.inr ("great" : Str) : Key) (V.ref g)) (Sum.inr ("cells" : Str)) (V.ref c)) (Sum.inr ("rest" : Str)) (V.int 0)) (Sum.inr ("turn" : Str)) (V.int 0) = _
  rw [e1, e2, e3, e4]
def spBeg (K : PySem.W.Frag) : Sp := fun vs H Q _ => ∃ (a : Addr) (ns : List Int), vs = [.ref a] ∧ SqL K H a (ns.map V.int) ∧ ns.length ≤ 63 ∧
  ∀ (d g c : Addr) (H' : Hp), StA H' d g c 0 → Same H H' → H d = none → H g = none → Q (.ref d) H'
section
variable {P : Program} {w : World} {K : PySem.W.Frag} {mg : Str → Option Value} {base : Heap}
theorem scPck : FnScope ["state", "some"] ["state", "some"] (defScope sPck) := ⟨rfl, rfl, rfl, by decide +kernel, rfl, by decide +kernel, by decide +kernel⟩
theorem ok_pck {f fM fD : Addr} {fd fdM fdD : FuncData} (F : Fun K "_law_pick" "_law_pick" sPck f fd) (T : MgS K mg fM fD) (FM : Fun K "_law_mixed" "_law_mixed" sMix fM fdM) (bM : L2.Binds K fdM ["state"] [])
    (FD : Fun K "_law_draw" "_law_draw" sDrw fD fdD) (bD : L2.Binds K fdD ["state", "room"] []) : FnOk P w K mg base CX0 3 f fd ["state", "some"] spPck := by
  have GD : FnOk P w K mg base CX0 2 fD fdD ["state", "room"] spDrw := ok_drw FD T FM bM
  refine F.ok scPck (fun vs H Q E h => ?_) (fun cdv A outer s H vs Q E hr h => ?_)
  · obtain ⟨d, g, c, a, n, xs, rfl, _⟩ := h
    rfl
  · obtain ⟨d, g, c, a, n, xs, rfl, S, hn, ha, hag, hne, hlen, k⟩ := h
    refine ⟨_, pss_one (ps_ret (pe_ix ix_list (pv 1) (pe_call GD hr (by rfl) T.dr T.kdr bD .nil pass0 (pa_cons (pv 0) (pa_cons (pe_callB call_len_seq (by rfl) T.len PySem.boot_len (pa_cons (pv 1) pa_nil)) pa_nil))) (fun _ _ => rfl))), ?_⟩
    have hpos : 0 < xs.length := List.length_pos_iff.mpr hne
    have had : a ≠ d := by
      obtain ⟨r, t, gs, cs, S⟩ := S
      exact ne_of ha S.dk (by intro z; cases z)
    refine ⟨_, rfl, _, rfl, _, rfl, a, _, rfl, .inl (SqL.of ha), d, g, c, n, (xs.length : Int), rfl, S, hn, by omega, by omega, fun v H' h0 h1 S2 kp => ?_⟩
    have hi : v.toNat < xs.length := by omega
    exact ⟨a, xs, v, xs[v.toNat], rfl, rfl, SqL.of (kp _ _ ha had hag), at_of (j := v.toNat) (by omega) (List.getElem?_eq_getElem hi), k _ _ (List.getElem_mem hi) S2 kp⟩
theorem scBeg : FnScope ["script", "great", "cell"] ["script"] (defScope sBeg) := ⟨rfl, rfl, rfl, by decide +kernel, rfl, by decide +kernel, by decide +kernel⟩
theorem ok_beg {f : Addr} {fd : FuncData} (F : Fun K "_law_begun" "_law_begun" sBeg f fd) (ma : mg "abs" = none) : FnOk P w K mg base CX0 1 f fd ["script"] (spBeg K) := by
  refine F.ok scBeg (fun vs H Q E h => ?_) (fun cdv A outer s H vs Q E hr h => ?_)
  · obtain ⟨a, ns, rfl, _⟩ := h
    rfl
  · obtain ⟨a, ns, rfl, hS, hlen, k⟩ := h
    refine ⟨_, pss_cons (ps_setLc (i := 1) (own := [("cell", 2)]) (g := gName 2) (by rfl) scBeg.nd rfl rfl (sw_true rfl rfl rfl (by decide +kernel)) (pi_list (pv 0)) (blkOk_by (own := [("cell", 2)]) (N := ["script", "great", "cell"]) (sc := defScope sBeg) (by decide +kernel)) (fun _ _ _ _ _ => pg_name (i := 2) scBeg.nd rfl (Or.inl rfl))
        (fun _ _ _ _ _ => pts_one (pt_cmpR op_ge (pe_callB call_abs (by rfl) ma (by decide +kernel) (pa_cons (pv 2) pa_nil)) (pe_op op_pow pe_int pe_int) (nomark _)))
        (fun _ _ _ _ _ => pe_op op_sub (pe_callB call_abs (by rfl) ma (by decide +kernel) (pa_cons (pv 2) pa_nil)) (pe_op op_pow pe_int pe_int)))
      (pss_one (ps_ret (pe_disp (pps_cons pe_str (pv 1) (pps_cons pe_str (pe_lc (own := [("cell", 2)]) (g := gName 2) (tt := tYes) (by rfl) scBeg.nd (pi_list (pv 0)) (blkOk_by (own := [("cell", 2)]) (N := ["script", "great", "cell"]) (sc := defScope sBeg) (by decide +kernel)) (fun _ _ _ _ _ => pg_name (i := 2) scBeg.nd rfl (Or.inl rfl)) (fun _ _ _ _ _ => pts_nil)
        (fun _ _ _ _ _ => pe_callB call_abs (by rfl) ma (by decide +kernel) (pa_cons (pv 2) pa_nil))) (pps_cons pe_str pe_int (pps_cons pe_str pe_int pps_nil)))) (by rfl) (by rfl) (fun z => by cases z) (by decide)))), ?_⟩
    refine ⟨_, rfl, a, rfl, ⟨_, hS⟩, fun g hg => lc_list (K := K) (a := a) (xs := ns.map V.int)
      (fun i H' => ∃ gs : List Int, H' g = some (.lst (gs.map V.int)) ∧ (∀ x ∈ gs, 0 ≤ x) ∧ gs.length ≤ i ∧ Same H H') ⟨[], upd_same, (fun x hx => by cases hx), Nat.le_refl _, same_new hg⟩ (fun i H' _ ⟨_, _, _, _, s1⟩ => s1.seq hS) ?_ ?_⟩
    · rintro i x H' hi ⟨gs, h1, h2, h3, s1⟩
      have hil : i < (ns.map V.int).length := (List.getElem?_eq_some_iff.mp hi).1
      rw [List.length_map] at hil
      rw [List.getElem?_map] at hi
      obtain ⟨z, _, rfl⟩ := Option.map_eq_some_iff.mp hi
      refine ⟨rfl, ?_⟩
      refine ⟨_, rfl, z, rfl, _, _, rfl, rfl, ⟨by decide, by decide, by decide⟩, _, _, rfl, rfl, _, rfl, ?_⟩
      by_cases hz : (10 : Int) ^ (18 : Int).toNat ≤ (if z < 0 then -z else z)
      · refine ifT (decide_eq_true hz) ?_
        refine ⟨_, rfl, z, rfl, _, _, rfl, rfl, ⟨by decide, by decide, by decide⟩, _, _, rfl, rfl, ?_⟩
        refine ⟨gs.map V.int, h1, by rw [List.length_map, sizeLine_eq]; omega, gs ++ [(if z < 0 then -z else z) - (10 : Int) ^ (18 : Int).toNat], ?_, ?_, ?_, ?_⟩
        · rw [upd_same, List.map_append]
          rfl
        · intro x hx
          rcases List.mem_append.mp hx with hx | hx
          · exact h2 x hx
          · rw [List.mem_singleton.mp hx]
            omega
        · rw [List.length_append]
          show gs.length + 1 ≤ i + 1
          omega
        · intro b o e
          rw [upd_ne (ne_of_none e hg)]
          exact s1 _ _ e
      · refine ifF (decide_eq_false hz) ?_
        exact ⟨gs, h1, h2, by omega, s1⟩
    · rw [List.length_map]
      rintro H1 ⟨gs, h1, h2, h3, s1⟩
      refine fun p hp => ?_
      have hgp : g ≠ p := ne_of_none h1 hp
      refine ⟨_, rfl, _, rfl, a, rfl, ⟨_, (s1.trans (same_new hp)).seq hS⟩, fun c hc => lc_list (K := K) (a := a) (xs := ns.map V.int)
        (fun i H' => ∃ cs : List Int, H' c = some (.lst (cs.map V.int)) ∧ cs.length ≤ i ∧ Same (upd H1 p (.dK [])) H') ⟨[], upd_same, Nat.le_refl _, same_new hc⟩ (fun i H' _ ⟨_, _, _, s2⟩ => ((s1.trans (same_new hp)).trans s2).seq hS) ?_ ?_⟩
      · rintro i x H' hi ⟨cs, h4, h5, s2⟩
        have hil : i < (ns.map V.int).length := (List.getElem?_eq_some_iff.mp hi).1
        rw [List.length_map] at hil
        rw [List.getElem?_map] at hi
        obtain ⟨z, _, rfl⟩ := Option.map_eq_some_iff.mp hi
        refine ⟨rfl, ?_⟩
        refine ⟨_, rfl, z, rfl, cs.map V.int, h4, by rw [List.length_map, sizeLine_eq]; omega, cs ++ [if z < 0 then -z else z], ?_, ?_, ?_⟩
        · rw [upd_same, List.map_append]
          rfl
        · rw [List.length_append]
          show cs.length + 1 ≤ i + 1
          omega
        · intro b o e
          rw [upd_ne (ne_of_none e hc)]
          exact s2 _ _ e
      · rw [List.length_map]
        rintro H2 ⟨cs, h4, h5, s2⟩
        have hpc : p ≠ c := ne_of_none upd_same hc
        have hgc : g ≠ c := ne_of_none (by rw [upd_ne hgp]; exact h1) hc
        refine ⟨s2 _ _ upd_same, StKV g c 0 0, rfl, (by show 4 ≤ 15; decide), ?_⟩
        rw [merge_st]
        refine k p g c _ ⟨0, 0, gs, cs, upd_same, ?_, ?_, hgc, Int.le_refl _, h2, Int.le_refl _, Int.le_refl _, by omega, by omega⟩ ?_ (s1.free hp) hg
        · rw [upd_ne hgp]
          exact s2 _ _ (by rw [upd_ne hgp]; exact h1)
        · rw [upd_ne hpc.symm]
          exact h4
        · intro b o e
          have hbp : b ≠ p := ne_of_none (s1 _ _ e) hp
          rw [upd_ne hbp]
          exact s2 _ _ (by rw [upd_ne hbp]; exact s1 _ _ e)
end
end K65

set_option Elab.async false
set_option linter.all false
set_option pp.maxSteps 700
set_option maxRecDepth 100000
set_option maxHeartbeats 2000000
namespace K65
open PySem PySem.Spec PyProof.Rows L2
open TL (tl)
open LamX (GivesTo CodeO Tabs TabS TabB tLam pe_lamcall lamCx lamEnv lamS_by ExtN)
abbrev sCgt : Stmt := top 29
/-! ### an error that was caught and is kept -/
def exh (a : Addr) (cls : Value) (d : Option Addr) : HO := .ext fun h => ∃ (oe : Obj) (vs : Array Value), h.get? a = some oe ∧ Zc cls d oe ∧ oe.data = .fields vs
theorem exh_ok {P : Program} {w : World} {H : Hp} {h : Heap} {a : Addr} {cls : Value} {d : Option Addr} {oe : Obj} {vs : Array Value} (e : h.get? a = some oe) (z : Zc cls d oe) (hd : oe.data = .fields vs) : ObjOk P w H h a (exh a cls d) :=
  ⟨⟨oe, vs, e, z, hd⟩, ⟨oe, e⟩, fun h1 h2 x k => by
    obtain ⟨o1, v1, e1, z1, d1⟩ := x
    exact ⟨o1, v1, k _ e1, z1, d1⟩⟩
theorem exh_at {P : Program} {w : World} {H : Hp} {h : Heap} {a : Addr} {cls : Value} {d : Option Addr} (hok : HOk P w H h) (e : H a = some (exh a cls d)) : ∃ (oe : Obj) (vs : Array Value), h.get? a = some oe ∧ Zc cls d oe ∧ oe.data = .fields vs := by
  have x : ObjOk P w H h a (.ext fun h => ∃ (oe : Obj) (vs : Array Value), h.get? a = some oe ∧ Zc cls d oe ∧ oe.data = .fields vs) := hok a _ e
  exact x.1
section
variable {X : Cx} {pins : List (Addr × Obj)} {σ : L2.St} {H : Hp} {s : Shared}
theorem inv_track {a : Addr} {oe : Obj} {vs : Array Value} {cls : Value} {d : Option Addr} (I : Inv X pins σ H s) (ha : s.heap.get? a = some oe) (hz : Zc cls d oe) (hd : oe.data = .fields vs) (na : H a = none)
    (n0 : X.s_0.heap.get? a = none) (nL : a ≠ X.env.locals) (np : ∀ p ∈ X.pn ++ pins, p.1 ≠ a) : Inv X pins σ (upd H a (exh a cls d)) s := by
  have nH : ∀ {b : Addr} {o : HO}, H b = some o → b ≠ a := fun {b o} e => ne_of_none e na
  refine ⟨I.ok, I.os, I.bare, ⟨I.base.keep, I.base.slot, ?_, I.base.there, ?_, ?_, ?_⟩, I.loc, I.cell, ?_, ?_, ?_, ?_, I.len⟩
  · intro b o q n hx
    have : b ≠ a := fun z => by rw [z, n0] at q; cases q
    rw [upd_ne this]
    exact I.base.free b o q n hx
  · intro b xs q
    have q1 := I.base.tups b xs q
    rw [upd_ne (nH q1)]
    exact q1
  · intro b o u q
    have q1 := I.base.frzs b o u q
    rw [upd_ne (nH q1)]
    exact q1
  · intro b ps q
    obtain ⟨more, q1⟩ := I.base.tbls b ps q
    exact ⟨more, by rw [upd_ne (nH q1)]; exact q1⟩
  · rw [upd_ne nL.symm]
    exact I.free
  · intro x c e
    obtain ⟨v, o, h1, h2⟩ := I.cell x c e
    have : c ≠ a := fun z => by
      rw [z, ha] at h1
      cases h1
      rw [hd] at h2
      cases h2
    rw [upd_ne this]
    exact I.freeC x c e
  · intro p hp
    obtain ⟨p1, p2, p3, p4, p5⟩ := I.pin p hp
    exact ⟨p1, by rw [upd_ne (np p hp)]; exact p2, p3, p4, p5⟩
  · intro b o e
    by_cases hb : b = a
    · subst hb
      rw [upd_same] at e
      cases e
      exact exh_ok ha hz hd
    · rw [upd_ne hb] at e
      exact (I.hok b o e).stay (fun c v _ q => q) (fun c q => by rw [upd_ne (nH q)]; exact q) fun c xs q => by rw [upd_ne (nH q)]; exact q
end
/-- try .. except x as n: the error stays known behind the suite -/
def wKp (K : PySem.W.Frag) (c : Value) (i : Nat) (ts : Addr → Value → Option Addr → TS) (Wout : WX) (D : Ends) : WX := fun cls d σ H =>
  ∃ b, PySem.W.exmOne K cls c = some b ∧ (b = true → ∀ a, H a = none → ts a cls d { nx := fun σ' H' => D.nx (σ'.set i none) (upd H' a (exh a cls d)), rt := fun v H' => D.rt v (upd H' a (exh a cls d)), bk := fun σ' H' => D.bk (σ'.set i none) (upd H' a (exh a cls d)), ct := fun σ' H' => D.ct (σ'.set i none) (upd H' a (exh a cls d)) } (σ.set i (some (.ref a))) H) ∧ (b = false → Wout cls d σ H)
section
variable {X : Cx} {x n : Str} {c : Value} {i : Nat} {body suite : List Stmt} {b₀ : Stmt} {np pos pos' : Pos} {tb : WX → TS} {ts : Addr → Value → Option Addr → TS} {Wout : WX}
theorem ps_try_keep (hs : X.stack = X.env :: X.outer) (hf : X.env.frame = some X.env.locals) (hex : X.ex = []) (hN : X.N.Nodup) (hi : X.N[i]? = some n) (hln : X.env.kindOf n = some .local) (hc : Names X x c) (tk : Takes X Wout)
    (hb : ∀ (W : WX) (pn : List (Addr × Obj)) (xe : Value → Shared → Prop), Takes (X.tr pn xe) W → PassesOwn (model X.prog X.w) X.A X.env xe → PSs (X.tr pn xe) body (tb W))
    (hsu : ∀ (a : Addr) (oe : Obj) (cls : Value) (d : Option Addr) (pn : List (Addr × Obj)), Zc cls d oe → (∃ vs, oe.data = .fields vs) → PSs (X.suite a ((a, oe) :: pn)) (b₀ :: suite) (ts a cls d)) :
    PS X (.Try body [.ExceptHandler (some (.Name x np)) (some n) (b₀ :: suite) pos'] [] [] pos) (fun D σ H => tb (wKp X.K c i ts Wout D) D σ H) := by
  refine ⟨fun pins s σ H D I h => ?_⟩
  have ok := I.ok
  have hfr : X.A.frames = some (X.env :: X.outer) := by rw [ok.frames, hs]
  have hloc : Loc X.env.scope n := .inl hln
  refine wpAny_Try_except ?_
  refine wpAny_mono ((hb (wKp X.K c i ts Wout D) (X.pn ++ pins) (fun e s₁ => wpAny (model X.prog X.w) X.A (noteFrame e X.env) (fun _ s₂ => wpAny (model X.prog X.w) X.A (setFlight e none) (fun _ s₃ =>
    wpAny (model X.prog X.w) X.A (handleBy e X.env [.ExceptHandler (some (.Name x np)) (some n) (b₀ :: suite) pos']) (SP X pins D) X.xe s₃) X.xe s₂) X.xe s₁) (fun u s' xx => ?_) PassesOwn.looking).run [] s σ H D (I.toTry _) h) (fun f s1 hsp => ?_) (fun e s1 he => he)
  · obtain ⟨a, B, sI, pins', σ', H', cls, d, rfl, J', nb, up, sky, na, os, ag, b, hb1, hyes, hno⟩ := xx
    have J : Inv X pins σ' H' sI := J'.ofTry ok
    have sky' : Sky B (X.env :: X.outer) a (Zc cls d) X.env.locals s'.heap := by rw [← hs]; exact sky
    show wpAny (model X.prog X.w) X.A (noteFrame (.ref a) X.env) _ _ _
    refine Sky.land Zc.steady hfr hf sky' fun h3 fl3 up3 => ?_
    have J3 : Inv X pins σ' H' { s' with heap := h3 } := J.landed nb fl3.1 (up.trans up3) os ag
    obtain ⟨oe3, vs3, he3, hz3, hd3⟩ := fl3.there
    have nfr : a ∉ frs (X.env :: X.outer) := fun hm => by
      obtain ⟨_, o', e', hnf⟩ := fl3.2.2.1.mem hm
      rw [he3] at e'; cases e'
      exact hnf _ hd3
    have nL : a ≠ X.env.locals := fun z => nfr (List.mem_filterMap.mpr ⟨X.env, List.mem_cons_self, by rw [hf, z]⟩)
    have nF : a ∉ X.fs := fun hm => by
      obtain ⟨e, he, q⟩ := List.mem_filterMap.mp hm
      exact nfr (List.mem_filterMap.mpr ⟨e, List.mem_cons_of_mem _ he, q⟩)
    have ba : B.get? a = none := fl3.2.1
    have nS : a ∉ frs X.stack := by rw [hs]; exact nfr
    -- the error is newer than the def's entry, and than all that is pinned
    have nI : sI.heap.get? a = none := by
      cases e : sI.heap.get? a with
      | none => rfl
      | some o =>
        have := nb a o e nS
        rw [ba] at this
        cases this
    have n0 : X.s_0.heap.get? a = none := by
      cases e : X.s_0.heap.get? a with
      | none => rfl
      | some o =>
        obtain ⟨o', e'⟩ := J.base.there a o e (by rw [hex]; exact List.not_mem_nil)
        rw [nI] at e'
        cases e'
    have npn : ∀ p ∈ X.pn ++ pins, p.1 ≠ a := fun p hp z => by
      have := (J.pin p hp).1
      rw [z, nI] at this
      cases this
    have S3 := J3.suite he3 hd3 na nL nF
    refine wpAny_handleBy_cons (codeAny_handlers_test ?_) (by intro q; cases q)
    have LT : PySem.W.Looks (model X.prog X.w) h3 (typeOf (.ref a)) cls := fun A Q E s k q => wpAny_typeOf_ref (k _ _ he3) (by rw [hz3.1]; exact q)
    have LM := PySem.W.exm_one (M := model X.prog X.w) (J3.kIn) LT hb1
    have test : ∀ {Q : Value → Shared → Prop} {E : Value → Shared → Prop}, Q c { s' with heap := h3 } → wpAny (model X.prog X.w) (X.A.mark (some (.ref a))) (eval (.Name x np) X.env) Q E { s' with heap := h3 } := fun {Q E} q => by
      obtain ⟨hg, hdbg, hm | ⟨hm, hv, hnn⟩⟩ := hc
      · exact ld_glob (X := X.suite a ((a, oe3) :: (X.pn ++ pins))) S3 hg hm q hdbg
      · exact ld_blt (X := X.suite a ((a, oe3) :: (X.pn ++ pins))) S3 hg hm hv q hnn hdbg
    refine test (LM.here ?_)
    cases b with
    | true =>
      refine codeAny_handlers_suite_as ?_
      refine HandSPX.lands_againZ fl3 fun h4 fl4 up4 => ?_
      have J4 : Inv X pins σ' H' { s' with heap := h4 } := J.landed nb fl4.1 ((up.trans up3).trans up4) os ag
      obtain ⟨oe4, vs4, he4, hz4, hd4⟩ := fl4.there
      have S4 := J4.suite he4 hd4 na nL nF
      refine store_ok (X := X.suite a ((a, oe4) :: (X.pn ++ pins))) (v := .ref a) S4 hN hi hloc rfl (fun s5 S5 => ?_) (.inr hln)
      refine wpAny_mono ((hsu a oe4 cls d (X.pn ++ pins) hz4 ⟨_, hd4⟩).run [] s5 _ H' _ S5 (hyes rfl a na)) (fun f s6 hsp => ?_) (fun _ _ z => False.elim z)
      have end_ : ∀ {σ6 : L2.St} {H6 : Hp} {Q : Shared → Prop}, Inv (X.suite a ((a, oe4) :: (X.pn ++ pins))) [] σ6 H6 s6 → (∀ s7, Inv X pins (σ6.set i none) (upd H6 a (exh a cls d)) s7 → Q s7) →
          wpAny (model X.prog X.w) X.A (do bindName X.env n .none; unbindBehindTheSuite X.env n pos') (fun _ s7 => Q s7) X.xe s6 := fun {σ6 H6 Q} S6 hq => by
        obtain ⟨g1, g2, _, _, _⟩ := S6.pin (a, oe4) (List.mem_append_left _ List.mem_cons_self)
        exact gone_ok (inv_track (S6.unsuite ok) g1 hz4 hd4 g2 n0 nL npn) hN hi hln hq
      cases f with
      | next =>
        obtain ⟨σ6, H6, S6, q6⟩ := hsp
        exact end_ S6 fun s7 J7 => ⟨_, _, J7, q6⟩
      | brk =>
        obtain ⟨σ6, H6, S6, q6⟩ := hsp
        exact end_ S6 fun s7 J7 => ⟨_, _, J7, q6⟩
      | cont =>
        obtain ⟨σ6, H6, S6, q6⟩ := hsp
        exact end_ S6 fun s7 J7 => ⟨_, _, J7, q6⟩
      | ret u =>
        obtain ⟨v6, σ6, H6, S6, r6, q6⟩ := hsp
        exact end_ S6 fun s7 J7 => ⟨_, _, _, J7, r6, q6⟩
    | false =>
      show wpAny _ X.A (handleBy (.ref a) X.env []) _ _ _
      refine wpAny_handleBy_nil ?_
      obtain ⟨k1, k2, k3, oe, vs, T, oT, ts', he, hz, hd, h1, hr⟩ := id fl3
      unfold PySem.passOn
      refine wpAny_bind (wpAny_field he hd h1 ?_)
      rw [if_neg (show ¬ ((Value.ref T == Value.none) = true) from by simp)]
      have fin : wpAny (model X.prog X.w) X.A (setFlight (.ref a) X.env.frame) (fun _ s4 => wpAny (model X.prog X.w) X.A (throw (.ref a) : Sem Flow) (SP X pins D) X.xe s4) X.xe { s' with heap := h3 } := by
        rw [hf]
        refine HandSPX.setFlight_upZ fl3 fun h4 hh4 up4 => wpAny_throw (tk _ _ ?_)
        exact ⟨a, B, sI, pins, σ', H', cls, d, rfl, J, nb, (up.trans up3).trans up4, .inr (.inr (by rw [hs]; exact hh4)), na, os, ag, hno rfl⟩
      first
        | exact wpAny_bind (wpAny_pure (wpAny_bind fin))
        | exact wpAny_bind fin
  · cases f with
    | next =>
      obtain ⟨σ', H', J', q⟩ := hsp
      exact wpAny_execs_nil ⟨σ', H', J'.ofTry ok, q⟩
    | brk =>
      obtain ⟨σ', H', J', q⟩ := hsp
      exact ⟨σ', H', J'.ofTry ok, q⟩
    | cont =>
      obtain ⟨σ', H', J', q⟩ := hsp
      exact ⟨σ', H', J'.ofTry ok, q⟩
    | ret u =>
      obtain ⟨v, σ', H', J', r, q⟩ := hsp
      exact ⟨v, σ', H', J'.ofTry ok, r, q⟩
end
/-! ### what is asked of a kept error -/
theorem exh_inst {X : Cx} {pins : List (Addr × Obj)} {σ : L2.St} {H : Hp} {s : Shared} {a D dd : Addr} {fs : List (Str × V)} (I : Inv X pins σ H s) (h1 : H a = some (exh a (.ref D) (some dd))) (h2 : H dd = some (.xd fs)) :
    ∃ (oe od : Obj) (mA : Str → Option Value), PySem.W.InstAt s.heap a oe D (some od) ∧ (∀ f, RelO (fs.lookup f) (mA f)) ∧ ∀ n, PySem.W.lookIn n od = some (mA n) := by
  obtain ⟨oe, vs, ha, hz, hd⟩ := exh_at I.hok h1
  have hx : ObjOk X.prog X.w H s.heap dd (.xd fs) := I.hok dd _ h2
  obtain ⟨mA, hns, hr⟩ := hx
  obtain ⟨od, ho, hl⟩ := lookIn_ns hns
  exact ⟨oe, od, mA, ⟨ha, hz.1, by unfold PySem.W.notCls; rw [hd] <;> rfl, by rw [hz.2]; exact ho⟩, hr, hl⟩
/-- isinstance(e, c), e a kept error of the class at D -/
def rIsH (K : PySem.W.Frag) (D : Addr) : List V → Hp → VK → Prop := fun xs H Q => ∃ (a dd : Addr) (fs : List (Str × V)) (c : V) (cv : Value) (b : Bool), xs = [.ref a, c] ∧ (∀ u, RelV c u → u = cv) ∧ H a = some (exh a (.ref D) (some dd)) ∧ H dd = some (.xd fs) ∧
  PySem.W.kitOne K (.ref D) cv = some b ∧ Q (.bl b) H
theorem call_isH {X : Cx} {D : Addr} (C : ExcC X.K D) : CallR X (.builtin "isinstance") (rIsH X.K D) := by
  intro pins s σ H xs us Q I r h
  obtain ⟨a, dd, fs, c, cv, b, rfl, hcv, h1, h2, e, q⟩ := h
  obtain ⟨u1, u2, rfl, r1, r2⟩ := vals2 r
  cases r1
  have ec := hcv _ r2
  subst ec
  obtain ⟨oe, od, mA, J, _, _⟩ := exh_inst I h1 h2
  have hcl : (PySem.W.clsIn X.K D).isSome = true := by
    obtain ⟨cd, hc, _⟩ := PySem.W.any_some C.hd
    rw [hc]
    rfl
  exact PySem.W.kia_one (PySem.W.kitx_exc hcl C.hg C.hk C.hs C.ha C.hn C.ht C.hm) I.kIn J e (fun z => nomatch z) fun tk => ⟨.bl b, H, I.kept (t' := tk) fun _ _ z => z, rfl, q⟩
theorem pss_len {X : Cx} {body : List Stmt} {t : TS} {n : Nat} (h : PSs X body t) (hn : X.N.length = n) : PSs X body (fun D σ H => σ.length = n → t D σ H) :=
  ⟨fun pins s σ H D I hh => h.run pins s σ H D I (hh (I.len.trans hn))⟩
theorem pe_weak {X : Cx} {e : Expr} {te : TE} (he : PE X e te) : PE X e (fun σ H Q => ∃ Qc : VK, te σ H Qc ∧ ∀ v H1, Qc v H1 → Q v H1) := by
  refine ⟨fun pins s σ H Q I h => ?_⟩
  obtain ⟨Qc, h, k⟩ := h
  exact thn (he.run pins s σ H Qc I h) fun u s1 ⟨v, H1, I1, r, q⟩ => ⟨v, H1, I1, r, k v H1 q⟩
/-- f(k = v, ..) -/
theorem pe_callK0 {X : Cx} {CX : CXT} {k : Nat} {f : Addr} {fd : FuncData} {ps ks : List Str} {sp : Sp} {E : XK} {x : Str} {p pos : Pos} {kws : List Keyword} {tk : TA} {g : List Value → List Value → List Value} {gV : List V → List V → List V}
    (F : FnOk X.prog X.w X.K X.mg X.base CX k f fd ps sp) (hr : Room k X.A) (hg : Gl X x) (hm : X.mg x = some (.ref f)) (hk : PySem.W.keepIn X.K (.ref f) = true) (hb : KBinds X.K fd ps ks g gV) (hx : Passes CX X E)
    (hkw : PK X kws tk) (hall : (backToKw pos (keywordEach kws X.env)).all (·.1.isSome) = true := by rfl) (hks : (backToKw pos (keywordEach kws X.env)).filterMap (·.1) = ks := by rfl)
    (hdb : (x == ("__debug__" : Str)) = false := by decide) (hpl : ((backTo pos (starEach [] X.env)).any (·.1) || (backToKw pos (keywordEach kws X.env)).any (·.1.isNone)) = false := by rfl) :
    PE X (.Call (.Name x p) [] kws pos) (fun σ H Q => tk σ H fun zs H2 => sp (gV [] zs) H2 Q E) := by
  refine ⟨fun pins s σ H Q I h => ?_⟩
  refine wpAny_Call_Name_kw (ld_glob I hg hm ?_ hdb)
  refine PySem.W.callWith_KW0 (h₀ := X.base) I.ok.mod.kin hk hall ?_ hpl
  refine thn (hkw.run pos pins s σ H _ I h) fun ws s2 ⟨zs, H2, I2, rz, q2⟩ => ⟨I2.kIn, ?_⟩
  rw [hks]
  exact run_fnk F hr hb hx I2 .nil rz q2
/-- _law_caught(action): what the call raises, kept; or None -/
def TTc (K : PySem.W.Frag) (CE : Addr) : (XK → Hp → VK → Prop) → Hp → VK → Prop := fun tl H Q =>
  tl (fun cls d H1 => ∃ b, PySem.W.exmOne K cls (.ref CE) = some b ∧ (b = true → ∀ a, H1 a = none → Q (.ref a) (upd H1 a (exh a cls d))) ∧ (b = false → False)) H (fun _ H1 => Q .non H1)
abbrev NC : List Str := ["action", "found", "error"]
theorem scC : FnScope NC ["action"] (defScope sCgt) := ⟨rfl, rfl, rfl, by decide +kernel, rfl, by decide +kernel, by decide +kernel⟩
theorem caught_gives {X : Cx} {CE g : Addr} {cdg : Value} {q : Str} (hme : X.mg "ClockError" = some (.ref CE)) : GivesTo X NC "_law_caught" (defScope sCgt) g cdg (defBody sCgt) "action" q (TTc X.K CE) := by
  intro f c' s H Q tl act hc h
  refine ⟨_, pss_cons (ps_set (i := 1) scC.nd rfl (Or.inl rfl) pe_non)
    (pss_cons (ps_try_keep (X := (cxOf C8.CX0 X.prog X.w X.K X.mg X.base NC "_law_caught" (defScope sCgt) g cdg X.A X.stack s H C8.E0).nox) (c := .ref CE) (i := 2)
      (tb := fun W D σ H => ∃ (Ech : XK) (Qc : VK), (∀ cls d σ' H', Ech cls d H' → W cls d σ' H') ∧ σ[0]? = some (some (.ref f)) ∧ H c' = some (CodeO c' q) ∧ tl Ech H Qc ∧ ∀ v H1, Qc v H1 → D.nx σ H1)
      rfl rfl rfl scC.nd rfl rfl ⟨rfl, rfl, .inl hme⟩ takes0 (fun W pn xe tk _ => ?_) (fun a oe cls d pn _ _ => pss_len (X := Cx.suite (cxOf C8.CX0 X.prog X.w X.K X.mg X.base NC "_law_caught" (defScope sCgt) g cdg X.A X.stack s H C8.E0).nox a ((a, oe) :: pn)) (n := 3) (pss_one (ps_set (i := 1) scC.nd rfl (Or.inl rfl) (pv 2))) rfl))
    (pss_one (ps_ret (pv 1)))), ?_⟩
  · refine ⟨fun pins s' σ H' D I h' => ?_⟩
    obtain ⟨Ech, Qc, hW, h1, h2, h3, h4⟩ := h'
    have hp := fun p1 p2 => act W pn xe Ech p1 p2 tk hW
    exact (pss_one (ps_expr (pe_weak (hp _ _)))).run pins s' σ H' D I ⟨Qc, ⟨h1, h2, h3⟩, h4⟩
  · refine ⟨_, _, ?_, rfl, hc, h, fun v H1 q => ⟨_, rfl, q⟩⟩
    rintro cls d σ' H' ⟨b, e1, e2, e3⟩
    refine ⟨b, e1, fun hb a ha hl => ?_, fun hb => (e3 hb).elim⟩
    match σ', hl with
    | [x, y, z], _ => exact ⟨_, rfl, _, rfl, e2 hb a ha⟩
    | [], hl => simp at hl
    | [_], hl => simp at hl
    | [_, _], hl => simp at hl
    | _ :: _ :: _ :: _ :: _, hl => simp at hl
end K65

set_option Elab.async false
set_option linter.all false
set_option pp.maxSteps 700
set_option maxRecDepth 100000
set_option maxHeartbeats 2000000
namespace K65
open PySem PySem.Spec PyProof.Rows L2
open TL (tl)
/-! ### any value that the law makes, as data -/
inductive Dt where
  | non | bl (b : Bool) | int (i : Int) | str (s : Str) | lst (l : List Dt) | tup (l : List Dt) | dic
mutual
inductive DV (g : Addr) (H : Hp) : V → Dt → Prop
  | non : DV g H .non .non
  | bl (b : Bool) : DV g H (.bl b) (.bl b)
  | int (i : Int) : DV g H (.int i) (.int i)
  | str {s : Str} (h : s.length ≤ 10000) : DV g H (.str s) (.str s)
  | lst {a : Addr} {xs : List V} {ds : List Dt} (e : H a = some (.lst xs)) (n : a ≠ g) (h : ds.length ≤ 20000) (r : DVs g H xs ds) : DV g H (.ref a) (.lst ds)
  | tup {a : Addr} {xs : List V} {ds : List Dt} (e : H a = some (.tup xs)) (h : ds.length ≤ 20000) (r : DVs g H xs ds) : DV g H (.ref a) (.tup ds)
  | dic {a : Addr} (e : H a = some (.dK [])) : DV g H (.ref a) .dic
inductive DVs (g : Addr) (H : Hp) : List V → List Dt → Prop
  | nil : DVs g H [] []
  | cons {v : V} {vs : List V} {d : Dt} {ds : List Dt} (h : DV g H v d) (r : DVs g H vs ds) : DVs g H (v :: vs) (d :: ds)
end
structure Kv (g : Addr) (H H' : Hp) : Prop where
  lst : ∀ b xs, H b = some (.lst xs) → b ≠ g → H' b = some (.lst xs)
  tup : ∀ b xs, H b = some (.tup xs) → H' b = some (.tup xs)
  dic : ∀ b, H b = some (.dK []) → H' b = some (.dK [])
theorem Kv.of {g : Addr} {H H' : Hp} (s : Same H H') : Kv g H H' := ⟨fun b xs e _ => s _ _ e, fun b xs e => s _ _ e, fun b e => s _ _ e⟩
theorem Kv.trans {g : Addr} {H H1 H2 : Hp} (a : Kv g H H1) (b : Kv g H1 H2) : Kv g H H2 := ⟨fun c xs e n => b.lst _ _ (a.lst _ _ e n) n, fun c xs e => b.tup _ _ (a.tup _ _ e), fun c e => b.dic _ (a.dic _ e)⟩
theorem Kv.kp {g d c : Addr} {H H' : Hp} {n : Nat} (S : StA H d g c n) (k : Kp d g H H') : Kv g H H' := by
  obtain ⟨r, t, gs, cs, S⟩ := S
  refine ⟨fun b xs e n => k _ _ e (fun z => ?_) n, fun b xs e => k _ _ e (fun z => ?_) (fun z => ?_), fun b e => k _ _ e (fun z => ?_) (fun z => ?_)⟩
  · rw [z, S.dk] at e
    cases e
  · rw [z, S.dk] at e
    cases e
  · rw [z, S.gl] at e
    cases e
  · rw [z, S.dk] at e
    have q := Option.some.inj e
    unfold StKV at q
    cases q
  · rw [z, S.gl] at e
    cases e
mutual
theorem DV.keep {g : Addr} {H H' : Hp} (k : Kv g H H') : ∀ {v : V} {d : Dt}, DV g H v d → DV g H' v d
  | _, _, .non => .non
  | _, _, .bl b => .bl b
  | _, _, .int i => .int i
  | _, _, .str h => .str h
  | _, _, .lst e n h r => .lst (k.lst _ _ e n) n h (DVs.keep k r)
  | _, _, .tup e h r => .tup (k.tup _ _ e) h (DVs.keep k r)
  | _, _, .dic e => .dic (k.dic _ e)
theorem DVs.keep {g : Addr} {H H' : Hp} (k : Kv g H H') : ∀ {v : List V} {d : List Dt}, DVs g H v d → DVs g H' v d
  | _, _, .nil => .nil
  | _, _, .cons h r => .cons (DV.keep k h) (DVs.keep k r)
end
theorem DVs.len {g : Addr} {H : Hp} : ∀ {xs : List V} {ds : List Dt}, DVs g H xs ds → xs.length = ds.length
  | _, _, .nil => rfl
  | _, _, .cons _ r => congrArg (· + 1) r.len
theorem DVs.at_ {g : Addr} {H : Hp} : ∀ {xs : List V} {ds : List Dt}, DVs g H xs ds → ∀ {i : Nat} {v : V}, xs[i]? = some v → ∃ d, ds[i]? = some d ∧ DV g H v d
  | _, _, .nil, _, _, e => by cases e
  | _, _, .cons h r, 0, _, e => by
    obtain rfl := Option.some.inj e
    exact ⟨_, rfl, h⟩
  | _, _, .cons h r, i + 1, _, e => r.at_ (i := i) e
theorem DVs.at' {g : Addr} {H : Hp} : ∀ {xs : List V} {ds : List Dt}, DVs g H xs ds → ∀ {i : Nat} {d : Dt}, ds[i]? = some d → ∃ v, xs[i]? = some v ∧ DV g H v d
  | _, _, .nil, _, _, e => by cases e
  | _, _, .cons h r, 0, _, e => by
    obtain rfl := Option.some.inj e
    exact ⟨_, rfl, h⟩
  | _, _, .cons h r, i + 1, _, e => r.at' (i := i) e
theorem DVs.app {g : Addr} {H : Hp} : ∀ {xs ys : List V} {ds es : List Dt}, DVs g H xs ds → DVs g H ys es → DVs g H (xs ++ ys) (ds ++ es)
  | _, _, _, _, .nil, q => q
  | _, _, _, _, .cons h r, q => .cons h (r.app q)
def isStr : Dt → Bool | .str _ => true | _ => false
def isTup : Dt → Bool | .tup _ => true | _ => false
def isBl : Dt → Bool | .bl _ => true | _ => false
def isInt : Dt → Bool | .int _ => true | _ => false
theorem DV.ty {K : PySem.W.Frag} {g : Addr} {H : Hp} {v : V} {d : Dt} (h : DV g H v d) : ∃ t, TyX K H v t ∧ PySem.W.kitOne K t (.type "str") = some (isStr d) ∧ PySem.W.kitOne K t (.type "tuple") = some (isTup d) ∧
    PySem.W.kitOne K t (.type "bool") = some (isBl d) ∧ PySem.W.kitOne K t (.type "int") = some (isInt d || isBl d) := by
  cases h with
  | non => exact ⟨_, .base .non, kit_ty (show kitB "NoneType" "str" = some false by decide +kernel), kit_ty (show kitB "NoneType" "tuple" = some false by decide +kernel), kit_ty (show kitB "NoneType" "bool" = some false by decide +kernel), kit_ty (show kitB "NoneType" "int" = some false by decide +kernel)⟩
  | bl b => exact ⟨_, .base (.bl _), kit_ty (show kitB "bool" "str" = some false by decide +kernel), kit_ty (show kitB "bool" "tuple" = some false by decide +kernel), kit_ty (show kitB "bool" "bool" = some true by decide +kernel), kit_ty (show kitB "bool" "int" = some true by decide +kernel)⟩
  | int i => exact ⟨_, .base (.int _), kit_ty (show kitB "int" "str" = some false by decide +kernel), kit_ty (show kitB "int" "tuple" = some false by decide +kernel), kit_ty (show kitB "int" "bool" = some false by decide +kernel), kit_ty (show kitB "int" "int" = some true by decide +kernel)⟩
  | str h => exact ⟨_, .base (.str _), kit_ty (show kitB "str" "str" = some true by decide +kernel), kit_ty (show kitB "str" "tuple" = some false by decide +kernel), kit_ty (show kitB "str" "bool" = some false by decide +kernel), kit_ty (show kitB "str" "int" = some false by decide +kernel)⟩
  | lst e n h r => exact ⟨_, .base (.lst e), kit_ty (show kitB "list" "str" = some false by decide +kernel), kit_ty (show kitB "list" "tuple" = some false by decide +kernel), kit_ty (show kitB "list" "bool" = some false by decide +kernel), kit_ty (show kitB "list" "int" = some false by decide +kernel)⟩
  | tup e h r => exact ⟨_, .base (.tup e), kit_ty (show kitB "tuple" "str" = some false by decide +kernel), kit_ty (show kitB "tuple" "tuple" = some true by decide +kernel), kit_ty (show kitB "tuple" "bool" = some false by decide +kernel), kit_ty (show kitB "tuple" "int" = some false by decide +kernel)⟩
  | dic e => exact ⟨_, .base (.dK e), kit_ty (show kitB "dict" "str" = some false by decide +kernel), kit_ty (show kitB "dict" "tuple" = some false by decide +kernel), kit_ty (show kitB "dict" "bool" = some false by decide +kernel), kit_ty (show kitB "dict" "int" = some false by decide +kernel)⟩
/-! ### any value == a text -/
section
open PySem.SeqAt
variable {s : Shared}
theorem dict_eq_str_no (l : Addr) (c : Value) (es : Array DictEntry) (n : Nat) (dd : Option Addr) (sl : Array (Option Value)) (b : Str) (u : PySem.Tok) :
    Meets (Builtin.«dict.__eq__» ⟨[.ref l, .str b u], []⟩) (fun _ R s => c = .type "dict" ∧ s.heap.get? l = some { cls := c, dict := dd, data := .dict es n, slots := sl } ∧ R (.ok (.ret .notImplemented)) s) :=
  .of_wp fun prog w A R s h => by obtain ⟨hp, g, d, tk, os⟩ := s; obtain ⟨rfl, ho, h⟩ := h; have f1 := PySem.F.sub_str_dict; wp_walk using wpAny_loadPart' ho; exact ⟨_, rfl, h⟩
theorem str_eq_dict_no (b : Str) (u : PySem.Tok) (l : Addr) (c : Value) (es : Array DictEntry) (n : Nat) (dd : Option Addr) (sl : Array (Option Value)) :
    Meets (Builtin.«str.__eq__» ⟨[.str b u, .ref l], []⟩) (fun _ R s => s.heap.get? l = some { cls := c, dict := dd, data := .dict es n, slots := sl } ∧ R (.ok (.ret .notImplemented)) s) :=
  .of_wp fun prog w A R s h => by obtain ⟨hp, g, d, tk, os⟩ := s; obtain ⟨ho, h⟩ := h; wp_walk using wpAny_loadPart' ho, wpAny_load ho; exact ⟨_, rfl, h⟩
theorem rc_dict_str {A : Around} {l : Addr} {c : Value} {es : Array DictEntry} {n : Nat} {dd : Option Addr} {sl : Array (Option Value)} (b : Str) (u : PySem.Tok) (hc : c = .type "dict") (ho : s.heap.get? l = some { cls := c, dict := dd, data := .dict es n, slots := sl }) (hu : A.units < cLine) :
    RcAt A s (.ref l) (.str b u) false := by
  intro prog w E Q h
  exact rc_eq_decline_or (k := false) ⟨_, ho, hc⟩ (typeIs_str s b u) (by decide) PySem.F.sub_str_dict PySem.F.slot_dict_eq PySem.F.slot_str_eq_refl
    (fun _ q => call_meets PySem.F.slot_dict_eq ⟨_, ho, hc⟩ PySem.F.entry_dict_eq (PySem.F.args_dict_eq_2 _ _) (dict_eq_str_no l c es n dd sl b u) ⟨hc, ho, q⟩)
    (fun _ q => call_meets PySem.F.slot_str_eq_refl (typeIs_str s b u) PySem.F.entry_str_eq (PySem.F.args_str_eq_2 _ _) (str_eq_dict_no b u l c es n dd sl) ⟨ho, q⟩)
    (fun _ q => wpAny_of_eq (rfl : isSame (.ref l) (.str b u) = pure false) q) (.inr hu) h
end
def eqS (d : Dt) (z : Str) : Bool := match d with
  | .str s => s == z
  | _ => false
section
variable {X : Cx}
theorem op_eqS (hu : X.A.units + 64 < cLine) : OpR X (compareOp .Eq) (fun x y H Q => ∃ (g : Addr) (d : Dt) (z : Str), y = .str z ∧ DV g H x d ∧ Q (.bl (eqS d z)) H) := by
  intro pins s σ H x y v u Q I rx ry h
  obtain ⟨g, d, z, rfl, hd, q⟩ := h
  obtain ⟨tz, rfl⟩ := (show ∃ t, u = Value.str z t from ry)
  have hu' : X.A.units < cLine := by omega
  cases hd with
  | non =>
    cases (show v = Value.none from rx)
    exact SeqAt.RcAt.none_str z tz _ _ _ _ (fin_bl I q rfl)
  | bl b =>
    cases (show v = Value.bool b from rx)
    exact SeqAt.RcAt.bool_str b z tz _ _ _ _ (fin_bl I q rfl)
  | int i =>
    obtain ⟨ti, rfl⟩ := (show ∃ t, v = Value.int i t from rx)
    exact SeqAt.RcAt.int_str i ti z tz _ _ _ _ (fin_bl I q rfl)
  | @str b hb =>
    obtain ⟨ti, rfl⟩ := (show ∃ t, v = Value.str b t from rx)
    exact SeqAt.RcAt.str_str b ti z tz _ _ _ _ (fin_bl I q rfl)
  | @lst a xs ds e n h r =>
    cases (show v = Value.ref a from rx)
    obtain ⟨us, r1, p1, _⟩ := I.list (SqL.of e : SqL X.K H a xs)
    exact SeqAt.RcAt.list_str z tz p1.isList hu' _ _ _ _ (fin_bl I q rfl)
  | @tup a xs ds e h r =>
    cases (show v = Value.ref a from rx)
    obtain ⟨us, r1, p1, _⟩ := I.tuple (SqT.of e : SqT X.K H a xs)
    exact SeqAt.RcAt.tuple_str z tz p1 hu' _ _ _ _ (fin_bl I q rfl)
  | @dic a e =>
    cases (show v = Value.ref a from rx)
    obtain ⟨_, _, _, _, o, es, ep, ho, hx, hd, _⟩ := (show ObjOk X.prog X.w H s.heap a (.dK []) from I.hok a _ e)
    obtain ⟨oc, od, odt, osl⟩ := o
    cases (show odt = .dict es ep from hd)
    exact rc_dict_str z tz hx.1 ho hu' _ _ _ _ (fin_bl I q rfl)
end
end K65

set_option Elab.async false
set_option linter.all false
set_option pp.maxSteps 700
set_option maxRecDepth 100000
set_option maxHeartbeats 2000000
namespace K65
open PySem PySem.Spec PyProof.Rows L2
open TL (tl)
abbrev sWhl : Stmt := top 7
abbrev sWin : Stmt := top 8
abbrev sTof : Stmt := top 9
abbrev sTin : Stmt := top 10



def lenIs (n : Nat) : Dt → Bool | .tup l => decide (l.length = n) | _ => false
def lenIn (lo hi : Int) : Dt → Bool | .tup l => decide (lo ≤ (l.length : Int)) && decide ((l.length : Int) ≤ hi) | _ => false
def intIn (lo hi : Int) : Dt → Bool | .int i => decide (lo ≤ i) && decide (i ≤ hi) | _ => false
/-- a question about any value -/
def spAsk (f : Dt → Bool) : Sp := fun vs H Q _ => ∃ (g : Addr) (v : V) (d : Dt), vs = [v] ∧ DV g H v d ∧ ∀ H', Same H H' → Q (.bl (f d)) H'
def spWin : Sp := fun vs H Q _ => ∃ (g : Addr) (v : V) (d : Dt) (lo hi : Int), vs = [v, .int lo, .int hi] ∧ DV g H v d ∧ ∀ H', Same H H' → Q (.bl (intIn lo hi d)) H'
def spTof : Sp := fun vs H Q _ => ∃ (g : Addr) (v : V) (d : Dt) (n : Nat), vs = [v, .int (n : Nat)] ∧ DV g H v d ∧ ∀ H', Same H H' → Q (.bl (lenIs n d)) H'
def spTin : Sp := fun vs H Q _ => ∃ (g : Addr) (v : V) (d : Dt) (lo hi : Int), vs = [v, .int lo, .int hi] ∧ DV g H v d ∧ ∀ H', Same H H' → Q (.bl (lenIn lo hi d)) H'
structure MgP (K : PySem.W.Frag) (mg : Str → Option Value) (fWhl : Addr) : Prop where
  whl : mg "is_whole" = some (.ref fWhl)
  kwhl : PySem.W.keepIn K (.ref fWhl) = true
  isi : mg "isinstance" = none
  len : mg "len" = none
  int : mg "int" = none
  bol : mg "bool" = none
  tpl : mg "tuple" = none
section
variable {P : Program} {w : World} {K : PySem.W.Frag} {mg : Str → Option Value} {base : Heap}
theorem scWhl : FnScope ["value"] ["value"] (defScope sWhl) := ⟨rfl, rfl, rfl, by decide +kernel, rfl, by decide +kernel, by decide +kernel⟩
theorem ok_whl {f fW : Addr} {fd : FuncData} (F : Fun K "is_whole" "is_whole" sWhl f fd) (T : MgP K mg fW) : FnOk P w K mg base CX0 1 f fd ["value"] (spAsk isInt) := by
  refine F.ok scWhl (fun vs H Q E h => ?_) (fun cdv A outer s H vs Q E hr h => ?_)
  · obtain ⟨g, v, d, rfl, _⟩ := h
    rfl
  · obtain ⟨g, v, d, rfl, hd, k⟩ := h
    obtain ⟨t, ht, k1, k2, k3, k4⟩ := hd.ty (K := K)
    refine ⟨_, pss_one (ps_ret (pe_and (pe_callB call_isi (by rfl) T.isi (by decide +kernel) (pa_cons (pv 0) (pa_cons (pe_bltn (v := .ty "int") (by rfl) T.int boot_int rfl) pa_nil)))
      (pe_one (pe_not (pe_callB call_isi (by rfl) T.isi (by decide +kernel) (pa_cons (pv 0) (pa_cons (pe_bltn (v := .ty "bool") (by rfl) T.bol boot_bool rfl) pa_nil))))))), ?_⟩
    refine ⟨_, rfl, _, _, _, _, _, rfl, .ty "int", ht, k4, _, rfl, ?_⟩
    cases d with
    | int i => exact iteT ⟨_, rfl, _, _, _, _, _, rfl, .ty "bool", ht, k3, _, rfl, k H (Same.refl H)⟩
    | bl b => exact iteT ⟨_, rfl, _, _, _, _, _, rfl, .ty "bool", ht, k3, _, rfl, k H (Same.refl H)⟩
    | non => exact iteF (k H (Same.refl H))
    | str s => exact iteF (k H (Same.refl H))
    | lst l => exact iteF (k H (Same.refl H))
    | tup l => exact iteF (k H (Same.refl H))
    | dic => exact iteF (k H (Same.refl H))
theorem scWin : FnScope ["value", "low", "high"] ["value", "low", "high"] (defScope sWin) := ⟨rfl, rfl, rfl, by decide +kernel, rfl, by decide +kernel, by decide +kernel⟩
theorem ok_win {f fW : Addr} {fd fdW : FuncData} (F : Fun K "is_within" "is_within" sWin f fd) (T : MgP K mg fW) (FW : Fun K "is_whole" "is_whole" sWhl fW fdW) (bW : L2.Binds K fdW ["value"] []) : FnOk P w K mg base CX0 2 f fd ["value", "low", "high"] spWin := by
  have GW : FnOk P w K mg base CX0 1 fW fdW ["value"] (spAsk isInt) := ok_whl FW T
  refine F.ok scWin (fun vs H Q E h => ?_) (fun cdv A outer s H vs Q E hr h => ?_)
  · obtain ⟨g, v, d, lo, hi, rfl, _⟩ := h
    rfl
  · obtain ⟨g, v, d, lo, hi, rfl, hd, k⟩ := h
    refine ⟨_, pss_one (ps_ret (pe_and (pe_call GW hr (by rfl) T.whl T.kwhl bW .nil pass0 (pa_cons (pv 0) pa_nil)) (pe_one (pe_chain op_le op_le (pv 1) (pv 0) (pv 2))))), ?_⟩
    refine ⟨_, rfl, g, v, d, rfl, hd, fun H' s => ⟨_, rfl, ?_⟩⟩
    cases hd with
    | int i =>
      refine iteT ⟨_, rfl, _, rfl, _, _, rfl, rfl, _, rfl, ?_⟩
      have e : intIn lo hi (.int i) = (decide (lo ≤ i) && decide (i ≤ hi)) := rfl
      by_cases h1 : lo ≤ i
      · rw [decide_eq_true h1] at e ⊢
        refine iteT ⟨_, rfl, _, _, rfl, rfl, ?_⟩
        have q := k H' s
        rw [e] at q
        exact q
      · rw [decide_eq_false h1] at e ⊢
        refine iteF ?_
        have q := k H' s
        rw [e] at q
        exact q
    | bl b => exact iteF (k H' s)
    | non => exact iteF (k H' s)
    | str z => exact iteF (k H' s)
    | lst _ _ _ _ => exact iteF (k H' s)
    | tup _ _ _ => exact iteF (k H' s)
    | dic _ => exact iteF (k H' s)
theorem scTof : FnScope ["value", "many"] ["value", "many"] (defScope sTof) := ⟨rfl, rfl, rfl, by decide +kernel, rfl, by decide +kernel, by decide +kernel⟩
theorem ok_tof {f fW : Addr} {fd : FuncData} (F : Fun K "is_tuple_of" "is_tuple_of" sTof f fd) (T : MgP K mg fW) : FnOk P w K mg base CX0 1 f fd ["value", "many"] spTof := by
  refine F.ok scTof (fun vs H Q E h => ?_) (fun cdv A outer s H vs Q E hr h => ?_)
  · obtain ⟨g, v, d, n, rfl, _⟩ := h
    rfl
  · obtain ⟨g, v, d, n, rfl, hd, k⟩ := h
    obtain ⟨t, ht, k1, k2, k3, k4⟩ := hd.ty (K := K)
    refine ⟨_, pss_one (ps_ret (pe_and (pe_callB call_isi (by rfl) T.isi (by decide +kernel) (pa_cons (pv 0) (pa_cons (pe_bltn (v := .ty "tuple") (by rfl) T.tpl boot_tuple rfl) pa_nil)))
      (pe_one (pe_cmpR op_eq (pe_callB call_len_seq (by rfl) T.len PySem.boot_len (pa_cons (pv 0) pa_nil)) (pv 1) (nomark _))))), ?_⟩
    refine ⟨_, rfl, _, _, _, _, _, rfl, .ty "tuple", ht, k2, _, rfl, ?_⟩
    cases hd with
    | @tup a xs ds e h r =>
      refine iteT ⟨_, rfl, a, xs, rfl, .inr (SqT.of e), _, rfl, rfl, ?_⟩
      have q := k H (Same.refl H)
      have e2 : decide (V.int (xs.length : Nat) = V.int (n : Nat)) = lenIs n (.tup ds) := by
        rw [r.len]
        show _ = decide (ds.length = n)
        rw [decide_eq_decide]
        exact ⟨fun z => by injection z with z; omega, fun z => by rw [z]⟩
      rw [e2]
      exact q
    | int i => exact iteF (k H (Same.refl H))
    | bl b => exact iteF (k H (Same.refl H))
    | non => exact iteF (k H (Same.refl H))
    | str z => exact iteF (k H (Same.refl H))
    | lst _ _ _ _ => exact iteF (k H (Same.refl H))
    | dic _ => exact iteF (k H (Same.refl H))
theorem scTin : FnScope ["value", "low", "high"] ["value", "low", "high"] (defScope sTin) := ⟨rfl, rfl, rfl, by decide +kernel, rfl, by decide +kernel, by decide +kernel⟩
theorem ok_tin {f fW : Addr} {fd : FuncData} (F : Fun K "is_tuple_within" "is_tuple_within" sTin f fd) (T : MgP K mg fW) : FnOk P w K mg base CX0 1 f fd ["value", "low", "high"] spTin := by
  refine F.ok scTin (fun vs H Q E h => ?_) (fun cdv A outer s H vs Q E hr h => ?_)
  · obtain ⟨g, v, d, lo, hi, rfl, _⟩ := h
    rfl
  · obtain ⟨g, v, d, lo, hi, rfl, hd, k⟩ := h
    obtain ⟨t, ht, k1, k2, k3, k4⟩ := hd.ty (K := K)
    refine ⟨_, pss_one (ps_ret (pe_and (pe_callB call_isi (by rfl) T.isi (by decide +kernel) (pa_cons (pv 0) (pa_cons (pe_bltn (v := .ty "tuple") (by rfl) T.tpl boot_tuple rfl) pa_nil)))
      (pe_one (pe_chain op_le op_le (pv 1) (pe_callB call_len_seq (by rfl) T.len PySem.boot_len (pa_cons (pv 0) pa_nil)) (pv 2))))), ?_⟩
    refine ⟨_, rfl, _, _, _, _, _, rfl, .ty "tuple", ht, k2, _, rfl, ?_⟩
    cases hd with
    | @tup a xs ds e h r =>
      refine iteT ⟨_, rfl, _, rfl, a, xs, rfl, .inr (SqT.of e), _, _, rfl, rfl, _, rfl, ?_⟩
      have q := k H (Same.refl H)
      have e2 : lenIn lo hi (.tup ds) = (decide (lo ≤ (xs.length : Int)) && decide ((xs.length : Int) ≤ hi)) := by
        rw [r.len]
        rfl
      rw [e2] at q
      by_cases h1 : lo ≤ (xs.length : Int)
      · rw [decide_eq_true h1] at q ⊢
        exact iteT ⟨_, rfl, _, _, rfl, rfl, q⟩
      · rw [decide_eq_false h1] at q ⊢
        exact iteF q
    | int i => exact iteF (k H (Same.refl H))
    | bl b => exact iteF (k H (Same.refl H))
    | non => exact iteF (k H (Same.refl H))
    | str z => exact iteF (k H (Same.refl H))
    | lst _ _ _ _ => exact iteF (k H (Same.refl H))
    | dic _ => exact iteF (k H (Same.refl H))
end
end K65

set_option Elab.async false
set_option linter.all false
set_option pp.maxSteps 700
set_option maxRecDepth 100000
set_option maxHeartbeats 2000000
namespace K65
open PySem PySem.Spec PyProof.Rows L2
open TL (tl)
theorem freshF {H H1 : Hp} {o : Addr} {u : HO} (ho : H o = none) (e : upd H o u = H1) : Same H H1 ∧ H1 o = some u := by
  subst e
  exact ⟨same_new ho, upd_same⟩

theorem dpStrs {K : PySem.W.Frag} {H : Hp} : ∀ gs : List Str, DpAll K H (gs.map V.str) (gs.map PyData.str)
  | [] => .nil
  | x :: r => .cons (.str x) (dpStrs r)
theorem layStrs : ∀ gs : List Str, (∀ x ∈ gs, PyData.strOk x = true) → PyData.canLayAll0 (gs.map PyData.str) = true
  | [], _ => rfl
  | x :: r, h => by
    show (PyData.strOk x && PyData.canLayAll0 (r.map PyData.str)) = true
    rw [layStrs r fun y hy => h y (List.mem_cons_of_mem _ hy), h x List.mem_cons_self]
    rfl
theorem depStrs : ∀ gs : List Str, PyData.depthAll (gs.map PyData.str) = 0
  | [] => rfl
  | x :: r => by
    show max 0 (PyData.depthAll (r.map PyData.str)) = 0
    rw [depStrs r]
    rfl
theorem shStrs (gs : List Str) (h : ∀ x ∈ gs, PyData.strOk x = true) : SeqAt.shaped (.list (gs.map PyData.str)) = true := by
  unfold SeqAt.shaped
  show (PyData.canLayAll0 (gs.map PyData.str) && decide (PyData.depthAll (gs.map PyData.str) + 1 ≤ 64)) = true
  rw [layStrs gs h, depStrs]
  rfl
/-! ### data without lists -/
mutual
def pur : Dt → Bool
  | .tup l => purs l
  | .lst _ => false
  | .dic => false
  | .str s => PyData.strOk s
  | _ => true
def purs : List Dt → Bool
  | [] => true
  | d :: l => pur d && purs l
end
mutual
def dep : Dt → Nat
  | .tup l => deps l + 1
  | _ => 0
def deps : List Dt → Nat
  | [] => 0
  | d :: l => max (dep d) (deps l)
end
theorem deps_mem {l : List Dt} {d : Dt} : d ∈ l → dep d ≤ deps l := by
  induction l with
  | nil => intro h; cases h
  | cons x l ih =>
    intro h
    rcases List.mem_cons.mp h with rfl | h
    · exact Nat.le_max_left _ _
    · exact Nat.le_trans (ih h) (Nat.le_max_right _ _)
theorem deps_le {l : List Dt} {k : Nat} : (∀ d ∈ l, dep d ≤ k) → deps l ≤ k := by
  induction l with
  | nil => intro h; exact Nat.zero_le _
  | cons x l ih => exact fun h => Nat.max_le.mpr ⟨h x List.mem_cons_self, ih fun d hd => h d (List.mem_cons_of_mem _ hd)⟩
theorem purs_all {l : List Dt} : purs l = l.all pur := by
  induction l with
  | nil => rfl
  | cons x l ih => rw [List.all_cons, ← ih]; rfl
theorem purs_mem {l : List Dt} {d : Dt} (h : purs l = true) (m : d ∈ l) : pur d = true := by
  rw [purs_all] at h
  exact List.all_eq_true.mp h d m
/-- tuples stay -/
def Kt (H H' : Hp) : Prop := ∀ b xs, H b = some (.tup xs) → H' b = some (.tup xs)
theorem Kt.of {H H' : Hp} (s : Same H H') : Kt H H' := fun b xs e => s _ _ e
theorem Kt.put {H : Hp} {p : Addr} {o : HO} {l : List V} (h : H p = some (.lst l)) : Kt H (upd H p o) := fun b xs e => by
  rw [upd_ne (fun z => by rw [z, h] at e; cases e)]
  exact e
theorem Kt.kp {g d c : Addr} {H H' : Hp} {n : Nat} (S : StA H d g c n) (k : Kp d g H H') : Kt H H' := (Kv.kp S k).tup
mutual
theorem DV.keepP {g g' : Addr} {H H' : Hp} (k : Kt H H') : ∀ {v : V} {d : Dt}, pur d = true → DV g H v d → DV g' H' v d
  | _, _, _, .non => .non
  | _, _, _, .bl b => .bl b
  | _, _, _, .int i => .int i
  | _, _, _, .str h => .str h
  | _, _, p, .lst e n h r => by cases p
  | _, _, p, .tup e h r => .tup (k _ _ e) h (DVs.keepP k (by exact p) r)
  | _, _, p, .dic e => by cases p
theorem DVs.keepP {g g' : Addr} {H H' : Hp} (k : Kt H H') : ∀ {v : List V} {d : List Dt}, purs d = true → DVs g H v d → DVs g' H' v d
  | _, _, _, .nil => .nil
  | _, _, p, .cons h r => by
    have p : (pur _ && purs _) = true := p
    rw [Bool.and_eq_true] at p
    exact .cons (DV.keepP k p.1 h) (DVs.keepP k p.2 r)
end
theorem Kp.upF {d g p : Addr} {H H' : Hp} {o : HO} (k : Kp d g H H') (hp : H p = none) : Kp d g H (upd H' p o) := fun b u e h1 h2 => by
  rw [upd_ne (ne_of_none e hp)]
  exact k b u e h1 h2
theorem StA.upF {H : Hp} {d g c p : Addr} {n : Nat} {o : HO} (S : StA H d g c n) (h1 : p ≠ d) (h2 : p ≠ g) (h3 : p ≠ c) : StA (upd H p o) d g c n := by
  obtain ⟨r, tt, gs, cs, S⟩ := S
  exact ⟨r, tt, gs, cs, { S with dk := by rw [upd_ne h1.symm]; exact S.dk, gl := by rw [upd_ne h2.symm]; exact S.gl, cl := by rw [upd_ne h3.symm]; exact S.cl }⟩
theorem StA.free {H : Hp} {d g c : Addr} {n : Nat} (S : StA H d g c n) {p : Addr} (hp : H p = none) : p ≠ d ∧ p ≠ g ∧ p ≠ c := by
  obtain ⟨r, tt, gs, cs, S⟩ := S
  exact ⟨(ne_of_none S.dk hp).symm, (ne_of_none S.gl hp).symm, (ne_of_none S.cl hp).symm⟩
/-! ### values as data to be compared -/
mutual
def toPy : Dt → PyData
  | .non => .none
  | .bl b => .bool b
  | .int i => .int i
  | .str s => .str s
  | .lst l => .list (toPys l)
  | .tup l => .tuple (toPys l)
  | .dic => .dict []
def toPys : List Dt → List PyData
  | [] => []
  | d :: l => toPy d :: toPys l
end
theorem toPys_map {l : List Dt} : toPys l = l.map toPy := by
  induction l with
  | nil => rfl
  | cons x l ih => rw [List.map_cons, ← ih]; rfl
mutual
theorem dv_dp {K : PySem.W.Frag} {g : Addr} {H : Hp} : ∀ {v : V} {d : Dt}, pur d = true → DV g H v d → Dp K H v (toPy d)
  | _, _, _, .non => .non
  | _, _, _, .bl b => .bl b
  | _, _, _, .int i => .int i
  | _, _, _, .str h => .str _
  | _, _, p, .lst e n h r => by cases p
  | _, _, p, .tup e h r => .tup (SqT.of e) (dvs_dp (by exact p) r)
  | _, _, p, .dic e => by cases p
theorem dvs_dp {K : PySem.W.Frag} {g : Addr} {H : Hp} : ∀ {v : List V} {d : List Dt}, purs d = true → DVs g H v d → DpAll K H v (toPys d)
  | _, _, _, .nil => .nil
  | _, _, p, .cons h r => by
    have p : (pur _ && purs _) = true := p
    rw [Bool.and_eq_true] at p
    exact .cons (dv_dp p.1 h) (dvs_dp p.2 r)
end
mutual
theorem pur_lay : ∀ {d : Dt}, pur d = true → (toPy d).canLay0 = true ∧ (toPy d).depth = dep d
  | .non, _ => ⟨rfl, rfl⟩
  | .bl _, _ => ⟨rfl, rfl⟩
  | .int _, _ => ⟨rfl, rfl⟩
  | .str s, p => ⟨p, rfl⟩
  | .lst _, p => by cases p
  | .tup l, p => by
    obtain ⟨a, b⟩ := purs_lay (l := l) p
    refine ⟨a, ?_⟩
    show PyData.depthAll (toPys l) + 1 = deps l + 1
    rw [b]
  | .dic, p => by cases p
theorem purs_lay : ∀ {l : List Dt}, purs l = true → PyData.canLayAll0 (toPys l) = true ∧ PyData.depthAll (toPys l) = deps l
  | [], _ => ⟨rfl, rfl⟩
  | d :: l, p => by
    have p : (pur d && purs l) = true := p
    rw [Bool.and_eq_true] at p
    obtain ⟨a, b⟩ := pur_lay p.1
    obtain ⟨c, e⟩ := purs_lay p.2
    refine ⟨?_, ?_⟩
    · show ((toPy d).canLay0 && PyData.canLayAll0 (toPys l)) = true
      rw [a, c]
      rfl
    · show max (toPy d).depth (PyData.depthAll (toPys l)) = max (dep d) (deps l)
      rw [b, e]
end
theorem shaped_of {d : Dt} (p : pur d = true) (h : dep d ≤ 64) : SeqAt.shaped (toPy d) = true := by
  obtain ⟨a, b⟩ := pur_lay p
  unfold SeqAt.shaped
  rw [a, b, decide_eq_true h]
  rfl
theorem shaped_lst {l : List Dt} (p : purs l = true) (h : deps l ≤ 63) : SeqAt.shaped (.list (toPys l)) = true := by
  obtain ⟨a, b⟩ := purs_lay p
  unfold SeqAt.shaped
  show (PyData.canLayAll0 (toPys l) && decide (PyData.depthAll (toPys l) + 1 ≤ 64)) = true
  rw [a, b, decide_eq_true (by omega)]
  rfl
theorem eqv_self {d : Dt} (p : pur d = true) : PyData.eqv (toPy d) (toPy d) = true := PySem.SeqAt.eqv_refl _ (pur_lay p).1
theorem eqv_lst {l : List Dt} (p : purs l = true) : PyData.eqv (.list (toPys l)) (.list (toPys l)) = true := PySem.SeqAt.eqv_refl _ (purs_lay p).1
end K65

set_option Elab.async false
set_option linter.all false
set_option pp.maxSteps 900
set_option maxRecDepth 100000
set_option maxHeartbeats 4000000
namespace K65
open PySem PySem.Spec PyProof.Rows L2
open TL (tl)
/-- a def that keeps its promise, and where it stands -/
def ClX (CX : CXT) (P : Program) (w : World) (K : PySem.W.Frag) (mg : Str → Option Value) (base : Heap) (x : Str) (ps : List Str) (k : Nat) (sp : Sp) : Prop :=
  ∃ f fd, FnOk P w K mg base CX k f fd ps sp ∧ mg x = some (.ref f) ∧ PySem.W.keepIn K (.ref f) = true ∧ L2.Binds K fd ps []
abbrev Cl (P : Program) (w : World) (K : PySem.W.Frag) (mg : Str → Option Value) (base : Heap) (x : Str) (ps : List Str) (k : Nat) (sp : Sp) : Prop := ClX CX0 P w K mg base x ps k sp
/-- the built-in names -/
structure Bn (mg : Str → Option Value) : Prop where
  isi : mg "isinstance" = none
  len : mg "len" = none
  str : mg "str" = none
  int : mg "int" = none
  bol : mg "bool" = none
  tpl : mg "tuple" = none
  lst : mg "list" = none
  all : mg "all" = none
  rng : mg "range" = none
  min : mg "min" = none
  zip : mg "zip" = none
  enu : mg "enumerate" = none
section
variable {g : Addr} {H : Hp} {v : V}
theorem DV.str_inv {s : Str} (h : DV g H v (.str s)) : v = .str s ∧ s.length ≤ 10000 := by
  cases h with
  | str h => exact ⟨rfl, h⟩
theorem DV.int_inv {i : Int} (h : DV g H v (.int i)) : v = .int i := by
  cases h with
  | int i => rfl
theorem DV.tup_inv {l : List Dt} (h : DV g H v (.tup l)) : ∃ b xs, v = .ref b ∧ H b = some (.tup xs) ∧ l.length ≤ 20000 ∧ DVs g H xs l := by
  cases h with
  | tup e h r => exact ⟨_, _, rfl, e, h, r⟩
theorem DV.tup2 {x y : Dt} (h : DV g H v (.tup [x, y])) : ∃ b vx vy, v = .ref b ∧ H b = some (.tup [vx, vy]) ∧ DV g H vx x ∧ DV g H vy y := by
  obtain ⟨b, xs, rfl, e, _, r⟩ := h.tup_inv
  cases r with
  | cons hx r =>
    cases r with
    | cons hy r =>
      cases r
      exact ⟨b, _, _, rfl, e, hx, hy⟩
theorem DV.tup3 {x y z : Dt} (h : DV g H v (.tup [x, y, z])) : ∃ b vx vy vz, v = .ref b ∧ H b = some (.tup [vx, vy, vz]) ∧ DV g H vx x ∧ DV g H vy y ∧ DV g H vz z := by
  obtain ⟨b, xs, rfl, e, _, r⟩ := h.tup_inv
  cases r with
  | cons hx r =>
    cases r with
    | cons hy r =>
      cases r with
      | cons hz r =>
        cases r
        exact ⟨b, _, _, _, rfl, e, hx, hy, hz⟩
end
section
variable {K : PySem.W.Frag}
/-- [f(x) for x in a tuple], f a question -/
theorem lc_tupB {g : Addr} {a : Addr} {xs : List V} {ds : List Dt} {f : Dt → Bool} {te : TE} {i : Nat} {vs : List Nat} {σ : L2.St} {H1 : Hp} {Q : Addr → Hp → Prop} (r : DVs g H1 xs ds) (e : H1 a = some (.tup xs)) (hl : ds.length ≤ 20000)
    (hw : ∀ x, wipe (List.set (wipe σ vs) i (some x)) vs = wipe σ vs)
    (step : ∀ (x : V) (d : Dt) (H2 : Hp) (R : VK), d ∈ ds → DV g H2 x d → Same H1 H2 → (∀ H3, Same H2 H3 → R (.bl (f d)) H3) → te (List.set (wipe σ vs) i (some x)) H2 R)
    (fin : ∀ (D : Addr) (H2 : Hp), Same H1 H2 → H2 D = some (.lst (ds.map fun d => V.bl (f d))) → Q D H2) :
    ∀ (D : Addr), H1 D = none → ∃ W : Nat → Nat → Hp → Prop, (∃ m, W 0 m (upd H1 D (HO.lst []))) ∧ ∀ (i' m : Nat) (H : Hp), W i' m H →
      (Itt K a).stop i' H ∧ Q D H ∨ (Itt K a).go i' H ∧ ∃ Nx : Hp → Prop, (∀ H', Nx H' → ∃ m', m' < m ∧ W (i' + 1) m' H') ∧ ∀ (x : V) (H' : Hp), (Itt K a).yld i' H x H' →
        gName i x (wipe σ vs) H' fun σ2 H2 => wipe σ2 vs = wipe σ vs ∧ tYes σ2 H2 fun b H3 => if b = true then te σ2 H3 fun y H4 => ∃ acc, H4 D = some (HO.lst acc) ∧ acc.length < sizeLine ∧ Nx (upd H4 D (HO.lst (acc ++ [y]))) else Nx H3 := by
  intro D hD
  have hlen := r.len
  refine lc_it (walk_tup (K := K) (a := a) (xs := xs)) (fun i H' => H' D = some (.lst ((ds.take i).map fun d => V.bl (f d))) ∧ Same H1 H') ⟨upd_same, same_new hD⟩ (fun _ _ _ h => SqT.of (h.2 _ _ e)) ?_ ?_
  · rintro j x H2 H2' hj ⟨h4, s1⟩ ⟨rfl, hx⟩
    obtain ⟨d, hd, hx2⟩ := r.at_ hx
    refine ⟨hw x, ?_⟩
    refine step x d _ _ (List.mem_of_getElem? hd) (hx2.keep (Kv.of s1)) s1 fun H3 s3 => ?_
    refine ⟨_, s3 _ _ h4, ?_, ?_, ?_⟩
    · rw [List.length_map, List.length_take, sizeLine_eq]
      omega
    · rw [upd_same, List.take_succ, hd, List.map_append]
      rfl
    · intro b o eb
      rw [upd_ne (ne_of_none eb hD)]
      exact s3 _ _ (s1 _ _ eb)
  · rintro H2 ⟨h4, s1⟩
    rw [hlen, List.take_length] at h4
    exact fin D H2 s1 h4
theorem all_bl {l : List Bool} : l.all id = true ↔ ∀ b ∈ l, b = true := by simp [List.all_eq_true]
theorem all_map {ds : List Dt} {f : Dt → Bool} : ((ds.map f).all id) = ds.all f := by
  induction ds with
  | nil => rfl
  | cons d ds ih => rw [List.map_cons, List.all_cons, List.all_cons, ih] <;> rfl
theorem sql_bl {H : Hp} {D : Addr} {ds : List Dt} {f : Dt → Bool} (h : H D = some (.lst (ds.map fun d => V.bl (f d)))) : SqL K H D ((ds.map f).map V.bl) := SqL.of (by rw [List.map_map]; exact h)
end
def isLst : Dt → Bool
  | .lst _ => true
  | .tup _ => true
  | _ => false
theorem len1 {d : Dt} (h : lenIs 1 d = true) : ∃ p, d = .tup [p] := by
  cases d with
  | tup l =>
    have e : l.length = 1 := of_decide_eq_true h
    match l, e with
    | [p], _ => exact ⟨p, rfl⟩
  | _ => cases h
theorem len2 {d : Dt} (h : lenIs 2 d = true) : ∃ p q, d = .tup [p, q] := by
  cases d with
  | tup l =>
    have e : l.length = 2 := of_decide_eq_true h
    match l, e with
    | [p, q], _ => exact ⟨p, q, rfl⟩
  | _ => cases h
theorem DV.tyL {K : PySem.W.Frag} {g : Addr} {H : Hp} {v : V} {d : Dt} (h : DV g H v d) : ∃ t, TyX K H v t ∧ PySem.W.kitAny K t [.type "list", .type "tuple"] = some (isLst d) := by
  have go : ∀ {t : Value} {a b : Bool}, PySem.W.kitOne K t (.type "list") = some a → PySem.W.kitOne K t (.type "tuple") = some b → PySem.W.kitAny K t [.type "list", .type "tuple"] = some (a || b) := by
    intro t a b h1 h2
    unfold PySem.W.kitAny
    rw [h1]
    cases a with
    | true => rfl
    | false =>
      show PySem.W.kitAny K t [.type "tuple"] = _
      unfold PySem.W.kitAny
      rw [h2]
      cases b <;> rfl
  cases h with
  | non => exact ⟨_, .base .non, go (kit_ty (show kitB "NoneType" "list" = some false by decide +kernel)) (kit_ty (show kitB "NoneType" "tuple" = some false by decide +kernel))⟩
  | bl b => exact ⟨_, .base (.bl _), go (kit_ty (show kitB "bool" "list" = some false by decide +kernel)) (kit_ty (show kitB "bool" "tuple" = some false by decide +kernel))⟩
  | int i => exact ⟨_, .base (.int _), go (kit_ty (show kitB "int" "list" = some false by decide +kernel)) (kit_ty (show kitB "int" "tuple" = some false by decide +kernel))⟩
  | str h => exact ⟨_, .base (.str _), go (kit_ty (show kitB "str" "list" = some false by decide +kernel)) (kit_ty (show kitB "str" "tuple" = some false by decide +kernel))⟩
  | lst e n h r => exact ⟨_, .base (.lst e), go (kit_ty (show kitB "list" "list" = some true by decide +kernel)) (kit_ty (show kitB "list" "tuple" = some false by decide +kernel))⟩
  | tup e h r => exact ⟨_, .base (.tup e), go (kit_ty (show kitB "tuple" "list" = some false by decide +kernel)) (kit_ty (show kitB "tuple" "tuple" = some true by decide +kernel))⟩
  | dic e => exact ⟨_, .base (.dK e), go (kit_ty (show kitB "dict" "list" = some false by decide +kernel)) (kit_ty (show kitB "dict" "tuple" = some false by decide +kernel))⟩
section
variable {P : Program} {w : World} {K : PySem.W.Frag} {mg : Str → Option Value} {base : Heap}
end
end K65

set_option Elab.async false
set_option linter.all false
set_option pp.maxSteps 900
set_option maxRecDepth 100000
set_option maxHeartbeats 4000000
namespace K65
open PySem PySem.Spec PyProof.Rows L2
open TL (tl)
abbrev sWeb : Stmt := top 18
abbrev sHd : Stmt := top 19
abbrev sEd : Stmt := top 20
abbrev sNeed : Stmt := top 21
def rLenQ (K : PySem.W.Frag) : List V → Hp → VK → Prop := fun xs H Q => ∃ p ys, xs = [.ref p] ∧ (SqL K H p ys ∨ SqT K H p ys) ∧ Q (.int (ys.length : Nat)) H
/-! ### webs, judged -/
def posI : Dt → Bool
  | .int i => decide (1 ≤ i)
  | _ => false
def headB : Dt → Bool
  | .tup [a, b] => posI a && isTup b
  | _ => false
def callB (nets : Int) : Dt → Bool
  | .non => true
  | d => intIn 0 (nets - 1) d
def toldB (labels : Int) : Dt → Bool
  | .tup ks => decide (ks.length ≤ 8) && ks.all (intIn 0 (labels - 1))
  | _ => false
def edgeB (places nets labels : Int) : Dt → Bool
  | .tup [p, t, c, b, l] => (intIn 0 (places - 2) p && intIn 0 (places - 1) t) && ((callB nets c && intIn (-1000000000) 1000000000 b) && toldB labels l)
  | _ => false
def spEd : Sp := fun vs H Q _ => ∃ (g : Addr) (v : V) (d : Dt) (places nets labels : Int), vs = [v, .int places, .int nets, .int labels] ∧ DV g H v d ∧ ∀ H', Same H H' → Q (.bl (edgeB places nets labels d)) H'
theorem len5 {d : Dt} (h : lenIs 5 d = true) : ∃ p q r s t, d = .tup [p, q, r, s, t] := by
  cases d with
  | tup l =>
    match l, h with
    | [p, q, r, s, t], _ => exact ⟨p, q, r, s, t, rfl⟩
    | [], h | [_], h | [_, _], h | [_, _, _], h | [_, _, _, _], h | _ :: _ :: _ :: _ :: _ :: _ :: _, h => simp [lenIs] at h
  | _ => cases h
theorem edge_no {p n l : Int} {d : Dt} (h : lenIs 5 d = false) : edgeB p n l d = false := by
  cases d with
  | tup xs =>
    match xs, h with
    | [_, _, _, _, _], h => cases h
    | [], _ | [_], _ | [_, _], _ | [_, _, _], _ | [_, _, _, _], _ | _ :: _ :: _ :: _ :: _ :: _ :: _, _ => rfl
  | _ => rfl
theorem head_no {d : Dt} (h : lenIs 2 d = false) : headB d = false := by
  cases d with
  | tup xs =>
    match xs, h with
    | [_, _], h => cases h
    | [], _ | [_], _ | _ :: _ :: _ :: _, _ => rfl
  | _ => rfl
section
variable {g : Addr} {H : Hp} {v : V}
theorem DV.tup5 {p q r s t : Dt} (h : DV g H v (.tup [p, q, r, s, t])) : ∃ b vp vq vr vs vt, v = .ref b ∧ H b = some (.tup [vp, vq, vr, vs, vt]) ∧ DV g H vp p ∧ DV g H vq q ∧ DV g H vr r ∧ DV g H vs s ∧ DV g H vt t := by
  obtain ⟨b, xs, rfl, e, _, h1⟩ := h.tup_inv
  cases h1 with
  | cons hp r =>
  cases r with
  | cons hq r =>
  cases r with
  | cons hr r =>
  cases r with
  | cons hs r =>
  cases r with
  | cons ht r =>
  cases r
  exact ⟨b, _, _, _, _, _, rfl, e, hp, hq, hr, hs, ht⟩
end
section
variable {P : Program} {w : World} {K : PySem.W.Frag} {mg : Str → Option Value} {base : Heap}
theorem scHd : FnScope ["value"] ["value"] (defScope sHd) := ⟨rfl, rfl, rfl, by decide +kernel, rfl, by decide +kernel, by decide +kernel⟩
theorem ok_hd {f : Addr} {fd : FuncData} (F : Fun K "_is_head" "_is_head" sHd f fd) (T : Bn mg) (cTof : Cl P w K mg base "is_tuple_of" ["value", "many"] 1 spTof) (cWhl : Cl P w K mg base "is_whole" ["value"] 1 (spAsk isInt)) : FnOk P w K mg base CX0 2 f fd ["value"] (spAsk headB) := by
  obtain ⟨fTof, fdTof, GTof, mTof, kTof, bTof⟩ := cTof
  obtain ⟨fWhl, fdWhl, GWhl, mWhl, kWhl, bWhl⟩ := cWhl
  refine F.ok scHd (fun vs H Q E h => ?_) (fun cdv A outer s H vs Q E hr h => ?_)
  · obtain ⟨g, v, d, rfl, _⟩ := h
    rfl
  · obtain ⟨g, v, d, rfl, hd, k⟩ := h
    refine ⟨_, (pss_one (ps_ret (pe_and (pe_call GTof hr (by rfl) mTof kTof bTof .nil pass0 (pa_cons (pv 0) (pa_cons pe_int pa_nil))) (pe_and (pe_call GWhl hr (by rfl) mWhl kWhl bWhl .nil pass0 (pa_cons (pe_ix ix_tup (pv 0) pe_int (fun _ _ => rfl)) pa_nil)) (pe_and (pe_cmpR op_ge (pe_ix ix_tup (pv 0) pe_int (fun _ _ => rfl)) pe_int (nomark _)) (pe_one (pe_callB call_isi (by rfl) T.isi (by decide +kernel) (pa_cons (pe_ix ix_tup (pv 0) pe_int (fun _ _ => rfl)) (pa_cons (pe_bltn (v := .ty "tuple") (by rfl) T.tpl boot_tuple rfl) pa_nil))))))))), ?_⟩
    refine ⟨_, rfl, g, v, d, 2, rfl, hd, fun H1 s1 => ⟨_, rfl, ?_⟩⟩
    cases h2 : lenIs 2 d with
    | false =>
      refine ifF rfl ?_
      have := k H1 s1
      rw [head_no h2] at this
      exact this
    | true =>
      refine ifT rfl ?_
      obtain ⟨x, y, rfl⟩ := len2 h2
      have hd1 := hd.keep (Kv.of s1)
      obtain ⟨b, vx, vy, rfl, eb, hx, hy⟩ := hd1.tup2
      refine ⟨_, rfl, b, _, 0, _, rfl, rfl, SqT.of eb, atI_nat (j := 0) rfl, g, vx, x, rfl, hx, fun H2 s2 => ⟨_, rfl, ?_⟩⟩
      have hy2 := hy.keep (Kv.of s2)
      have eb2 := s2 _ _ eb
      have s12 := s1.trans s2
      cases x with
      | int i =>
        obtain rfl := hx.int_inv
        refine ifT rfl ?_
        refine ⟨_, rfl, b, _, 0, _, rfl, rfl, SqT.of eb2, atI_nat (j := 0) rfl, _, _, rfl, rfl, _, rfl, ?_⟩
        have e0 : headB (.tup [.int i, y]) = (decide (1 ≤ i) && isTup y) := rfl
        rw [e0] at k
        cases h1 : decide (1 ≤ i) with
        | false =>
          rw [h1] at k
          exact ifF rfl (k H2 s12)
        | true =>
          rw [h1] at k
          refine ifT rfl ?_
          obtain ⟨t, ht, q1, q2, q3, q4⟩ := hy2.ty (K := K)
          exact ⟨_, rfl, b, _, 1, _, rfl, rfl, SqT.of eb2, atI_nat (j := 1) rfl, _, _, _, _, _, rfl, .ty "tuple", ht, q2, k H2 s12⟩
      | _ =>
        refine ifF rfl ?_
        exact k H2 s12
theorem scEd : FnScope ["value", "places", "nets", "labels", "place", "to", "call", "beats", "told", "k"] ["value", "places", "nets", "labels"] (defScope sEd) := ⟨rfl, rfl, rfl, by decide +kernel, rfl, by decide +kernel, by decide +kernel⟩
theorem ok_ed {f : Addr} {fd : FuncData} (F : Fun K "_is_edge" "_is_edge" sEd f fd) (T : Bn mg) (cTof : Cl P w K mg base "is_tuple_of" ["value", "many"] 1 spTof) (cTin : Cl P w K mg base "is_tuple_within" ["value", "low", "high"] 1 spTin)
    (cWin : Cl P w K mg base "is_within" ["value", "low", "high"] 2 spWin) (gB : ∃ t, mg "MOST_BEATS" = some (.int 1000000000 t)) (gE : ∃ t, mg "MOST_EDGE_LABELS" = some (.int 8 t)) : FnOk P w K mg base CX0 3 f fd ["value", "places", "nets", "labels"] spEd := by
  obtain ⟨fTof, fdTof, GTof, mTof, kTof, bTof⟩ := cTof
  obtain ⟨fTin, fdTin, GTin, mTin, kTin, bTin⟩ := cTin
  obtain ⟨fWin, fdWin, GWin, mWin, kWin, bWin⟩ := cWin
  obtain ⟨tB, eB⟩ := gB
  obtain ⟨tE, eE⟩ := gE
  refine F.ok scEd (fun vs H Q E h => ?_) (fun cdv A outer s H vs Q E hr h => ?_)
  · obtain ⟨g, v, d, p, n, l, rfl, _⟩ := h
    rfl
  · obtain ⟨g, v, d, pl, nt, lb, rfl, hd, k⟩ := h
    have hr1 : Room 1 _ := hr.mono (by decide)
    refine ⟨_, (pss_cons (ps_if (pt_not (pt_val (pe_call GTof hr1 (by rfl) mTof kTof bTof .nil pass0 (pa_cons (pv 0) (pa_cons pe_int pa_nil))))) (pss_one (ps_ret pe_bl)) pss_nil)
      (pss_cons (ps_asg (pv 0) (pg_tup (by rfl) (pgs_cons (pg_name (i := 4) scEd.nd rfl (Or.inl rfl)) (pgs_cons (pg_name (i := 5) scEd.nd rfl (Or.inl rfl)) (pgs_cons (pg_name (i := 6) scEd.nd rfl (Or.inl rfl)) (pgs_cons (pg_name (i := 7) scEd.nd rfl (Or.inl rfl)) (pgs_cons (pg_name (i := 8) scEd.nd rfl (Or.inl rfl)) pgs_nil)))))))
      (pss_cons (ps_if (PW.pt (pw_or (pt_not (pt_val (pe_call GWin hr (by rfl) mWin kWin bWin .nil pass0 (pa_cons (pv 4) (pa_cons pe_int (pa_cons (pe_op op_sub (pv 1) pe_int) pa_nil)))))) (pw_or1 (pt_not (pt_val (pe_call GWin hr (by rfl) mWin kWin bWin .nil pass0 (pa_cons (pv 5) (pa_cons pe_int (pa_cons (pe_op op_sub (pv 1) pe_int) pa_nil))))))))) (pss_one (ps_ret pe_bl)) pss_nil)
      (pss_cons (ps_if (PW.pt (pw_or (PW.pt (pw_and (pt_cmpR op_notN (pv 6) pe_non (nomark _)) (pw_and1 (pt_not (pt_val (pe_call GWin hr (by rfl) mWin kWin bWin .nil pass0 (pa_cons (pv 6) (pa_cons pe_int (pa_cons (pe_op op_sub (pv 2) pe_int) pa_nil))))))))) (pw_or1 (pt_not (pt_val (pe_call GWin hr (by rfl) mWin kWin bWin .nil pass0 (pa_cons (pv 7) (pa_cons (pe_un un_neg (pe_glob (v := .int 1000000000) (by rfl) eB ⟨_, rfl⟩)) (pa_cons (pe_glob (v := .int 1000000000) (by rfl) eB ⟨_, rfl⟩) pa_nil))))))))) (pss_one (ps_ret pe_bl)) pss_nil)
      (pss_one (ps_ret (pe_and (pe_call GTin hr1 (by rfl) mTin kTin bTin .nil pass0 (pa_cons (pv 8) (pa_cons pe_int (pa_cons (pe_glob (v := .int 8) (by rfl) eE ⟨_, rfl⟩) pa_nil)))) (pe_one (pe_callB (cr_all rfl) (by rfl) T.all (by decide +kernel) (pa_cons (pe_lc (own := [("k", 9)]) (g := gName 9) (tt := tYes) (by rfl) scEd.nd (pi_tup (pv 8)) (blkOk_by (own := [("k", 9)]) (N := ["value", "places", "nets", "labels", "place", "to", "call", "beats", "told", "k"]) (sc := defScope sEd) (by decide +kernel)) (fun _ _ _ _ _ => (pg_name (i := 9) scEd.nd rfl (Or.inl rfl))) (fun _ _ _ _ _ => pts_nil) (fun _ _ _ _ _ => (pe_call GWin hr (by rfl) mWin kWin bWin .nil pass0 (pa_cons (pv 9) (pa_cons pe_int (pa_cons (pe_op op_sub (pv 3) pe_int) pa_nil)))))) pa_nil)))))))))), ?_⟩
    refine ⟨_, rfl, g, v, d, 5, rfl, hd, fun H1 s1 => ⟨_, rfl, ?_⟩⟩
    cases h5 : lenIs 5 d with
    | false =>
      rw [edge_no h5] at k
      exact iteT (k H1 s1)
    | true =>
      obtain ⟨p, t, c, b, l, rfl⟩ := len5 h5
      obtain ⟨a, vp, vt, vc, vb, vl, rfl, ea, hp, ht, hc, hb, hl⟩ := (hd.keep (Kv.of s1)).tup5
      refine iteF ⟨_, rfl, a, _, rfl, SqT.of ea, rfl, _, _, rfl, _, _, rfl, _, _, rfl, _, _, rfl, _, _, rfl, rfl, ?_⟩
      have e0 : edgeB pl nt lb (.tup [p, t, c, b, l]) = ((intIn 0 (pl - 2) p && intIn 0 (pl - 1) t) && ((callB nt c && intIn (-1000000000) 1000000000 b) && toldB lb l)) := rfl
      rw [e0] at k
      refine ⟨_, rfl, _, rfl, _, _, rfl, rfl, g, vp, p, 0, _, rfl, hp, fun H2 s2 => ⟨_, rfl, ?_⟩⟩
      have s12 := s1.trans s2
      cases n1 : intIn 0 (pl - 2) p with
      | false =>
        rw [n1] at k
        exact iteT (k H2 s12)
      | true =>
      rw [n1] at k
      refine iteF ?_
      refine ⟨_, rfl, _, rfl, _, _, rfl, rfl, g, vt, t, 0, _, rfl, ht.keep (Kv.of s2), fun H3 s3 => ⟨_, rfl, ?_⟩⟩
      have s13 := s12.trans s3
      have s23 := s2.trans s3
      cases n2 : intIn 0 (pl - 1) t with
      | false =>
        rw [n2] at k
        exact iteT (k H3 s13)
      | true =>
      rw [n2] at k
      refine iteF ?_
      have hc3 := hc.keep (Kv.of s23)
      have hb3 := hb.keep (Kv.of s23)
      have hl3 := hl.keep (Kv.of s23)
      by_cases hn : vc = V.non
      · subst hn
        cases hc3
        refine ⟨_, rfl, rfl, _, rfl, ifF rfl ?_⟩
        refine ⟨_, rfl, _, rfl, g, vb, b, -1000000000, 1000000000, rfl, hb3, fun H5 s5 => ⟨_, rfl, ?_⟩⟩
        have s15 := s13.trans s5
        cases n4 : intIn (-1000000000) 1000000000 b with
        | false =>
          rw [n4] at k
          exact iteT (k H5 s15)
        | true =>
          rw [n4] at k
          refine iteF ?_
          refine ⟨_, rfl, g, vl, l, 0, 8, rfl, hl3.keep (Kv.of s5), fun H6 s6 => ⟨_, rfl, ?_⟩⟩
          have s16 := s15.trans s6
          have hl6 := (hl3.keep (Kv.of s5)).keep (Kv.of s6)
          have k' : ∀ H', Same H H' → Q (.bl (toldB lb l)) H' := k
          cases l with
          | tup ks =>
            have e1 : lenIn 0 8 (.tup ks) = decide (ks.length ≤ 8) := by
              show (decide ((0 : Int) ≤ (ks.length : Int)) && decide ((ks.length : Int) ≤ 8)) = _
              rw [decide_eq_true (show (0 : Int) ≤ (ks.length : Int) by omega), Bool.true_and, decide_eq_decide]
              omega
            have e2 : toldB lb (.tup ks) = (decide (ks.length ≤ 8) && ks.all (intIn 0 (lb - 1))) := rfl
            rw [e2] at k'
            rw [e1]
            cases n5 : decide (ks.length ≤ 8) with
            | false =>
              rw [n5] at k'
              exact iteF (k' H6 s16)
            | true =>
              rw [n5] at k'
              obtain ⟨al, xs, rfl, eal, hxl, rr⟩ := hl6.tup_inv
              refine iteT ⟨_, rfl, al, rfl, ⟨_, SqT.of eal⟩, ?_⟩
              refine lc_tupB (K := K) (f := intIn 0 (lb - 1)) (i := 9) (vs := [9]) rr eal hxl ?_ ?_ ?_
              · exact fun x => rfl
              · intro x d H2' R hm hx s2 hR
                exact ⟨_, rfl, _, rfl, _, _, rfl, rfl, g, x, d, 0, _, rfl, hx, hR⟩
              · intro D H7 s7 hD
                refine ⟨D, ks.map (intIn 0 (lb - 1)), rfl, sql_bl hD, ?_⟩
                rw [all_map]
                exact k' H7 (s16.trans s7)
          | _ => exact iteF (k' H6 s16)
      · have hcB : callB nt c = intIn 0 (nt - 1) c := by
          cases hc3 with
          | non => exact absurd rfl hn
          | _ => rfl
        rw [hcB] at k
        refine ⟨_, rfl, rfl, _, rfl, ifT (by rw [decide_eq_false hn]; rfl) ?_⟩
        refine ⟨_, rfl, _, rfl, _, _, rfl, rfl, g, vc, c, 0, _, rfl, hc3, fun H4 s4 => ⟨_, rfl, ?_⟩⟩
        have s14 := s13.trans s4
        have hb4 := hb3.keep (Kv.of s4)
        have hl4 := hl3.keep (Kv.of s4)
        cases n3 : intIn 0 (nt - 1) c with
        | false =>
          rw [n3] at k
          exact iteT (k H4 s14)
        | true =>
        rw [n3] at k
        refine iteF ?_
        refine ⟨_, rfl, _, rfl, g, vb, b, -1000000000, 1000000000, rfl, hb4, fun H5 s5 => ⟨_, rfl, ?_⟩⟩
        have s15 := s14.trans s5
        cases n4 : intIn (-1000000000) 1000000000 b with
        | false =>
          rw [n4] at k
          exact iteT (k H5 s15)
        | true =>
          rw [n4] at k
          refine iteF ?_
          refine ⟨_, rfl, g, vl, l, 0, 8, rfl, hl4.keep (Kv.of s5), fun H6 s6 => ⟨_, rfl, ?_⟩⟩
          have s16 := s15.trans s6
          have hl6 := (hl4.keep (Kv.of s5)).keep (Kv.of s6)
          have k' : ∀ H', Same H H' → Q (.bl (toldB lb l)) H' := k
          cases l with
          | tup ks =>
            have e1 : lenIn 0 8 (.tup ks) = decide (ks.length ≤ 8) := by
              show (decide ((0 : Int) ≤ (ks.length : Int)) && decide ((ks.length : Int) ≤ 8)) = _
              rw [decide_eq_true (show (0 : Int) ≤ (ks.length : Int) by omega), Bool.true_and, decide_eq_decide]
              omega
            have e2 : toldB lb (.tup ks) = (decide (ks.length ≤ 8) && ks.all (intIn 0 (lb - 1))) := rfl
            rw [e2] at k'
            rw [e1]
            cases n5 : decide (ks.length ≤ 8) with
            | false =>
              rw [n5] at k'
              exact iteF (k' H6 s16)
            | true =>
              rw [n5] at k'
              obtain ⟨al, xs, rfl, eal, hxl, rr⟩ := hl6.tup_inv
              refine iteT ⟨_, rfl, al, rfl, ⟨_, SqT.of eal⟩, ?_⟩
              refine lc_tupB (K := K) (f := intIn 0 (lb - 1)) (i := 9) (vs := [9]) rr eal hxl ?_ ?_ ?_
              · exact fun x => rfl
              · intro x d H2' R hm hx s2 hR
                exact ⟨_, rfl, _, rfl, _, _, rfl, rfl, g, x, d, 0, _, rfl, hx, hR⟩
              · intro D H7 s7 hD
                refine ⟨D, ks.map (intIn 0 (lb - 1)), rfl, sql_bl hD, ?_⟩
                rw [all_map]
                exact k' H7 (s16.trans s7)
          | _ => exact iteF (k' H6 s16)
end
end K65

set_option Elab.async false
set_option linter.all false
set_option pp.maxSteps 900
set_option maxRecDepth 100000
set_option maxHeartbeats 4000000
namespace K65
open PySem PySem.Spec PyProof.Rows L2
open TL (tl)
/-! ### comprehensions over a tuple -/
theorem lc_tupG {K : PySem.W.Frag} {g : Addr} {a : Addr} {xs : List V} {ds : List Dt} {f : Dt → V} {te : TE} {i : Nat} {vs : List Nat} {σ : L2.St} {H1 : Hp} {Q : Addr → Hp → Prop} (r : DVs g H1 xs ds) (e : H1 a = some (.tup xs)) (hl : ds.length ≤ 20000)
    (hw : ∀ x, wipe (List.set (wipe σ vs) i (some x)) vs = wipe σ vs)
    (step : ∀ (x : V) (d : Dt) (H2 : Hp) (R : VK), d ∈ ds → DV g H2 x d → Same H1 H2 → (∀ H3, Same H2 H3 → R (f d) H3) → te (List.set (wipe σ vs) i (some x)) H2 R)
    (fin : ∀ (D : Addr) (H2 : Hp), Same H1 H2 → H1 D = none → H2 D = some (.lst (ds.map f)) → Q D H2) :
    ∀ (D : Addr), H1 D = none → ∃ W : Nat → Nat → Hp → Prop, (∃ m, W 0 m (upd H1 D (HO.lst []))) ∧ ∀ (i' m : Nat) (H : Hp), W i' m H →
      (Itt K a).stop i' H ∧ Q D H ∨ (Itt K a).go i' H ∧ ∃ Nx : Hp → Prop, (∀ H', Nx H' → ∃ m', m' < m ∧ W (i' + 1) m' H') ∧ ∀ (x : V) (H' : Hp), (Itt K a).yld i' H x H' →
        gName i x (wipe σ vs) H' fun σ2 H2 => wipe σ2 vs = wipe σ vs ∧ tYes σ2 H2 fun b H3 => if b = true then te σ2 H3 fun y H4 => ∃ acc, H4 D = some (HO.lst acc) ∧ acc.length < sizeLine ∧ Nx (upd H4 D (HO.lst (acc ++ [y]))) else Nx H3 := by
  intro D hD
  have hlen := r.len
  refine lc_it (walk_tup (K := K) (a := a) (xs := xs)) (fun i H' => H' D = some (.lst ((ds.take i).map f)) ∧ Same H1 H') ⟨upd_same, same_new hD⟩ (fun _ _ _ h => SqT.of (h.2 _ _ e)) ?_ ?_
  · rintro j x H2 H2' hj ⟨h4, s1⟩ ⟨rfl, hx⟩
    obtain ⟨d, hd, hx2⟩ := r.at_ hx
    refine ⟨hw x, ?_⟩
    refine step x d _ _ (List.mem_of_getElem? hd) (hx2.keep (Kv.of s1)) s1 fun H3 s3 => ?_
    refine ⟨_, s3 _ _ h4, ?_, ?_, ?_⟩
    · rw [List.length_map, List.length_take, sizeLine_eq]
      omega
    · rw [upd_same, List.take_succ, hd, List.map_append]
      rfl
    · intro b o eb
      rw [upd_ne (ne_of_none eb hD)]
      exact s3 _ _ (s1 _ _ eb)
  · rintro H2 ⟨h4, s1⟩
    rw [hlen, List.take_length] at h4
    exact fin D H2 s1 hD h4
theorem it_gen {J : It} {n : Nat} {G : Hp → Prop} {Y : Nat → Hp → V → Hp → Prop} (w : Walk J n G Y) {Body : V → Hp → (Hp → Prop) → Prop} {H0 : Hp} {Qd : Hp → Prop} (Pv : Nat → Hp → Prop) (h0 : Pv 0 H0) (hG : ∀ i H, i ≤ n → Pv i H → G H)
    (hs : ∀ i x H H', i < n → Pv i H → Y i H x H' → Body x H' (Pv (i + 1))) (hd : ∀ H, Pv n H → Qd H) :
    ∃ W : Nat → Nat → Hp → Prop, (∃ m, W 0 m H0) ∧ ∀ i m H, W i m H →
      (J.stop i H ∧ Qd H) ∨ (J.go i H ∧ ∃ Nx : Hp → Prop, (∀ H', Nx H' → ∃ m', m' < m ∧ W (i + 1) m' H') ∧ ∀ x H', J.yld i H x H' → Body x H' Nx) := by
  refine ⟨fun i m H => m = n - i ∧ i ≤ n ∧ Pv i H, ⟨n, by simp, Nat.zero_le _, h0⟩, ?_⟩
  rintro i m H ⟨rfl, hi, p⟩
  have q := hG i H hi p
  by_cases hlt : i < n
  · exact .inr ⟨w.goes i H hlt q, Pv (i + 1), fun H' p' => ⟨n - (i + 1), by omega, rfl, hlt, p'⟩, fun x H' y => hs i x H H' hlt p (w.yields i H x H' hlt q y)⟩
  · have e : i = n := by omega
    subst e
    exact .inl ⟨w.stops H q, hd H p⟩
/-! ### a whole web, judged -/
def net0 : Dt → Int
  | .tup [.int i, _] => i
  | _ => 0
def netEs : Dt → List Dt
  | .tup [_, .tup es] => es
  | _ => []
def intOf : Dt → Int
  | .int i => i
  | _ => 0
def netsB (lb : Int) : Dt → Bool
  | .tup ns => (lenIn 1 400 (.tup ns) && ns.all headB) && ((decide ((ns.map net0).sum ≤ 4000) && decide ((ns.map fun n => ((netEs n).length : Int)).sum ≤ 8000)) && ns.all fun n => (netEs n).all (edgeB (net0 n) ns.length lb))
  | _ => false
def webB : Dt → Bool
  | .tup [a, b] => intIn 0 4000 a && netsB (intOf a) b
  | _ => false
theorem web_no {d : Dt} (h : lenIs 2 d = false) : webB d = false := by
  cases d with
  | tup xs =>
    match xs, h with
    | [_, _], h => cases h
    | [], _ | [_], _ | _ :: _ :: _ :: _, _ => rfl
  | _ => rfl
theorem head_of {d : Dt} (h : headB d = true) : ∃ i es, d = .tup [.int i, .tup es] ∧ 1 ≤ i := by
  cases d with
  | tup xs =>
    match xs, h with
    | [a, b], h =>
      have h : (posI a && isTup b) = true := h
      rw [Bool.and_eq_true] at h
      obtain ⟨h1, h2⟩ := h
      cases a with
      | int i =>
        cases b with
        | tup es => exact ⟨i, es, rfl, of_decide_eq_true h1⟩
        | _ => cases h2
      | _ => cases h1
    | [], h | [_], h | _ :: _ :: _ :: _, h => cases h
  | _ => cases h
section
variable {P : Program} {w : World} {K : PySem.W.Frag} {mg : Str → Option Value} {base : Heap}
theorem scWeb : FnScope ["value", "labels", "nets", "net", "edge"] ["value"] (defScope sWeb) := ⟨rfl, rfl, rfl, by decide +kernel, rfl, by decide +kernel, by decide +kernel⟩
theorem ok_web {f : Addr} {fd : FuncData} (F : Fun K "is_web" "is_web" sWeb f fd) (T : Bn mg) (hsum : mg "sum" = none) (cTof : Cl P w K mg base "is_tuple_of" ["value", "many"] 1 spTof) (cTin : Cl P w K mg base "is_tuple_within" ["value", "low", "high"] 1 spTin)
    (cWin : Cl P w K mg base "is_within" ["value", "low", "high"] 2 spWin) (cHd : Cl P w K mg base "_is_head" ["value"] 2 (spAsk headB)) (cEd : Cl P w K mg base "_is_edge" ["value", "places", "nets", "labels"] 3 spEd)
    (gL : ∃ t, mg "MOST_LABELS" = some (.int 4000 t)) (gN : ∃ t, mg "MOST_NETS" = some (.int 400 t)) (gP : ∃ t, mg "MOST_PLACES" = some (.int 4000 t)) (gE : ∃ t, mg "MOST_EDGES" = some (.int 8000 t)) :
    FnOk P w K mg base CX0 4 f fd ["value"] (spAsk webB) := by
  obtain ⟨fTof, fdTof, GTof, mTof, kTof, bTof⟩ := cTof
  obtain ⟨fTin, fdTin, GTin, mTin, kTin, bTin⟩ := cTin
  obtain ⟨fWin, fdWin, GWin, mWin, kWin, bWin⟩ := cWin
  obtain ⟨fHd, fdHd, GHd, mHd, kHd, bHd⟩ := cHd
  obtain ⟨fEd, fdEd, GEd, mEd, kEd, bEd⟩ := cEd
  obtain ⟨tL, eL⟩ := gL
  obtain ⟨tN, eN⟩ := gN
  obtain ⟨tP, eP⟩ := gP
  obtain ⟨tE, eE⟩ := gE
  refine F.ok scWeb (fun vs H Q E h => ?_) (fun cdv A outer s H vs Q E hr h => ?_)
  · obtain ⟨g, v, d, rfl, _⟩ := h
    rfl
  · obtain ⟨g, v, d, rfl, hd, k⟩ := h
    have hr1 : Room 1 _ := hr.mono (by decide)
    have hr2 : Room 2 _ := hr.mono (by decide)
    refine ⟨_, (pss_cons (ps_if (PW.pt (pw_or (pt_not (pt_val (pe_call GTof hr1 (by rfl) mTof kTof bTof .nil pass0 (pa_cons (pv 0) (pa_cons pe_int pa_nil))))) (pw_or1 (pt_not (pt_val (pe_call GWin hr2 (by rfl) mWin kWin bWin .nil pass0 (pa_cons (pe_ix ix_tup (pv 0) pe_int (fun _ _ => rfl)) (pa_cons pe_int (pa_cons (pe_glob (v := .int 4000) (by rfl) eL ⟨_, rfl⟩) pa_nil))))))))) (pss_one (ps_ret pe_bl)) pss_nil)
      (pss_cons (ps_asg (pv 0) (pg_tup (by rfl) (pgs_cons (pg_name (i := 1) scWeb.nd rfl (Or.inr rfl)) (pgs_cons (pg_name (i := 2) scWeb.nd rfl (Or.inr rfl)) pgs_nil))))
      (pss_cons (ps_if (PW.pt (pw_or (pt_not (pt_val (pe_call GTin hr1 (by rfl) mTin kTin bTin .nil pass0 (pa_cons (pv 2) (pa_cons pe_int (pa_cons (pe_glob (v := .int 400) (by rfl) eN ⟨_, rfl⟩) pa_nil)))))) (pw_or1 (pt_not (pt_val (pe_callB (cr_all rfl) (by rfl) T.all (by decide +kernel) (pa_cons (pe_lc (own := [("net", 3)]) (g := gName 3) (tt := tYes) (by rfl) scWeb.nd (pi_tup (pv 2)) (blkOk_by (own := [("net", 3)]) (N := ["value", "labels", "nets", "net", "edge"]) (sc := defScope sWeb) (by decide +kernel)) (fun _ _ _ _ _ => (pg_name (i := 3) scWeb.nd rfl (Or.inl rfl))) (fun _ _ _ _ _ => pts_nil) (fun _ _ _ _ _ => (pe_call GHd hr2 (by rfl) mHd kHd bHd .nil pass0 (pa_cons (pv 3) pa_nil)))) pa_nil))))))) (pss_one (ps_ret pe_bl)) pss_nil)
      (pss_cons (ps_if (PW.pt (pw_or (pt_cmpR op_gt (pe_callB (cr_sum rfl) (by rfl) hsum (by decide +kernel) (pa_cons (pe_lc (own := [("net", 3)]) (g := gName 3) (tt := tYes) (by rfl) scWeb.nd (pi_tup (pv 2)) (blkOk_by (own := [("net", 3)]) (N := ["value", "labels", "nets", "net", "edge"]) (sc := defScope sWeb) (by decide +kernel)) (fun _ _ _ _ _ => (pg_name (i := 3) scWeb.nd rfl (Or.inl rfl))) (fun _ _ _ _ _ => pts_nil) (fun _ _ _ _ _ => (pe_ix (show IxR _ (rIxT K) from ix_tup) (pv 3) pe_int (fun _ _ => rfl)))) pa_nil)) (pe_glob (v := .int 4000) (by rfl) eP ⟨_, rfl⟩) (nomark _)) (pw_or1 (pt_cmpR op_gt (pe_callB (cr_sum rfl) (by rfl) hsum (by decide +kernel) (pa_cons (pe_lc (own := [("net", 3)]) (g := gName 3) (tt := tYes) (by rfl) scWeb.nd (pi_tup (pv 2)) (blkOk_by (own := [("net", 3)]) (N := ["value", "labels", "nets", "net", "edge"]) (sc := defScope sWeb) (by decide +kernel)) (fun _ _ _ _ _ => (pg_name (i := 3) scWeb.nd rfl (Or.inl rfl))) (fun _ _ _ _ _ => pts_nil) (fun _ _ _ _ _ => (pe_callB (show CallR _ _ (rLenQ K) from call_len_seq) (by rfl) T.len PySem.boot_len (pa_cons (pe_ix (show IxR _ (rIxT K) from ix_tup) (pv 3) pe_int (fun _ _ => rfl)) pa_nil)))) pa_nil)) (pe_glob (v := .int 8000) (by rfl) eE ⟨_, rfl⟩) (nomark _))))) (pss_one (ps_ret pe_bl)) pss_nil)
      (pss_one (ps_ret (pe_callB (cr_all rfl) (by rfl) T.all (by decide +kernel) (pa_cons (pe_lc2 (own := [("net", 3), ("edge", 4)]) (vs1 := [4]) (g := gName 3) (g1 := gName 4) (tt := tYes) (tt1 := tYes) (by rfl) scWeb.nd (pi_tup (pv 2)) (blkOk_by (own := [("net", 3), ("edge", 4)]) (N := ["value", "labels", "nets", "net", "edge"]) (sc := defScope sWeb) (by decide +kernel)) (by decide) (fun _ _ _ _ _ => (pg_name (i := 3) scWeb.nd rfl (Or.inl rfl))) (fun _ _ _ _ _ => pts_nil) (fun _ _ _ _ _ => (show PI _ _ _ (iTup K _) from (pi_tup (pe_ix (show IxR _ (rIxT K) from ix_tup) (pv 3) pe_int (fun _ _ => rfl))))) (fun _ _ _ _ _ => (pg_name (i := 4) scWeb.nd rfl (Or.inl rfl))) (fun _ _ _ _ _ => pts_nil) (fun _ _ _ _ _ => (pe_call GEd hr (by rfl) mEd kEd bEd .nil pass0 (pa_cons (pv 4) (pa_cons (pe_ix (show IxR _ (rIxT K) from ix_tup) (pv 3) pe_int (fun _ _ => rfl)) (pa_cons (pe_callB (show CallR _ _ (rLenQ K) from call_len_seq) (by rfl) T.len PySem.boot_len (pa_cons (pv 2) pa_nil)) (pa_cons (pv 1) pa_nil))))))) pa_nil)))))))), ?_⟩
    refine ⟨_, rfl, g, v, d, 2, rfl, hd, fun H1 s1 => ⟨_, rfl, ?_⟩⟩
    cases h2 : lenIs 2 d with
    | false =>
      rw [web_no h2] at k
      exact iteT (k H1 s1)
    | true =>
    obtain ⟨x, y, rfl⟩ := len2 h2
    obtain ⟨b, vx, vy, rfl, eb, hx, hy⟩ := (hd.keep (Kv.of s1)).tup2
    have e0 : webB (.tup [x, y]) = (intIn 0 4000 x && netsB (intOf x) y) := rfl
    rw [e0] at k
    refine iteF ⟨_, rfl, b, _, 0, _, rfl, rfl, SqT.of eb, atI_nat (j := 0) rfl, g, vx, x, 0, 4000, rfl, hx, fun H2 s2 => ⟨_, rfl, ?_⟩⟩
    have s12 := s1.trans s2
    cases n1 : intIn 0 4000 x with
    | false =>
      rw [n1] at k
      exact iteT (k H2 s12)
    | true =>
    rw [n1] at k
    have k : ∀ H', Same H H' → Q (.bl (netsB (intOf x) y)) H' := k
    obtain ⟨lb, rfl⟩ : ∃ i, x = .int i := by
      cases x with
      | int i => exact ⟨i, rfl⟩
      | _ => cases n1
    obtain rfl := hx.int_inv
    refine iteF ⟨_, rfl, b, _, rfl, SqT.of (s2 _ _ eb), rfl, _, _, rfl, _, _, rfl, rfl, ?_⟩
    refine ⟨_, rfl, g, vy, y, 1, 400, rfl, hy.keep (Kv.of s2), fun H3 s3 => ⟨_, rfl, ?_⟩⟩
    have s13 := s12.trans s3
    have hy3 := hy.keep (Kv.of (s2.trans s3))
    -- the heads
    cases y with
    | tup ns =>
      have e1 : netsB (intOf (.int lb)) (.tup ns) = ((lenIn 1 400 (.tup ns) && ns.all headB) && ((decide ((ns.map net0).sum ≤ 4000) && decide ((ns.map fun n => ((netEs n).length : Int)).sum ≤ 8000)) && ns.all fun n => (netEs n).all (edgeB (net0 n) ns.length lb))) := rfl
      rw [e1] at k
      cases n2 : lenIn 1 400 (.tup ns) with
      | false =>
        rw [n2] at k
        exact iteT (k H3 s13)
      | true =>
      rw [n2] at k
      obtain ⟨c, xs, rfl, ec, hxl, rr⟩ := hy3.tup_inv
      refine iteF ⟨_, rfl, c, rfl, ⟨_, SqT.of ec⟩, ?_⟩
      refine lc_tupB (K := K) (f := headB) (i := 3) (vs := [3]) rr ec hxl (fun x => rfl) ?_ ?_
      · intro x d H2' R hm hx s2 hR
        exact ⟨_, rfl, g, x, d, rfl, hx, hR⟩
      intro D H4 s4 hD
      refine ⟨D, ns.map headB, rfl, sql_bl hD, _, rfl, ?_⟩
      rw [all_map]
      have s14 := s13.trans s4
      cases n3 : ns.all headB with
      | false =>
        rw [n3] at k
        exact iteT (k H4 s14)
      | true =>
      rw [n3] at k
      refine iteF ?_
      have hh : ∀ d ∈ ns, headB d = true := fun d hd => List.all_eq_true.mp n3 d hd
      have ec4 := s4 _ _ ec
      have rr4 := rr.keep (Kv.of s4)
      -- the places
      refine ⟨_, rfl, c, rfl, ⟨_, SqT.of ec4⟩, ?_⟩
      refine lc_tupG (K := K) (f := fun d => V.int (net0 d)) (i := 3) (vs := [3]) rr4 ec4 hxl (fun x => rfl) ?_ ?_
      · intro x d H2' R hm hx s2 hR
        obtain ⟨i, es, rfl, _⟩ := head_of (hh d hm)
        obtain ⟨b', vx', vy', rfl, eb', hx', _⟩ := hx.tup2
        obtain rfl := hx'.int_inv
        exact ⟨_, rfl, b', _, 0, _, rfl, rfl, SqT.of eb', atI_nat (j := 0) rfl, hR _ (Same.refl _)⟩
      intro D5 H5 s5 _ hD5
      refine ⟨D5, ns.map net0, rfl, SqL.of (by rw [List.map_map]; exact hD5), _, _, rfl, rfl, _, rfl, ?_⟩
      have s15 := s14.trans s5
      by_cases h4 : (ns.map net0).sum ≤ 4000
      rotate_left
      · rw [decide_eq_false h4] at k
        exact ifT (decide_eq_true (by omega)) (k H5 s15)
      rw [decide_eq_true h4] at k
      refine ifF (decide_eq_false (by omega)) ?_
      have ec5 := s5 _ _ ec4
      have rr5 := rr4.keep (Kv.of s5)
      -- the edges
      refine ⟨_, rfl, c, rfl, ⟨_, SqT.of ec5⟩, ?_⟩
      refine lc_tupG (K := K) (f := fun d => V.int ((netEs d).length : Int)) (i := 3) (vs := [3]) rr5 ec5 hxl (fun x => rfl) ?_ ?_
      · intro x d H2' R hm hx s2 hR
        obtain ⟨i, es, rfl, _⟩ := head_of (hh d hm)
        obtain ⟨b', vx', vy', rfl, eb', _, hy'⟩ := hx.tup2
        obtain ⟨ce, xe, rfl, ece, _, re⟩ := hy'.tup_inv
        refine ⟨_, rfl, b', _, 1, _, rfl, rfl, SqT.of eb', atI_nat (j := 1) rfl, ce, xe, rfl, .inr (SqT.of ece), ?_⟩
        have := hR H2' (Same.refl _)
        rw [show (netEs (.tup [.int i, .tup es])) = es from rfl, ← re.len] at this
        exact this
      intro D6 H6 s6 _ hD6
      refine ⟨D6, ns.map fun n => ((netEs n).length : Int), rfl, SqL.of (by rw [List.map_map]; exact hD6), _, _, rfl, rfl, _, rfl, ?_⟩
      have s16 := s15.trans s6
      by_cases h5 : (ns.map fun n => ((netEs n).length : Int)).sum ≤ 8000
      rotate_left
      · rw [decide_eq_false h5] at k
        exact ifT (decide_eq_true (by omega)) (k H6 s16)
      rw [decide_eq_true h5] at k
      refine ifF (decide_eq_false (by omega)) ?_
      have k : ∀ H', Same H H' → Q (.bl (ns.all fun n => (netEs n).all (edgeB (net0 n) ns.length lb))) H' := k
      have ec6 := s6 _ _ ec5
      have rr6 := rr5.keep (Kv.of s6)
      have hlen := rr.len
      -- each edge
      have bnd : ∀ m : List Dt, (∀ d ∈ m, headB d = true) → ((m.flatMap fun n => (netEs n).map (edgeB (net0 n) ns.length lb)).length : Int) = (m.map fun n => ((netEs n).length : Int)).sum := by
        intro m
        induction m with
        | nil => intro _; rfl
        | cons d m ih =>
          intro hm
          rw [List.flatMap_cons, List.length_append, List.length_map, List.map_cons, List.sum_cons, ← ih fun d hd => hm d (List.mem_cons_of_mem _ hd)]
          omega
      refine ⟨_, rfl, c, rfl, ⟨_, SqT.of ec6⟩, fun D7 hD7 => it_gen (walk_tup (K := K) (a := c) (xs := xs))
        (fun i H' => H' D7 = some (.lst (((ns.take i).flatMap fun n => (netEs n).map (edgeB (net0 n) ns.length lb)).map V.bl)) ∧ Same H6 H') ⟨upd_same, same_new hD7⟩ (fun i H' _ h => SqT.of (h.2 _ _ ec6)) ?_ ?_⟩
      · rintro i x _ H7 hi ⟨h7, s7⟩ ⟨rfl, hxi⟩
        obtain ⟨d, hd, hx7⟩ := rr6.at_ hxi
        have hm := List.mem_of_getElem? hd
        obtain ⟨pl, es, rfl, _⟩ := head_of (hh d hm)
        obtain ⟨b', vx', vy', rfl, eb', hx', hy'⟩ := hx7.tup2
        obtain rfl := hx'.int_inv
        obtain ⟨ce, xe, rfl, ece, hle, re⟩ := hy'.tup_inv
        refine ⟨rfl, ?_⟩
        refine ⟨_, rfl, b', _, 1, _, rfl, rfl, SqT.of (s7 _ _ eb'), atI_nat (j := 1) rfl, ce, rfl, ⟨_, SqT.of (s7 _ _ ece)⟩, it_gen (walk_tup (K := K) (a := ce) (xs := xe))
          (fun j H' => H' D7 = some (.lst ((((ns.take i).flatMap fun n => (netEs n).map (edgeB (net0 n) ns.length lb)) ++ (es.take j).map (edgeB pl ns.length lb)).map V.bl)) ∧ Same H6 H') ⟨by rw [List.take_zero, List.map_nil, List.append_nil]; exact h7, s7⟩ (fun j H' _ h => SqT.of (h.2 _ _ ece)) ?_ ?_⟩
        · rintro j y _ H8 hj ⟨h8, s8⟩ ⟨rfl, hyj⟩
          obtain ⟨e, he, hy8⟩ := re.at_ hyj
          refine ⟨rfl, ?_⟩
          refine ⟨_, rfl, _, rfl, b', _, 0, _, rfl, rfl, SqT.of (s8 _ _ eb'), atI_nat (j := 0) rfl, _, rfl, c, xs, rfl, .inr (SqT.of (s8 _ _ ec6)), _, rfl, ?_⟩
          rw [hlen]
          refine ⟨g, y, e, pl, ns.length, lb, rfl, hy8.keep (Kv.of s8), fun H9 s9 => ⟨_, s9 _ _ h8, ?_, ?_, ?_⟩⟩
          · have hb := bnd (ns.take i) fun d hd => hh d (List.mem_of_mem_take hd)
            have hall := bnd ns hh
            have hsplit : ns = ns.take i ++ ns.drop i := (List.take_append_drop i ns).symm
            rw [List.length_map, List.length_append, List.length_map, List.length_take, sizeLine_eq]
            have h9 : (((ns.take i).flatMap fun n => (netEs n).map (edgeB (net0 n) ns.length lb)).length : Int) ≤ ((ns.flatMap fun n => (netEs n).map (edgeB (net0 n) ns.length lb)).length : Int) := by
              have hq : (ns.flatMap fun n => (netEs n).map (edgeB (net0 n) ns.length lb)).length = ((ns.take i).flatMap fun n => (netEs n).map (edgeB (net0 n) ns.length lb)).length + ((ns.drop i).flatMap fun n => (netEs n).map (edgeB (net0 n) ns.length lb)).length := by
                rw [← List.length_append, ← List.flatMap_append, List.take_append_drop]
              omega
            omega
          · rw [upd_same, List.take_succ, he, List.map_append, List.map_append, List.map_append, List.map_append]
            show some (HO.lst (_ ++ _ ++ [V.bl (edgeB pl ns.length lb e)])) = _
            rw [List.append_assoc]
            rfl
          · intro b o eb
            rw [upd_ne (ne_of_none eb hD7)]
            exact s9 _ _ (s8 _ _ eb)
        · rintro H8 ⟨h8, s8⟩
          refine ⟨?_, s8⟩
          rw [h8, List.take_succ, hd, List.flatMap_append, re.len, List.take_length]
          simp [netEs, net0]
      · rintro H7 ⟨h7, s7⟩
        rw [hlen, List.take_length] at h7
        refine ⟨D7, _, rfl, SqL.of h7, ?_⟩
        have hall : (ns.flatMap fun n => (netEs n).map (edgeB (net0 n) ns.length lb)).all id = ns.all fun n => (netEs n).all (edgeB (net0 n) ns.length lb) := by
          rw [List.all_flatMap]
          congr 1
          funext n
          exact all_map
        rw [hall]
        exact k H7 (s16.trans s7)
    | _ => exact iteT (k H3 s13)
end
end K65

set_option Elab.async false
set_option linter.all false
set_option pp.maxSteps 3000
set_option maxRecDepth 100000
set_option maxHeartbeats 4000000
namespace K65
open PySem PySem.Spec PyProof.Rows L2
/-! enumerate(a tuple) -/
section
variable {P : Program} {w : World}
theorem draws_tup {A : Around} (hh : A.handled = none) (it l : Addr) (ne : l ≠ it) (items : Array Value) : Draws P w A it [it, l] items.size (fun i v => items[i]? = some v) (fun i h => h.IsTupleIter it l i ∧ h.IsTuple l items) := by
  refine ⟨fun i h ⟨⟨o, ho, _⟩, _⟩ => ⟨o, ho⟩, fun i h h' ⟨⟨o, ho, r⟩, ⟨o2, ho2, r2⟩⟩ k => ⟨⟨o, k it (by simp) o ho, r⟩, ⟨o2, k l (by simp) o2 ho2, r2⟩⟩, ?_, ?_⟩
  · intro i s Q E hi ⟨z1, z2⟩ q
    refine RZ.nextOf_tuple_item z1 z2 (Array.getElem?_eq_getElem hi) fun h' z3 sb => ?_
    refine q _ h' s.toks (Array.getElem?_eq_getElem hi) ⟨z3, ?_⟩ sb
    obtain ⟨o2, ho2, r2⟩ := z2
    exact ⟨o2, by rw [sb.2 l ne]; exact ho2, r2⟩
  · intro s Q E ⟨z1, z2⟩ q
    exact RZ.nextOf_tuple_end hh z1 z2 (by simp) q
theorem draws_end {A : Around} (hh : A.handled = none) (it l : Addr) (items : Array Value) (i : Nat) (hi : items.size ≤ i) : Draws P w A it [it, l] i (fun _ _ => True) (fun j h => j = i ∧ h.IsTupleIter it l i ∧ h.IsTuple l items) := by
  refine ⟨fun j h ⟨_, ⟨o, ho, _⟩, _⟩ => ⟨o, ho⟩, fun j h h' ⟨e, ⟨o, ho, r⟩, ⟨o2, ho2, r2⟩⟩ k => ⟨e, ⟨o, k it (by simp) o ho, r⟩, ⟨o2, k l (by simp) o2 ho2, r2⟩⟩, ?_, ?_⟩
  · intro j s Q E hj ⟨e, _⟩ q
    omega
  · intro s Q E ⟨_, z1, z2⟩ q
    exact RZ.nextOf_tuple_end hh z1 z2 (by simpa using hi) q
theorem enum_new {A : Around} {E : Value → Shared → Prop} {s : Shared} {l : Addr} {items : Array Value} {Q : Value → Shared → Prop} (hl : s.heap.IsTuple l items)
    (h : ∀ h' : Heap, IsEnum h' (s.heap.objs.size + 1) s.heap.objs.size 0 .none → h'.IsTupleIter s.heap.objs.size l 0 → h'.objs.size = s.heap.objs.size + 2 → (∀ b o, s.heap.get? b = some o → h'.get? b = some o) → Q (.ref (s.heap.objs.size + 1)) { s with heap := h' }) :
    wpAny (model P w) A (call (.type "enumerate") [.ref l]) Q E s := by
  have M : Meets (Builtin.«enumerate.__new__» { pos := [Value.type "enumerate", Value.ref l] }) fun x R s => ∃ items, s.heap.IsTuple l items ∧ R (.ok (.ret (.ref (s.heap.push { cls := .type "tuple_iterator", data := .fields #[.ref l, .int 0 0] }).objs.size)))
      { s with heap := (s.heap.push { cls := .type "tuple_iterator", data := .fields #[.ref l, .int 0 0] }).push { cls := .type "enumerate", data := .fields #[.none, .bool false, .ref s.heap.objs.size, rawInt 0, .none, .none] } } := by
    refine Meets.of_wp fun P w A R s hR => ?_
    obtain ⟨items, hl, hR⟩ := hR
    have s1 := PySem.sub_enumerate
    unfold Builtin.«enumerate.__new__»
    generalize hPI : pyIter = PI
    wp_walk
    refine wpAny_stack_any fun st => thn (Q := fun (_ : Bool) s' => s' = s) (wpAny_pure rfl) fun short s' hs => ?_
    subst hs
    cases short with
    | true =>
      wp_walk
      subst hPI
      refine wpAny_pyIter_tuple hl ?_
      wp_walk
      exact ⟨_, rfl, hR⟩
    | false =>
      wp_walk
      subst hPI
      refine wpAny_pyIter_tuple hl ?_
      wp_walk
      exact ⟨_, rfl, hR⟩
  refine callType_new PySem.F.called_enumerate (by decide) (PySem.F.typeCall_enumerate_1 _) (PySem.F.newCall_enumerate_1 _) (fun obj => PySem.F.args_object_init_2 _ _) PySem.F.entry_enumerate_new M ?_
  have sz1 : (s.heap.push { cls := .type "tuple_iterator", data := .fields #[.ref l, .int 0 0] }).objs.size = s.heap.objs.size + 1 := Heap.size_push ..
  refine ⟨items, hl, ?_⟩
  have g2 : ((s.heap.push { cls := .type "tuple_iterator", data := .fields #[.ref l, .int 0 0] }).push { cls := .type "enumerate", data := .fields #[.none, .bool false, .ref s.heap.objs.size, rawInt 0, .none, .none] }).get? (s.heap.objs.size + 1) = some { cls := .type "enumerate", data := .fields #[.none, .bool false, .ref s.heap.objs.size, rawInt 0, .none, .none] } := by
    rw [← sz1]
    exact Heap.get?_push_size _ rfl
  have g1 : ((s.heap.push { cls := .type "tuple_iterator", data := .fields #[.ref l, .int 0 0] }).push { cls := .type "enumerate", data := .fields #[.none, .bool false, .ref s.heap.objs.size, rawInt 0, .none, .none] }).get? s.heap.objs.size = some { cls := .type "tuple_iterator", data := .fields #[.ref l, .int 0 0] } := Heap.get?_push_of_some _ (Heap.get?_push_size _ rfl)
  rw [sz1]
  refine ⟨⟨_, g2, rfl⟩, h _ g2 ⟨_, g1, rfl, rfl⟩ ?_ fun b o e => Heap.get?_push_of_some _ (Heap.get?_push_of_some _ e)⟩
  rw [Heap.size_push, sz1]
def IteT (K : PySem.W.Frag) (a : Addr) : It :=
  { go := fun i H => ∃ xs x, SqT K H a xs ∧ xs[i]? = some x
    yld := fun i H v H' => ∃ T x, v = V.ref T ∧ H T = none ∧ H' = upd H T (HO.tup [V.int (i : Nat), x]) ∧ ∀ (xs : List V), SqT K H a xs → xs[i]? = some x
    stop := fun i H => ∃ xs, SqT K H a xs ∧ xs.length ≤ i }
theorem turn_enumT {K : PySem.W.Frag} {elts : List Expr} {kk : Nat} {tpos : Pos} (a e it : Addr) : Turn P w K (.Tuple elts kk tpos) (IteT K a) [e, it] e (fun i h => (∃ old, IsEnum h e it (i : Nat) old) ∧ h.IsTupleIter it a i ∧ e ≠ it) := by
  refine ⟨by simp, ?_, ?_, ?_, ?_, ?_⟩
  · rintro i h ⟨⟨old, h1⟩, ⟨o, h2, _, h3⟩, ne⟩ b hb
    simp only [List.mem_cons, List.not_mem_nil, or_false] at hb
    rcases hb with rfl | rfl
    · exact ⟨_, h1, fun v z => by cases z⟩
    · exact ⟨_, h2, fun v z => by rw [h3] at z; cases z⟩
  · rintro i h h' ⟨⟨old, h1⟩, ⟨o, h2, h3⟩, ne⟩ k
    exact ⟨⟨old, k e (by simp) _ h1⟩, ⟨o, k it (by simp) _ h2, h3⟩, ne⟩
  · rintro X rfl rfl rfl hc i pins s σ H E I fp ⟨⟨old, h1⟩, h2, ne⟩ ⟨xs, x, hq, hx⟩
    obtain ⟨its, rv, tp, hz⟩ := I.tuple hq
    obtain ⟨oa, hoa, hca, na, hda⟩ := tp
    have nea : a ≠ e := fun z => by
      rw [z, h1] at hoa
      cases hoa
      exact absurd (show Value.type "enumerate" = Value.type "tuple" from hca) (by decide)
    have neit : a ≠ it := fun z => by
      obtain ⟨o, h3, h4, _⟩ := h2
      rw [z, h3] at hoa
      cases hoa
      rw [h4] at hca
      exact absurd hca (by decide)
    have hh : X.A.in1.handled = none := I.ok.hd hc
    have W := WalksT.enumerateD (draws_tup (P := X.prog) (w := X.w) hh it a neit its.toArray) e ne (by simp only [List.mem_cons, List.not_mem_nil, or_false, not_or]; exact ⟨ne, fun z => nea z.symm⟩) (by simp)
    have hi : i < its.toArray.size := by
      have := (List.getElem?_eq_some_iff.mp hx).1
      rw [rv.length] at this
      simpa using this
    refine W.item i s _ _ hi ⟨⟨old, h1⟩, h2, ⟨oa, hoa, hca, na, hda⟩⟩ fun T vals h' tk hp hT htup hmid hk => ⟨_, rfl, ?_⟩
    obtain ⟨t, y, hy, rfl⟩ := hp
    have apT := W.apart i T h' hmid
    refine W.go elts kk tpos i T _ _ _ hmid fun h'' hst hk2 => ?_
    obtain ⟨⟨old2, k1⟩, k2, _⟩ := hst
    have hT0 : H T = none := HOk.fresh I.hok hT
    obtain ⟨y', hy', ry⟩ := rv.get hx
    have ey : y' = y := by
      rw [← Array.getElem?_toList] at hy
      have hy : its[i]? = some y := by simpa using hy
      rw [hy'] at hy
      exact Option.some.inj hy
    subst ey
    obtain ⟨oT, hoT, hcT, nT, hdT⟩ := htup
    have tupT : IsTup h'' T #[Value.int (i : Nat) t, y'] := ⟨oT, hk2 T _ apT hoT, hcT, nT, hdT⟩
    refine ⟨.ref T, upd H T (.tup [.int (i : Nat), x]), ?_, rfl, ⟨T, x, rfl, hT0, rfl, fun ys hys => ?_⟩, ⟨⟨old2, k1⟩, k2, ne⟩, fun b hb => ?_⟩
    · refine I.turnedNew (ch := [e, it]) (fun b o nb eb => hk2 b o nb (hk b o nb eb)) fp hT ?_
      refine ⟨by rw [sizeLine_eq]; show 2 ≤ 16777216; decide, [Value.int (i : Nat) t, y'], .cons ⟨t, rfl⟩ (.cons ry .nil), tupT⟩
    · rw [I.tuple_inj hys hq]
      exact hx
    · rw [upd_ne]
      · exact (fp b hb).1
      · intro z
        have hb2 := fun o (ho : s.heap.get? b = some o) => Heap.lt_size ho
        simp only [List.mem_cons, List.not_mem_nil, or_false] at hb
        rcases hb with rfl | rfl
        · exact absurd (hb2 _ h1) (Nat.not_lt.mpr (z ▸ hT))
        · obtain ⟨o, h3, _⟩ := h2
          exact absurd (hb2 _ h3) (Nat.not_lt.mpr (z ▸ hT))
  · rintro X rfl rfl rfl hc i pins s σ H E I fp ⟨⟨old, h1⟩, h2, ne⟩ ⟨xs, hq, hx⟩
    obtain ⟨its, rv, tp, hz⟩ := I.tuple hq
    obtain ⟨oa, hoa, hca, na, hda⟩ := tp
    have hlen := rv.length
    have nea : a ≠ e := fun z => by
      rw [z, h1] at hoa
      cases hoa
      exact absurd (show Value.type "enumerate" = Value.type "tuple" from hca) (by decide)
    have hh : X.A.in1.handled = none := I.ok.hd hc
    have D := draws_end (P := X.prog) (w := X.w) hh it a its.toArray i (by simp; omega)
    have W := WalksT.enumerateD D e ne (by simp only [List.mem_cons, List.not_mem_nil, or_false, not_or]; exact ⟨ne, fun z => nea z.symm⟩) (by simp)
    refine W.done s _ _ ⟨⟨old, h1⟩, rfl, h2, ⟨oa, hoa, hca, na, hda⟩⟩ fun h' tk hk => ⟨rfl, ?_⟩
    exact I.turnedL (ch := [e, it]) (fun b o nb eb => hk b o nb eb) fp
  · rintro A i s Q E ⟨⟨old, h1⟩, _, _⟩ q
    exact wpAny_pyIter_enum h1 q
end
def iEnumT (K : PySem.W.Frag) (ta : TA) : TI := fun σ H R => ta σ H fun vs H1 => ∃ a xs, vs = [.ref a] ∧ SqT K H1 a xs ∧ R (IteT K a) H1
theorem pi_enumT {X : Cx} {e : Expr} {ta : TA} {p pos tpos : Pos} {elts : List Expr} {kk : Nat} (hg : Gl X "enumerate") (hm : X.mg "enumerate" = none) (ha : PA X [e] ta) (na : starEach [e] X.env = [(false, eval e X.env)] := by rfl) :
    PI X (.Tuple elts kk tpos) (.Call (.Name "enumerate" p) [e] [] pos) (iEnumT X.K ta) := by
  constructor
  intro pins s σ H R I h
  refine Call_ (ld_blt I hg hm boot_enumerate (PyProof.Rows.callWith_type1 (thn (ha.run _ pins s σ H _ I h) fun us s1 hv => ?_) (by rw [na] <;> rfl) rfl))
  obtain ⟨vs, H1, I1, rv, a, xs, rfl, hq, hR⟩ := hv
  cases rv with
  | cons r0 r1 =>
    cases r1
    rename_i u
    obtain rfl : u = Value.ref a := r0
    obtain ⟨its, r, tp, hz⟩ := I1.tuple hq
    refine enum_new tp fun h' k1 k2 k3 k4 => ?_
    refine wpAny_pyIter_enum k1 ?_
    have I2 : Inv X pins σ H1 { s1 with heap := h' } := I1.kept (t' := s1.toks) k4
    refine ⟨s1.heap.objs.size + 1, [s1.heap.objs.size + 1, s1.heap.objs.size], _, IteT X.K a, H1, rfl, I2, turn_enumT a (s1.heap.objs.size + 1) s1.heap.objs.size, ⟨⟨_, k1⟩, k2, Nat.succ_ne_self _⟩, fun b hb => ?_, hR⟩
    have hb' : s1.heap.objs.size ≤ b := by
      simp only [List.mem_cons, List.not_mem_nil, or_false] at hb
      rcases hb with rfl | rfl
      · exact Nat.le_succ _
      · exact Nat.le_refl _
    exact I1.fpOk hb' (HOk.fresh I1.hok hb')
theorem walk_enumT {K : PySem.W.Frag} {a : Addr} {xs : List V} : Walk (IteT K a) xs.length (fun H => SqT K H a xs) (YPair (fun i => some (.int (i : Nat))) (fun i => xs[i]?)) := by
  refine ⟨fun i H hi hq => ⟨xs, xs[i], hq, List.getElem?_eq_getElem hi⟩, fun H hq => ⟨xs, hq, Nat.le_refl _⟩, fun i H x H' hi hq hy => ?_⟩
  obtain ⟨T, y, rfl, hT, rfl, k⟩ := hy
  exact ⟨T, _, y, rfl, hT, rfl, rfl, k xs hq⟩
theorem pi_or {X : Cx} {tg e : Expr} {w1 w2 : TI} (h1 : PI X tg e w1) (h2 : PI X tg e w2) : PI X tg e (fun σ H R => w1 σ H R ∨ w2 σ H R) :=
  ⟨fun pins s σ H R I h => h.elim (fun h => h1.run pins s σ H R I h) (fun h => h2.run pins s σ H R I h)⟩
structure Er (K : PySem.W.Frag) (mg : Str → Option Value) (x : Str) (C : Addr) : Prop where
  mC : mg x = some (.ref C)
  exI : PySem.W.excIn K C [.type "ValueError", .type "Exception", .type "BaseException", .type "object"] "ValueError.__new__" = true
  kC : PySem.W.keepIn K (.ref C) = true
  sub : PySem.W.subIn K (.ref C) (.type "BaseException") = some true
  ty : PySem.W.typeIn K (.ref C) = some (.type "type")
end K65

set_option Elab.async false
set_option linter.all false
set_option pp.maxSteps 900
set_option maxRecDepth 100000
set_option maxHeartbeats 4000000
namespace K65
open PySem PySem.Spec PyProof.Rows L2
open TL (tl)
/-! ### webs -/
structure Ed where
  p : Int
  t : Int
  c : Option Int
  b : Int
  l : List Int
def oI : Option Int → Dt
  | none => .non
  | some i => .int i
def oIV : Option Int → V
  | none => .non
  | some i => .int i
def edD (e : Ed) : Dt := .tup [.int e.p, .int e.t, oI e.c, .int e.b, .tup (e.l.map Dt.int)]
def ntD (n : Int × List Ed) : Dt := .tup [.int n.1, .tup (n.2.map edD)]
structure Web where
  lb : Int
  ns : List (Int × List Ed)
def wbD (W : Web) : Dt := .tup [.int W.lb, .tup (W.ns.map ntD)]
structure OkE (places nets labels : Int) (e : Ed) : Prop where
  p : 0 ≤ e.p ∧ e.p ≤ places - 2
  t : 0 ≤ e.t ∧ e.t ≤ places - 1
  c : ∀ i, e.c = some i → 0 ≤ i ∧ i ≤ nets - 1
  b : -1000000000 ≤ e.b ∧ e.b ≤ 1000000000
  l : e.l.length ≤ 8
  k : ∀ i ∈ e.l, 0 ≤ i ∧ i ≤ labels - 1
structure OkW (W : Web) : Prop where
  lb : 0 ≤ W.lb ∧ W.lb ≤ 4000
  n1 : 1 ≤ W.ns.length
  n4 : W.ns.length ≤ 400
  pos : ∀ n ∈ W.ns, 1 ≤ n.1
  sp : (W.ns.map (·.1)).sum ≤ 4000
  se : (W.ns.map fun n => (n.2.length : Int)).sum ≤ 8000
  ed : ∀ n ∈ W.ns, ∀ e ∈ n.2, OkE n.1 W.ns.length W.lb e
theorem int_in {lo hi : Int} {d : Dt} : intIn lo hi d = true ↔ ∃ i, d = .int i ∧ lo ≤ i ∧ i ≤ hi := by
  cases d with
  | int i =>
    show (decide (lo ≤ i) && decide (i ≤ hi)) = true ↔ _
    rw [Bool.and_eq_true, decide_eq_true_iff, decide_eq_true_iff]
    constructor
    · intro h
      exact ⟨i, rfl, h⟩
    · rintro ⟨j, e, h⟩
      injection e with e
      subst e
      exact h
  | _ =>
    refine ⟨(fun h => by cases h), ?_⟩
    rintro ⟨_, e, _⟩
    cases e
theorem map_dec {α : Type} {f : α → Dt} {p : α → Prop} : ∀ {ds : List Dt}, (∀ d ∈ ds, ∃ a, d = f a ∧ p a) → ∃ l : List α, ds = l.map f ∧ ∀ a ∈ l, p a
  | [], _ => ⟨[], rfl, fun a h => by cases h⟩
  | d :: ds, h => by
    obtain ⟨a, rfl, ha⟩ := h d List.mem_cons_self
    obtain ⟨l, rfl, hl⟩ := map_dec fun d hd => h d (List.mem_cons_of_mem _ hd)
    refine ⟨a :: l, rfl, fun b hb => ?_⟩
    rcases List.mem_cons.mp hb with rfl | hb
    · exact ha
    · exact hl b hb
theorem ed_dec {pl nt lb : Int} {d : Dt} (h : edgeB pl nt lb d = true) : ∃ e, d = edD e ∧ OkE pl nt lb e := by
  cases h5 : lenIs 5 d with
  | false =>
    rw [edge_no h5] at h
    cases h
  | true =>
    obtain ⟨p, t, c, b, l, rfl⟩ := len5 h5
    have h : ((intIn 0 (pl - 2) p && intIn 0 (pl - 1) t) && ((callB nt c && intIn (-1000000000) 1000000000 b) && toldB lb l)) = true := h
    simp only [Bool.and_eq_true] at h
    obtain ⟨⟨h1, h2⟩, ⟨h3, h4⟩, h6⟩ := h
    obtain ⟨p, rfl, hp⟩ := int_in.mp h1
    obtain ⟨t, rfl, ht⟩ := int_in.mp h2
    obtain ⟨b, rfl, hb⟩ := int_in.mp h4
    obtain ⟨c', rfl, hc⟩ : ∃ c', c = oI c' ∧ ∀ i, c' = some i → 0 ≤ i ∧ i ≤ nt - 1 := by
      cases c with
      | non => exact ⟨none, rfl, fun i e => by cases e⟩
      | int i =>
        obtain ⟨j, e, hj⟩ := int_in.mp (show intIn 0 (nt - 1) (.int i) = true from h3)
        injection e with e
        subst e
        exact ⟨some i, rfl, fun k e => by injection e with e; rw [← e]; exact hj⟩
      | _ => cases h3
    cases l with
    | tup ks =>
      have h6 : (decide (ks.length ≤ 8) && ks.all (intIn 0 (lb - 1))) = true := h6
      rw [Bool.and_eq_true, decide_eq_true_iff, List.all_eq_true] at h6
      obtain ⟨l, rfl, hl⟩ := map_dec (f := Dt.int) (p := fun i => 0 ≤ i ∧ i ≤ lb - 1) (ds := ks) fun d hd => int_in.mp (h6.2 d hd)
      rw [List.length_map] at h6
      exact ⟨⟨p, t, c', b, l⟩, rfl, hp, ht, hc, hb, h6.1, hl⟩
    | _ => cases h6
theorem web_dec {d : Dt} (h : webB d = true) : ∃ W, d = wbD W ∧ OkW W := by
  cases h2 : lenIs 2 d with
  | false =>
    rw [web_no h2] at h
    cases h
  | true =>
    obtain ⟨x, y, rfl⟩ := len2 h2
    have h : (intIn 0 4000 x && netsB (intOf x) y) = true := h
    rw [Bool.and_eq_true] at h
    obtain ⟨lb, rfl, hlb⟩ := int_in.mp h.1
    cases y with
    | tup ns =>
      have h := h.2
      have h : ((lenIn 1 400 (.tup ns) && ns.all headB) && ((decide ((ns.map net0).sum ≤ 4000) && decide ((ns.map fun n => ((netEs n).length : Int)).sum ≤ 8000)) && ns.all fun n => (netEs n).all (edgeB (net0 n) ns.length lb))) = true := h
      simp only [Bool.and_eq_true, decide_eq_true_iff] at h
      obtain ⟨⟨h1, h3⟩, ⟨h4, h5⟩, h6⟩ := h
      have h1 : (decide ((1 : Int) ≤ (ns.length : Int)) && decide ((ns.length : Int) ≤ 400)) = true := h1
      rw [Bool.and_eq_true, decide_eq_true_iff, decide_eq_true_iff] at h1
      obtain ⟨l, hl, hp⟩ := map_dec (f := ntD) (p := fun n => 1 ≤ n.1 ∧ ∀ e ∈ n.2, OkE n.1 ns.length lb e) (ds := ns) fun d hd => by
        obtain ⟨i, es, rfl, hi⟩ := head_of (List.all_eq_true.mp h3 d hd)
        have h7 := List.all_eq_true.mp h6 _ hd
        obtain ⟨el, rfl, he⟩ := map_dec (f := edD) (p := OkE i ns.length lb) (ds := es) fun e hm => ed_dec (List.all_eq_true.mp (show es.all (edgeB i ns.length lb) = true from h7) e hm)
        exact ⟨(i, el), rfl, hi, he⟩
      have hlen : ns.length = l.length := by rw [hl, List.length_map]
      subst hl
      have m1 : (l.map ntD).map net0 = l.map (·.1) := by
        rw [List.map_map]
        rfl
      have m2 : ((l.map ntD).map fun n => ((netEs n).length : Int)) = l.map fun n => (n.2.length : Int) := by
        rw [List.map_map]
        refine List.map_congr_left fun n _ => ?_
        show (((n.2.map edD).length : Nat) : Int) = _
        rw [List.length_map]
      rw [m1] at h4
      rw [m2] at h5
      refine ⟨⟨lb, l⟩, rfl, hlb, by show 1 ≤ l.length; omega, by show l.length ≤ 400; omega, fun n hn => (hp n hn).1, h4, h5, fun n hn e he => ?_⟩
      have := (hp n hn).2 e he
      rw [hlen] at this
      exact this
    | _ => cases h.2
def spNeed (C : Addr) : Sp := fun vs H Q Ex => ∃ (g : Addr) (v : V) (d : Dt), vs = [v] ∧ DV g H v d ∧ (webB d = true → ∀ H', Same H H' → Q .non H') ∧ (webB d = false → ∀ H', Same H H' → Ex (.ref C) none H')
section
variable {P : Program} {w : World} {K : PySem.W.Frag} {mg : Str → Option Value} {base : Heap}
theorem scNeed : FnScope ["web"] ["web"] (defScope sNeed) := ⟨rfl, rfl, rfl, by decide +kernel, rfl, by decide +kernel, by decide +kernel⟩
theorem ok_need {f C : Addr} {fd : FuncData} (F : Fun K "need_web" "need_web" sNeed f fd) (R : Er K mg "BadWeb" C) (cWeb : Cl P w K mg base "is_web" ["value"] 4 (spAsk webB)) : FnOk P w K mg base (L2.CX P w) 5 f fd ["web"] (spNeed C) := by
  obtain ⟨fWeb, fdWeb, GWeb, mWeb, kWeb, bWeb⟩ := cWeb
  refine F.okX scNeed (fun vs H Q E h => ?_) (fun cdv A outer s H vs Q Ex hr h => ?_)
  · obtain ⟨g, v, d, rfl, _⟩ := h
    rfl
  · obtain ⟨g, v, d, rfl, hd, k1, k2⟩ := h
    refine ⟨_, (pss_one (ps_if (pt_not (pt_val (pe_call GWeb hr (by rfl) mWeb kWeb bWeb .nil pass0 (pa_cons (pv 0) pa_nil)))) (pss_one (ps_raise rfl (takes_of rfl rfl rfl rfl) (pmk_own PySem.F.excBase_ValueError R.exI R.mC R.kC (raises_own R.sub R.ty) (by rfl)))) pss_nil)), ?_⟩
    refine ⟨_, rfl, g, v, d, rfl, hd, fun H1 s1 => ⟨_, rfl, ?_⟩⟩
    cases h : webB d with
    | true => exact ifF rfl (k1 h H1 s1)
    | false => exact ifT rfl (k2 h H1 s1)
end
end K65

set_option Elab.async false
set_option linter.all false
set_option pp.maxSteps 900
set_option maxRecDepth 100000
set_option maxHeartbeats 4000000
namespace K65
open PySem PySem.Spec PyProof.Rows L2
open TL (tl)
/-! ### the place behind steps -/
def seqOf : Dt → Option (List Dt)
  | .lst l => some l
  | .tup l => some l
  | _ => none
def atD : Dt → Dt
  | .tup [a, _] => a
  | d => d
def inner (known : Nat) (ws : List Dt) (c : Int) : Dt → Bool
  | .tup [_, .int j] => decide (0 ≤ j ∧ j ≤ (known : Int) - 1) && (match ws[j.toNat]? with
    | some (.tup [.int n, _]) => decide (n = c)
    | _ => false)
  | _ => false
def stepE (es : List Ed) (ws : List Dt) (known : Nat) (pl : Int) (s : Dt) : Option Int :=
  match atD s with
  | .int k => if 0 ≤ k ∧ k ≤ (es.length : Int) - 1 then
      (match es[k.toNat]? with
        | some e => if e.p = pl then
            (match e.c with
              | none => if isTup s = true then none else some e.t
              | some c => if isTup s = true then (if inner known ws c s = true then some e.t else none) else none)
          else none
        | none => none)
    else none
  | _ => none
def pbL (es : List Ed) (ws : List Dt) (known : Nat) : List Dt → Int → Option Int
  | [], pl => some pl
  | s :: r, pl => (stepE es ws known pl s).bind (pbL es ws known r)
def pbOf (es : List Ed) (ws : List Dt) (known : Nat) (sd : Dt) (pl : Int) : Option Int :=
  match sd with
  | .tup ss => pbL es ws known ss pl
  | _ => none
def spPB : Sp := fun vs H Q _ => ∃ (g : Addr) (vw vws vword : V) (W : Web) (dws sd : Dt) (ws : List Dt) (known : Nat) (net pl : Int) (nt : Int × List Ed), vs = [vw, vws, .int (known : Nat), vword, .int pl] ∧ DV g H vw (wbD W) ∧ OkW W ∧ DV g H vws dws ∧ seqOf dws = some ws ∧
  DV g H vword (.tup [.int net, sd]) ∧ 0 ≤ net ∧ W.ns[net.toNat]? = some nt ∧ known ≤ ws.length ∧ (∀ j, j < known → ∃ (nj : Int) (sj : Dt), ws[j]? = some (.tup [.int nj, sj])) ∧ ∀ H', Same H H' → Q (oIV (pbOf nt.2 ws known sd pl)) H'
section
variable {g : Addr} {H : Hp} {v : V}
theorem wb_at {W : Web} (h : DV g H v (wbD W)) : ∃ b c xs, v = .ref b ∧ H b = some (.tup [.int W.lb, .ref c]) ∧ H c = some (.tup xs) ∧ DVs g H xs (W.ns.map ntD) := by
  obtain ⟨b, vx, vy, rfl, e, hx, hy⟩ := h.tup2
  obtain rfl := hx.int_inv
  obtain ⟨c, xs, rfl, ec, _, r⟩ := hy.tup_inv
  exact ⟨b, c, xs, rfl, e, ec, r⟩
theorem nt_at {n : Int × List Ed} (h : DV g H v (ntD n)) : ∃ b c xs, v = .ref b ∧ H b = some (.tup [.int n.1, .ref c]) ∧ H c = some (.tup xs) ∧ DVs g H xs (n.2.map edD) := by
  obtain ⟨b, vx, vy, rfl, e, hx, hy⟩ := h.tup2
  obtain rfl := hx.int_inv
  obtain ⟨c, xs, rfl, ec, _, r⟩ := hy.tup_inv
  exact ⟨b, c, xs, rfl, e, ec, r⟩
theorem oI_inv {o : Option Int} (h : DV g H v (oI o)) : v = oIV o := by
  cases o with
  | none => cases h; rfl
  | some i => exact h.int_inv
theorem ed_at {e : Ed} (h : DV g H v (edD e)) : ∃ b a, v = .ref b ∧ H b = some (.tup [.int e.p, .int e.t, oIV e.c, .int e.b, .ref a]) ∧ ∃ xs, H a = some (.tup xs) ∧ DVs g H xs (e.l.map Dt.int) := by
  obtain ⟨b, vp, vt, vc, vb, vl, rfl, eb, hp, ht, hc, hb, hl⟩ := h.tup5
  obtain rfl := hp.int_inv
  obtain rfl := ht.int_inv
  obtain rfl := hb.int_inv
  obtain rfl := oI_inv hc
  obtain ⟨a, xs, rfl, ea, _, r⟩ := hl.tup_inv
  exact ⟨b, a, rfl, eb, xs, ea, r⟩
end
theorem seq_at {K : PySem.W.Frag} {g : Addr} {H : Hp} {v : V} {d : Dt} {ws : List Dt} (h : DV g H v d) (hs : seqOf d = some ws) : ∃ a xs, v = .ref a ∧ DVs g H xs ws ∧ ws.length ≤ 20000 ∧ ∀ H', Same H H' → (SqL K H' a xs ∨ SqT K H' a xs) := by
  cases h with
  | lst e n hl r =>
    obtain rfl := Option.some.inj hs
    exact ⟨_, _, rfl, r, hl, fun H' s' => .inl (SqL.of (s' _ _ e))⟩
  | tup e hl r =>
    obtain rfl := Option.some.inj hs
    exact ⟨_, _, rfl, r, hl, fun H' s' => .inr (SqT.of (s' _ _ e))⟩
  | _ => cases hs
theorem rix_of {K : PySem.W.Frag} {H : Hp} {a : Addr} {xs : List V} {j : Int} {v : V} {Q : VK} (h : SqL K H a xs ∨ SqT K H a xs) (e : atI xs j = some v) (q : Q v H) : rIx K (.ref a) (.int j) H Q :=
  h.elim (fun h => .inl ⟨a, xs, j, v, rfl, rfl, h, e, q⟩) (fun h => .inr (.inl ⟨a, xs, j, v, rfl, rfl, h, e, q⟩))
theorem at_int {xs : List V} {j : Int} {v : V} (h0 : 0 ≤ j) (h : xs[j.toNat]? = some v) : atI xs j = some v := by
  have := atI_nat h
  rw [Int.toNat_of_nonneg h0] at this
  exact this
theorem atD_no {d : Dt} (h : lenIs 2 d = false) : atD d = d := by
  cases d with
  | tup xs =>
    match xs, h with
    | [_, _], h => cases h
    | [], _ | [_], _ | _ :: _ :: _ :: _, _ => rfl
  | _ => rfl
theorem atD_int {d : Dt} {k : Int} (h : atD d = .int k) : d = .int k ∨ ∃ y, d = .tup [.int k, y] := by
  cases h2 : lenIs 2 d with
  | true =>
    obtain ⟨x, y, rfl⟩ := len2 h2
    obtain rfl : x = .int k := h
    exact .inr ⟨y, rfl⟩
  | false =>
    rw [atD_no h2] at h
    exact .inl h
section
variable {P : Program} {w : World} {K : PySem.W.Frag} {mg : Str → Option Value} {base : Heap}
end
end K65

set_option Elab.async false
set_option linter.all false
set_option pp.maxSteps 900
set_option maxRecDepth 100000
set_option maxHeartbeats 4000000
namespace K65
open PySem PySem.Spec PyProof.Rows L2
open TL (tl)
/-! ### lists of words -/
def wB2 (W : Web) (ws : List Dt) (at_ : Nat) (sd : Dt) : Dt → Bool
  | .int n => decide (0 ≤ n ∧ n ≤ (W.ns.length : Int) - 1) && (match W.ns[n.toNat]? with
    | some nt => decide (pbOf nt.2 ws at_ sd 0 = some (nt.1 - 1))
    | none => false)
  | _ => false
def wB1 (W : Web) (ws : List Dt) (at_ : Nat) : Dt → Bool
  | .tup [a, sd] => wB2 W ws at_ sd a
  | _ => false
def wB (W : Web) (ws : List Dt) (at_ : Nat) : Bool :=
  match ws[at_]? with
  | some d => wB1 W ws at_ d
  | none => false
def wordsB (W : Web) (d : Dt) : Bool :=
  match seqOf d with
  | some ws => (List.range ws.length).all (wB W ws)
  | none => false
theorem wB1_no {W : Web} {ws : List Dt} {j : Nat} {d : Dt} (h : lenIs 2 d = false) : wB1 W ws j d = false := by
  cases d with
  | tup xs =>
    match xs, h with
    | [_, _], h => cases h
    | [], _ | [_], _ | _ :: _ :: _ :: _, _ => rfl
  | _ => rfl
theorem wB_shape {W : Web} {ws : List Dt} {j : Nat} (h : wB W ws j = true) : ∃ (n : Int) (sd : Dt) (nt : Int × List Ed), ws[j]? = some (.tup [.int n, sd]) ∧ 0 ≤ n ∧ W.ns[n.toNat]? = some nt ∧ pbOf nt.2 ws j sd 0 = some (nt.1 - 1) := by
  unfold wB at h
  cases e : ws[j]? with
  | none => rw [e] at h; cases h
  | some d =>
    rw [e] at h
    have h : wB1 W ws j d = true := h
    cases h2 : lenIs 2 d with
    | false =>
      rw [wB1_no h2] at h
      cases h
    | true =>
    obtain ⟨a, sd, rfl⟩ := len2 h2
    have h : wB2 W ws j sd a = true := h
    cases a with
    | int n =>
      have h : (decide (0 ≤ n ∧ n ≤ (W.ns.length : Int) - 1) && (match W.ns[n.toNat]? with
        | some nt => decide (pbOf nt.2 ws j sd 0 = some (nt.1 - 1))
        | none => false)) = true := h
      rw [Bool.and_eq_true, decide_eq_true_iff] at h
      cases e2 : W.ns[n.toNat]? with
      | none => rw [e2] at h; cases h.2
      | some nt =>
        rw [e2] at h
        exact ⟨n, sd, nt, rfl, h.1.1, e2, of_decide_eq_true h.2⟩
    | _ => cases h
theorem wordsB_no {W : Web} {d : Dt} {ws : List Dt} {j : Nat} (hs : seqOf d = some ws) (hj : j < ws.length) (h : wB W ws j = false) : wordsB W d = false := by
  unfold wordsB
  rw [hs]
  show (List.range ws.length).all (wB W ws) = false
  cases e : (List.range ws.length).all (wB W ws) with
  | false => rfl
  | true =>
    have := List.all_eq_true.mp e j (List.mem_range.mpr hj)
    rw [h] at this
    cases this
def spAW : Sp := fun vs H Q _ => ∃ (g : Addr) (vw vws : V) (W : Web) (d : Dt), vs = [vw, vws] ∧ DV g H vw (wbD W) ∧ OkW W ∧ DV g H vws d ∧ ∀ H', Same H H' → Q (.bl (wordsB W d)) H'
section
variable {P : Program} {w : World} {K : PySem.W.Frag} {mg : Str → Option Value} {base : Heap}
end
end K65

set_option Elab.async false
set_option linter.all false
set_option pp.maxSteps 900
set_option maxRecDepth 100000
set_option maxHeartbeats 4000000
namespace K65
open PySem PySem.Spec PyProof.Rows L2
open TL (tl)
theorem purs_map {α : Type} {f : α → Dt} : ∀ {l : List α}, (∀ a ∈ l, pur (f a) = true) → purs (l.map f) = true
  | [], _ => rfl
  | a :: l, h => by
    show (pur (f a) && purs (l.map f)) = true
    rw [h a List.mem_cons_self, purs_map fun b hb => h b (List.mem_cons_of_mem _ hb)]
    rfl
theorem deps_map {α : Type} {f : α → Dt} {k : Nat} {l : List α} (h : ∀ a ∈ l, dep (f a) ≤ k) : deps (l.map f) ≤ k := deps_le fun d hd => by
  obtain ⟨a, ha, rfl⟩ := List.mem_map.mp hd
  exact h a ha
def spIW (C : Addr) : Sp := fun vs H Q Ex => ∃ (g : Addr) (vw vws : V) (dw d : Dt), vs = [vw, vws] ∧ DV g H vw dw ∧ DV g H vws d ∧ (∀ W, dw = wbD W → OkW W → ∀ H', Same H H' → Q (.bl (wordsB W d)) H') ∧ (webB dw = false → ∀ H', Same H H' → Ex (.ref C) none H')
def spNWd (C : Addr) : Sp := fun vs H Q Ex => ∃ (g : Addr) (vw vws : V) (W : Web) (d : Dt), vs = [vw, vws] ∧ DV g H vw (wbD W) ∧ OkW W ∧ DV g H vws d ∧ (wordsB W d = true → ∀ H', Same H H' → Q .non H') ∧ (wordsB W d = false → ∀ H', Same H H' → Ex (.ref C) none H')
/-- a step's edge, and its word -/
def apD : Dt → Dt
  | .tup l => .tup l
  | d => .tup [d, .non]
def spSA : Sp := fun vs H Q _ => ∃ (g : Addr) (v : V) (ss : List Dt), vs = [v] ∧ DV g H v (.tup ss) ∧ purs ss = true ∧ ∀ (D : Addr) (ys : List V) (H' : Hp), Same H H' → H D = none → H' D = some (.lst ys) → (∀ g', DVs g' H' ys (ss.map apD)) → Q (.ref D) H'
theorem ap_pur {d : Dt} (h : pur d = true) : pur (apD d) = true := by
  cases d with
  | tup l => exact h
  | lst l => cases h
  | dic => cases h
  | str s => exact (Bool.and_eq_true _ _).mpr ⟨h, rfl⟩
  | _ => rfl
section
variable {P : Program} {w : World} {K : PySem.W.Frag} {mg : Str → Option Value} {base : Heap}
end
end K65

set_option Elab.async false
set_option linter.all false
set_option pp.maxSteps 900
set_option maxRecDepth 100000
set_option maxHeartbeats 4000000
namespace K65
open PySem PySem.Spec PyProof.Rows L2
open TL (tl)
abbrev sShf : Stmt := top 28
theorem erase_perm {α : Type} {l : List α} {i : Nat} (h : i < l.length) : (l[i] :: l.eraseIdx i).Perm l := by
  rw [List.eraseIdx_eq_take_drop_succ]
  have q := List.perm_middle (a := l[i]) (l₁ := l.take i) (l₂ := l.drop (i + 1))
  rw [← List.drop_eq_getElem_cons h, List.take_append_drop] at q
  exact q.symm

section
variable {X : Cx}
theorem op_eqNil (hu : X.A.units + 64 < cLine) : OpR X (compareOp .Eq) (fun x y H Q => ∃ (a b : Addr) (xs : List V), x = .ref a ∧ y = .ref b ∧ SqL X.K H a xs ∧ SqL X.K H b [] ∧ Q (.bl xs.isEmpty) H) := by
  intro pins s σ H x y v u Q I rx ry h
  obtain ⟨a, b, xs, rfl, rfl, ha, hb, q⟩ := h
  cases (show v = Value.ref a from rx)
  cases (show u = Value.ref b from ry)
  obtain ⟨us, r1, p1, _⟩ := I.list ha
  obtain ⟨ws, r2, p2, _⟩ := I.list hb
  cases r2
  cases r1 with
  | nil => exact SeqAt.eq_listAt (e := fun _ => true) p1.isList p2.isList rfl (by omega) (fun j h1 _ => absurd h1 (by simp)) (fin_bl I q rfl)
  | cons h t => exact SeqAt.eq_list_lengthsAt p1.isList p2.isList (by simp) (by omega) (fin_bl I q rfl)
theorem op_neNil (hu : X.A.units + 64 < cLine) : OpR X (compareOp .NotEq) (fun x y H Q => ∃ (a b : Addr) (xs : List V), x = .ref a ∧ y = .ref b ∧ SqL X.K H a xs ∧ SqL X.K H b [] ∧ Q (.bl (!xs.isEmpty)) H) := by
  intro pins s σ H x y v u Q I rx ry h
  obtain ⟨a, b, xs, rfl, rfl, ha, hb, q⟩ := h
  cases (show v = Value.ref a from rx)
  cases (show u = Value.ref b from ry)
  obtain ⟨us, r1, p1, _⟩ := I.list ha
  obtain ⟨ws, r2, p2, _⟩ := I.list hb
  cases r2
  cases r1 with
  | nil => exact SeqAt.RcNeAt.lists (e := fun _ => true) p1.isList p2.isList rfl (by omega) (fun j h1 _ => absurd h1 (by simp)) _ _ _ _ (fin_bl I q rfl)
  | cons h t => exact SeqAt.RcNeAt.lists_lengths p1.isList p2.isList (by simp) (by omega) _ _ _ _ (fin_bl I q rfl)
end
def spShf : Sp := fun vs H Q _ => ∃ (d g c a : Addr) (n : Nat) (ts : List V), vs = [.ref d, .ref a] ∧ StA H d g c n ∧ n ≤ 900000000 ∧ H a = some (.lst ts) ∧ ts.length ≤ 10000 ∧
  ∀ (p : Addr) (ys : List V) (H' : Hp), ys.Perm ts → StA H' d g c (n + ts.length) → Kp d g H H' → H p = none → H' p = some (.lst ys) → Q (.ref p) H'
section
variable {P : Program} {w : World} {K : PySem.W.Frag} {mg : Str → Option Value} {base : Heap}
theorem scShf : FnScope ["state", "some", "left", "found"] ["state", "some"] (defScope sShf) := ⟨rfl, rfl, rfl, by decide +kernel, rfl, by decide +kernel, by decide +kernel⟩
theorem ok_shf {f : Addr} {fd : FuncData} (F : Fun K "_law_shuffled" "_law_shuffled" sShf f fd) (T : Bn mg) (cD : Cl P w K mg base "_law_draw" ["state", "room"] 2 spDrw) : FnOk P w K mg base CX0 3 f fd ["state", "some"] spShf := by
  obtain ⟨fD, fdD, GD, mD, kD, bD⟩ := cD
  refine F.ok scShf (fun vs H Q E h => ?_) (fun cdv A outer s H vs Q E hr h => ?_)
  · obtain ⟨d, g, c, a, n, ts, rfl, _⟩ := h
    rfl
  · obtain ⟨d, g, c, a, n, ts, rfl, S, hn, ha, hts, k⟩ := h
    refine ⟨_, (pss_cons (ps_par (i := 2) (j := 3) (by rfl) scShf.nd rfl rfl (by decide) rfl rfl (pa_cons (pe_callTy call_list_of (by rfl) T.lst (by decide +kernel) (pa_cons (pv 1) pa_nil)) (pa_cons (pe_lst pa_nil) pa_nil)) (by rfl))
      (pss_cons (ps_while PassesOwn.never (pt_cmpR (op_neNil hr.units) (pv 2) (pe_lst pa_nil) (nomark _))
          (pss_one (ps_expr (qApp (pv 3) (qPopAt (pv 2) (pe_call GD hr (by rfl) mD kD bD .nil pass0 (pa_cons (pv 0) (pa_cons (pe_callB call_len_seq (by rfl) T.len PySem.boot_len (pa_cons (pv 2) pa_nil)) pa_nil))))))))
      (pss_one (ps_ret (pv 3))))), ?_⟩
    refine ⟨_, rfl, a, _, rfl, .inl (SqL.of ha), fun l hl => ?_⟩
    refine ⟨Nat.zero_le _, fun f hf => ?_⟩
    refine ⟨_, _, rfl, ?_⟩
    have lf : l ≠ f := ne_of_none upd_same hf
    have hf0 : H f = none := by
      rw [upd_ne lf.symm] at hf
      exact hf
    have fl := S.free hl
    have ff := S.free hf0
    refine while_m (fun m σ H' => ∃ ls fs : List V, σ = [some (.ref d), some (.ref a), some (.ref l), some (.ref f)] ∧ ls.length = m ∧ H' l = some (.lst ls) ∧ H' f = some (.lst fs) ∧ (fs ++ ls).Perm ts ∧ StA H' d g c (n + fs.length) ∧ Kp d g H H') ts.length
      ⟨ts, [], rfl, rfl, by rw [upd_ne lf]; exact upd_same, upd_same, List.Perm.refl _, (S.keep (same_new hl)).keep (same_new hf), ((Kp.refl H).upF hl).upF hf0⟩ ?_
    rintro m σ H1 ⟨ls, fs, rfl, hm, hL, hF, pm, S1, kp⟩
    have plen : fs.length + ls.length = ts.length := by
      have := pm.length_eq
      rw [List.length_append] at this
      exact this
    refine ⟨_, rfl, Nat.zero_le _, fun e he => ?_⟩
    have se := same_new (o := .lst []) he
    have hL2 := se _ _ hL
    refine ⟨l, e, ls, rfl, rfl, SqL.of hL2, SqL.of upd_same, ?_⟩
    cases ls with
    | nil =>
      refine ⟨_, rfl, ?_⟩
      refine ifF rfl ?_
      refine ⟨_, rfl, k f fs _ ?_ ?_ (fun b u e' h1 h2 => se _ _ (kp b u e' h1 h2)) hf0 (se _ _ hF)⟩
      · rw [List.append_nil] at pm
        exact pm
      · have e2 : fs.length = ts.length := by simpa using plen
        rw [← e2]
        exact S1.keep se
    | cons x xs =>
      refine ⟨_, rfl, ?_⟩
      refine ifT rfl ?_
      refine ⟨fun σ' H' => ∃ m', m' < m ∧ ∃ ls fs : List V, σ' = [some (.ref d), some (.ref a), some (.ref l), some (.ref f)] ∧ ls.length = m' ∧ H' l = some (.lst ls) ∧ H' f = some (.lst fs) ∧ (fs ++ ls).Perm ts ∧ StA H' d g c (n + fs.length) ∧ Kp d g H H', fun σ' H' z => z, ?_⟩
      have hF2 := se _ _ hF
      have S2 := S1.keep se
      have kp2 : Kp d g H (upd H1 e (.lst [])) := fun b u e' h1 h2 => se _ _ (kp b u e' h1 h2)
      generalize upd H1 e (.lst []) = H2 at hL2 hF2 S2 kp2 ⊢
      refine ⟨_, rfl, .inl ⟨rfl, _, SqL.of hF2⟩, _, rfl, .inl ⟨rfl, _, SqL.of hL2⟩, _, rfl, _, rfl, l, _, rfl, .inl (SqL.of hL2), d, g, c, n + fs.length, _, rfl, S2, by omega, by simp only [List.length_cons]; omega, by simp only [List.length_cons] at plen ⊢; omega, fun v H3 h0 h1 S3 kp3 => ?_⟩
      have hl3 := kp3 _ _ hL2 fl.1 fl.2.1
      have hf3 := kp3 _ _ hF2 ff.1 ff.2.1
      have hi : v.toNat < (x :: xs).length := by omega
      have hlen60 : (x :: xs).length ≤ 10000 := by omega
      refine ⟨l, x :: xs, v, v.toNat, (x :: xs)[v.toNat], rfl, rfl, hl3, by omega, by omega, seqIndex_of h0 h1, List.getElem?_eq_getElem hi, ?_⟩
      refine ⟨f, fs, _, rfl, rfl, by rw [upd_ne lf.symm]; exact hf3, by rw [sizeLine_eq]; omega, ?_⟩
      refine ⟨m - 1, by simp only [List.length_cons] at hm; omega, (x :: xs).eraseIdx v.toNat, fs ++ [(x :: xs)[v.toNat]], rfl, ?_, ?_, ?_, ?_, ?_, ?_⟩
      · rw [List.length_eraseIdx_of_lt hi]
        simp only [List.length_cons] at hm ⊢
        omega
      · rw [upd_ne lf, upd_same]
      · rw [upd_same]
      · rw [List.append_assoc]
        exact (List.Perm.append_left fs (erase_perm hi)).trans pm
      · rw [List.length_append]
        exact (S3.upF fl.1 fl.2.1 fl.2.2).upF ff.1 ff.2.1 ff.2.2
      · have kq : Kp d g H H3 := fun b u e' h1 h2 => kp3 _ _ (kp2 b u e' h1 h2) h1 h2
        exact (kq.upF hl).upF hf0
end
end K65

set_option Elab.async false
set_option linter.all false
set_option pp.maxSteps 900
set_option maxRecDepth 100000
set_option maxHeartbeats 4000000
namespace K65
open PySem PySem.Spec PyProof.Rows L2
open TL (tl)
abbrev sWE : Stmt := top 30
abbrev sWN : Stmt := top 31
abbrev sWW : Stmt := top 32
theorem Kp.free {d g c p : Addr} {H H1 : Hp} {n : Nat} (S : StA H1 d g c n) (k : Kp d g H H1) (hp : H1 p = none) : H p = none := by
  obtain ⟨h1, h2, _⟩ := S.free hp
  cases e : H p with
  | none => rfl
  | some o =>
    rw [k p o e h1 h2] at hp
    cases hp
/-- an edge that the law draws -/
structure DrE (cs : List Int) (labels : Int) (e : Ed) : Prop where
  c : ∀ i, e.c = some i → i ∈ cs
  b : -1000000000 ≤ e.b ∧ e.b ≤ 1000000000
  l : e.l.length ≤ 3
  k : ∀ i ∈ e.l, 0 ≤ i ∧ i < labels
def spWE : Sp := fun vs H Q _ => ∃ (d g c ca : Addr) (n : Nat) (here to labels : Int) (cs : List Int) (low : Bool), vs = [.ref d, .int here, .int to, .ref ca, .int labels, .bl low] ∧ StA H d g c n ∧ n ≤ 900000000 ∧ H ca = some (.lst (cs.map V.int)) ∧ ca ≠ d ∧ ca ≠ g ∧ cs.length ≤ 1000 ∧ 0 ≤ labels ∧ labels ≤ 100 ∧
  ∀ (v : V) (e : Ed) (H' : Hp), e.p = here → e.t = to → DrE cs labels e → StA H' d g c (n + 12) → Kp d g H H' → (∀ g', DV g' H' v (edD e)) → Q v H'
theorem dvs_ints {g : Addr} {H : Hp} : ∀ ks : List Int, DVs g H (ks.map V.int) (ks.map Dt.int)
  | [] => .nil
  | k :: r => .cons (.int k) (dvs_ints r)
section
variable {P : Program} {w : World} {K : PySem.W.Frag} {mg : Str → Option Value} {base : Heap}
theorem scWe : FnScope ["state", "here", "to", "calls", "labels", "low", "call", "beats", "many", "lap"] ["state", "here", "to", "calls", "labels", "low"] (defScope sWE) := ⟨rfl, rfl, rfl, by decide +kernel, rfl, by decide +kernel, by decide +kernel⟩
theorem ok_we {f : Addr} {fd : FuncData} (F : Fun K "_law_wb_edge" "_law_wb_edge" sWE f fd) (T : Bn mg) (cD : Cl P w K mg base "_law_draw" ["state", "room"] 2 spDrw) (cP : Cl P w K mg base "_law_pick" ["state", "some"] 3 spPck) : FnOk P w K mg base CX0 4 f fd ["state", "here", "to", "calls", "labels", "low"] spWE := by
  obtain ⟨fD, fdD, GD, mD, kD, bD⟩ := cD
  obtain ⟨fP, fdP, GP, mP, kP, bP⟩ := cP
  refine F.ok scWe (fun vs H Q E h => ?_) (fun cdv A outer s H vs Q E hr h => ?_)
  · obtain ⟨d, g, c, ca, n, a, b, l, cs, lo, rfl, _⟩ := h
    rfl
  · obtain ⟨d, g, c, ca, n, here, to, labels, cs, low, rfl, S, hn, hca, nd, ng, hcl, hl0, hl1, k⟩ := h
    have hr2 : Room 2 _ := hr.mono (by decide)
    refine ⟨_, (pss_cons (ps_set (i := 6) scWe.nd rfl (Or.inl rfl) pe_non)
      (pss_mid (ps_if (PW.pt (pw_and (pt_cmpR (op_neNil hr.units) (pv 3) (pe_lst pa_nil) (nomark _)) (pw_and1 (pt_cmpR op_eq (pe_call GD hr2 (by rfl) mD kD bD .nil pass0 (pa_cons (pv 0) (pa_cons pe_int pa_nil))) pe_int (nomark _))))) (pss_one (ps_set (i := 6) scWe.nd rfl (Or.inl rfl) (pe_call GP hr (by rfl) mP kP bP .nil pass0 (pa_cons (pv 0) (pa_cons (pv 3) pa_nil))))) pss_nil)
      (pss_cons (ps_set (i := 7) scWe.nd rfl (Or.inl rfl) (pe_call GP hr (by rfl) mP kP bP .nil pass0 (pa_cons (pv 0) (pa_cons (pe_lst (pa_cons pe_int (pa_cons pe_int (pa_cons pe_int (pa_cons pe_int (pa_cons pe_int (pa_cons pe_int (pa_cons (pe_call GD hr2 (by rfl) mD kD bD .nil pass0 (pa_cons (pv 0) (pa_cons pe_int pa_nil))) (pa_cons (pe_op op_pow pe_int pe_int) pa_nil))))))))) pa_nil))))
      (pss_mid (ps_if (PW.pt (pw_and (pt_val (pv 5)) (pw_and1 (pt_cmpR op_eq (pe_call GD hr2 (by rfl) mD kD bD .nil pass0 (pa_cons (pv 0) (pa_cons pe_int pa_nil))) pe_int (nomark _))))) (pss_one (ps_set (i := 7) scWe.nd rfl (Or.inl rfl) (pe_op op_sub pe_int (pe_call GP hr (by rfl) mP kP bP .nil pass0 (pa_cons (pv 0) (pa_cons (pe_lst (pa_cons pe_int (pa_cons pe_int (pa_cons pe_int (pa_cons pe_int (pa_cons (pv 7) pa_nil)))))) pa_nil)))))) pss_nil)
      (pss_mid (ps_set (i := 8) scWe.nd rfl (Or.inl rfl) (pe_ifExp (pt_cmpR op_gt (pv 4) pe_int (nomark _)) (pe_call GP hr (by rfl) mP kP bP .nil pass0 (pa_cons (pv 0) (pa_cons (pe_lst (pa_cons pe_int (pa_cons pe_int (pa_cons pe_int (pa_cons pe_int (pa_cons pe_int pa_nil)))))) pa_nil))) pe_int))
      (pss_one (ps_ret (pe_tup (pa_cons (pv 1) (pa_cons (pv 2) (pa_cons (pv 6) (pa_cons (pv 7) (pa_cons (pe_callTy call_tuple_of (by rfl) T.tpl (by decide +kernel) (pa_cons (pe_lc (own := [("lap", 9)]) (g := gName 9) (tt := tYes) (by rfl) scWe.nd (pi_range1 (by rfl) T.rng (pa_cons (pv 8) pa_nil)) (blkOk_by (own := [("lap", 9)]) (N := ["state", "here", "to", "calls", "labels", "low", "call", "beats", "many", "lap"]) (sc := defScope sWE) (by decide +kernel)) (fun _ _ _ _ _ => (pg_name (i := 9) scWe.nd rfl (Or.inl rfl))) (fun _ _ _ _ _ => pts_nil) (fun _ _ _ _ _ => (pe_call GD hr2 (by rfl) mD kD bD .nil pass0 (pa_cons (pv 0) (pa_cons (pv 4) pa_nil))))) pa_nil)) pa_nil))))))))))))), ?_⟩
    -- call
    refine ⟨fun σ H' => ∃ co : Option Int, σ = [some (.ref d), some (.int here), some (.int to), some (.ref ca), some (.int labels), some (.bl low), some (oIV co), none, none, none] ∧ (∀ i, co = some i → i ∈ cs) ∧ StA H' d g c (n + 2) ∧ Kp d g H H', ?_, ?_⟩
    · refine ⟨_, rfl, Nat.zero_le _, fun e0 he0 => ?_⟩
      generalize hH1 : upd H e0 _ = H1
      obtain ⟨se0, ee0⟩ := freshF he0 hH1
      have S1 := S.keep se0
      have hca1 := se0 _ _ hca
      refine ⟨ca, e0, _, rfl, rfl, SqL.of hca1, SqL.of ee0, _, rfl, ?_⟩
      by_cases hc0 : cs = []
      · subst hc0
        exact ifF rfl ⟨none, rfl, (fun i h => by cases h), S1.mono (by omega), Kp.of se0⟩
      · refine ifT (by cases cs with | nil => exact absurd rfl hc0 | cons a b => rfl) ?_
        refine ⟨_, rfl, d, g, c, n, 2, rfl, S1, by omega, by decide, by decide, fun u H2 u0 u1 S2 kp2 => ?_⟩
        refine ⟨rfl, _, rfl, ?_⟩
        have hca2 := kp2 _ _ hca1 nd ng
        by_cases hu : u = 0
        · refine ifT (by simp [hu]) ?_
          refine ⟨_, rfl, _, rfl, d, g, c, ca, n + 1, _, rfl, S2, by omega, hca2, ng, by simpa using hc0, by rw [List.length_map]; omega, fun v H3 hv S3 kp3 => ?_⟩
          obtain ⟨i, hi, rfl⟩ := List.mem_map.mp hv
          exact ⟨some i, rfl, (fun j h => by injection h with h; rw [← h]; exact hi), S3, (Kp.of se0).trans (kp2.trans kp3)⟩
        · refine ifF (by simp [hu]) ?_
          exact ⟨none, rfl, (fun i h => by cases h), S2.mono (by omega), (Kp.of se0).trans kp2⟩
    rintro σ H1 ⟨co, rfl, hco, S1, kp1⟩
    -- beats
    refine ⟨_, rfl, _, rfl, d, g, c, _, 100, rfl, S1, by omega, by decide, by decide, fun u H2 u0 u1 S2 kp2 => ?_⟩
    refine ⟨_, _, rfl, rfl, by unfold CPow; decide, (by show 8 ≤ sizeLine; decide), fun q hq => ?_⟩
    generalize hH3 : upd H2 q _ = H3
    obtain ⟨sq, eq⟩ := freshF hq hH3
    have S3 := S2.keep sq
    refine ⟨d, g, c, q, _, _, rfl, S3, by omega, eq, (S2.free hq).2.1, by simp, (by show 8 ≤ 1000000; decide), fun v H4 hv S4 kp4 => ?_⟩
    obtain ⟨b, rfl, hb⟩ : ∃ b : Int, v = .int b ∧ 0 ≤ b ∧ b ≤ 1000000000 := by
      simp only [List.mem_cons, List.not_mem_nil, or_false] at hv
      rcases hv with rfl | rfl | rfl | rfl | rfl | rfl | rfl | rfl
      · exact ⟨0, rfl, by decide⟩
      · exact ⟨1, rfl, by decide⟩
      · exact ⟨2, rfl, by decide⟩
      · exact ⟨3, rfl, by decide⟩
      · exact ⟨5, rfl, by decide⟩
      · exact ⟨9, rfl, by decide⟩
      · exact ⟨u, rfl, by omega⟩
      · exact ⟨_, rfl, by decide⟩
    have k14 : Kp d g H H4 := kp1.trans (kp2.trans ((Kp.of sq).trans kp4))
    -- low
    refine ⟨fun σ H' => ∃ b : Int, σ = [some (.ref d), some (.int here), some (.int to), some (.ref ca), some (.int labels), some (.bl low), some (oIV co), some (.int b), none, none] ∧ (-1000000000 ≤ b ∧ b ≤ 1000000000) ∧ StA H' d g c (n + 6) ∧ Kp d g H H', ?_, ?_⟩
    · refine ⟨_, rfl, _, rfl, ?_⟩
      cases low with
      | false => exact ifF rfl ⟨b, rfl, by omega, S4.mono (by omega), k14⟩
      | true =>
        refine ifT rfl ?_
        refine ⟨_, rfl, d, g, c, _, 3, rfl, S4, by omega, by decide, by decide, fun u5 H5 _ _ S5 kp5 => ⟨rfl, _, rfl, ?_⟩⟩
        by_cases hu : u5 = 0
        · refine ifT (by simp [hu]) ?_
          refine ⟨_, rfl, _, rfl, (by show 5 ≤ sizeLine; decide), fun q6 hq6 => ?_⟩
          generalize hH6 : upd H5 q6 _ = H6
          obtain ⟨sq6, eq6⟩ := freshF hq6 hH6
          have S6 := S5.keep sq6
          refine ⟨d, g, c, q6, _, _, rfl, S6, by omega, eq6, (S5.free hq6).2.1, by simp, (by show 5 ≤ 1000000; decide), fun v H7 hv S7 kp7 => ?_⟩
          obtain ⟨b2, rfl, hb2⟩ : ∃ b : Int, v = .int b ∧ 0 ≤ b ∧ b ≤ 1000000000 := by
            simp only [List.mem_cons, List.not_mem_nil, or_false] at hv
            rcases hv with rfl | rfl | rfl | rfl | rfl
            · exact ⟨1, rfl, by decide⟩
            · exact ⟨1, rfl, by decide⟩
            · exact ⟨2, rfl, by decide⟩
            · exact ⟨3, rfl, by decide⟩
            · exact ⟨b, rfl, hb⟩
          exact ⟨_, _, rfl, rfl, 0 - b2, rfl, by omega, S7.mono (by omega), k14.trans (kp5.trans ((Kp.of sq6).trans kp7))⟩
        · exact ifF (by simp [hu]) ⟨b, rfl, by omega, S5.mono (by omega), k14.trans kp5⟩
    clear S4 k14 S3 S2 S1 kp1
    rintro σ H1 ⟨b, rfl, hb, S1, kp1⟩
    -- many
    refine ⟨fun σ H' => ∃ m : Nat, σ = [some (.ref d), some (.int here), some (.int to), some (.ref ca), some (.int labels), some (.bl low), some (oIV co), some (.int b), some (.int (m : Nat)), none] ∧ m ≤ 3 ∧ (0 < m → 0 < labels) ∧ StA H' d g c (n + 7) ∧ Kp d g H H', ?_, ?_⟩
    · refine ⟨_, rfl, _, _, rfl, rfl, _, rfl, ?_⟩
      by_cases hl : 0 < labels
      · refine ifT (decide_eq_true (by omega)) ?_
        refine ⟨_, rfl, (by show 5 ≤ sizeLine; decide), fun q hq => ?_⟩
        generalize hH2 : upd H1 q _ = H2
        obtain ⟨sq, eq⟩ := freshF hq hH2
        have S2 := S1.keep sq
        refine ⟨d, g, c, q, _, _, rfl, S2, by omega, eq, (S1.free hq).2.1, by simp, (by show 5 ≤ 1000000; decide), fun v H3 hv S3 kp3 => ?_⟩
        obtain ⟨m, rfl, hm⟩ : ∃ m : Nat, v = .int (m : Nat) ∧ m ≤ 3 := by
          simp only [List.mem_cons, List.not_mem_nil, or_false] at hv
          rcases hv with rfl | rfl | rfl | rfl | rfl
          · exact ⟨1, rfl, by decide⟩
          · exact ⟨1, rfl, by decide⟩
          · exact ⟨0, rfl, by decide⟩
          · exact ⟨2, rfl, by decide⟩
          · exact ⟨3, rfl, by decide⟩
        exact ⟨m, rfl, hm, fun _ => hl, S3, kp1.trans ((Kp.of sq).trans kp3)⟩
      · refine ifF (decide_eq_false (by omega)) ?_
        exact ⟨0, rfl, by decide, fun h => absurd h (by decide), S1.mono (by omega), kp1⟩
    clear S1 kp1
    rintro σ H1 ⟨m, rfl, hm, hml, S1, kp1⟩
    refine ⟨_, rfl, _, rfl, _, rfl, _, rfl, _, rfl, _, rfl, by omega, by omega, ?_⟩
    intro D hD
    have fD' := S1.free hD
    refine lc_it (walk_range (lo := 0) (n := ((m : Nat) : Int).toNat)) (fun i H' => ∃ ks : List Int, H' D = some (.lst (ks.map V.int)) ∧ ks.length = i ∧ (∀ x ∈ ks, 0 ≤ x ∧ x < labels) ∧ StA H' d g c (n + 7 + i) ∧ Kp d g H1 H')
      ⟨[], upd_same, rfl, (fun x hx => by cases hx), S1.keep (same_new hD), Kp.of (same_new hD)⟩ (fun _ _ _ _ => trivial) ?_ ?_
    · rintro i x H2z H2 hi ⟨ks, e2, hkl, hks, S2, kp2⟩ ⟨rfl, rfl⟩
      rw [Int.toNat_natCast] at hi
      have hl := hml (by omega)
      refine ⟨rfl, ?_⟩
      refine ⟨_, rfl, _, rfl, d, g, c, _, labels, rfl, S2, by omega, hl, by omega, fun u H3 u0 u1 S3 kp3 => ?_⟩
      have e3 := kp3 _ _ e2 fD'.1 fD'.2.1
      refine ⟨_, e3, by rw [List.length_map, hkl, sizeLine_eq]; omega, ks ++ [u], by rw [upd_same, List.map_append]; rfl, by rw [List.length_append, hkl]; rfl, ?_, ?_, (kp2.trans kp3).upF hD⟩
      · intro x hx
        rcases List.mem_append.mp hx with hx | hx
        · exact hks x hx
        · rw [List.mem_singleton.mp hx]
          exact ⟨u0, u1⟩
      · exact (S3.upF fD'.1 fD'.2.1 fD'.2.2).mono (by omega)
    · rintro H2 ⟨ks, e2, hkl, hks, S2, kp2⟩
      rw [Int.toNat_natCast] at hkl S2
      refine ⟨D, _, rfl, .inl ⟨SqL.of e2, fun l hl => ?_⟩⟩
      generalize hH3 : upd H2 l _ = H3
      obtain ⟨sl, el⟩ := freshF hl hH3
      refine ⟨(by show 5 ≤ sizeLine; decide), fun t ht => ?_⟩
      generalize hH4 : upd H3 t _ = H4
      obtain ⟨st, et⟩ := freshF ht hH4
      have s24 := sl.trans st
      refine k _ ⟨here, to, co, b, ks⟩ H4 rfl rfl ⟨hco, hb, by show ks.length ≤ 3; omega, hks⟩ ((S2.keep s24).mono (by omega)) (kp1.trans (kp2.trans (Kp.of s24))) fun g' => ?_
      refine .tup et (by show 5 ≤ 20000; decide) (.cons (.int _) (.cons (.int _) (.cons ?_ (.cons (.int _) (.cons (.tup (st _ _ el) (by show (ks.map Dt.int).length ≤ 20000; rw [List.length_map]; omega) (dvs_ints ks)) .nil)))))
      cases co with
      | none => exact .non
      | some i => exact .int _
end
end K65

set_option Elab.async false
set_option linter.all false
set_option pp.maxSteps 900
set_option maxRecDepth 100000
set_option maxHeartbeats 4000000
namespace K65
open PySem PySem.Spec PyProof.Rows L2
open TL (tl)
def rgI (a b : Int) : List Int := (List.range (b - a).toNat).map fun i => a + (i : Nat)
theorem rgV_eq (a b : Int) : rgV a b = (rgI a b).map V.int := by
  unfold rgV rgI
  rw [List.map_map]
  rfl
theorem rgI_mem {a b x : Int} (h : x ∈ rgI a b) : a ≤ x ∧ x < b := by
  obtain ⟨i, hi, rfl⟩ := List.mem_map.mp h
  have := List.mem_range.mp hi
  omega
theorem rgI_len (a b : Int) : (rgI a b).length = (b - a).toNat := by
  unfold rgI
  rw [List.length_map, List.length_range]
/-- an edge of a net that the law draws -/
structure DrN (pl many labels : Int) (e : Ed) : Prop where
  p : 0 ≤ e.p ∧ e.p ≤ pl - 2
  t : 0 ≤ e.t ∧ e.t ≤ pl - 1
  c : ∀ i, e.c = some i → 0 ≤ i ∧ i < many
  b : -1000000000 ≤ e.b ∧ e.b ≤ 1000000000
  l : e.l.length ≤ 3
  k : ∀ i ∈ e.l, 0 ≤ i ∧ i < labels
theorem ed_pur (e : Ed) : pur (edD e) = true := by
  have h1 : pur (oI e.c) = true := by cases e.c <;> rfl
  have h2 : purs (e.l.map Dt.int) = true := purs_map fun _ _ => rfl
  show (true && (true && (pur (oI e.c) && (true && (purs (e.l.map Dt.int) && true))))) = true
  rw [h1, h2]
  rfl
/-- the law's list of edges -/
def EdSt (wl : Addr) (H : Hp) (es : List Ed) : Prop := ∃ ws, H wl = some (.lst ws) ∧ ∀ g', DVs g' H ws (es.map edD)
theorem eds_pur (es : List Ed) : purs (es.map edD) = true := purs_map fun e _ => ed_pur e
theorem EdSt.mono {wl : Addr} {H H' : Hp} {es : List Ed} (kt : Kt H H') (hw : ∀ xs, H wl = some (.lst xs) → H' wl = some (.lst xs)) (h : EdSt wl H es) : EdSt wl H' es := by
  obtain ⟨ws, e, r⟩ := h
  exact ⟨ws, hw _ e, fun g' => DVs.keepP (g := 0) kt (eds_pur es) (r 0)⟩
theorem EdSt.keep {wl : Addr} {H H' : Hp} {es : List Ed} (s : Same H H') (h : EdSt wl H es) : EdSt wl H' es := h.mono (Kt.of s) fun xs e => s _ _ e
theorem EdSt.kp {wl d g c : Addr} {n : Nat} {H H' : Hp} {es : List Ed} (S : StA H d g c n) (k : Kp d g H H') (h1 : wl ≠ d) (h2 : wl ≠ g) (h : EdSt wl H es) : EdSt wl H' es := h.mono (Kt.kp S k) fun xs e => k _ _ e h1 h2
theorem EdSt.add {wl : Addr} {H : Hp} {es : List Ed} {ws : List V} {v : V} {e : Ed} (hw : H wl = some (.lst ws)) (r : ∀ g', DVs g' H ws (es.map edD)) (hv : ∀ g', DV g' H v (edD e)) : EdSt wl (upd H wl (.lst (ws ++ [v]))) (es ++ [e]) := by
  have kt : Kt H (upd H wl (HO.lst (ws ++ [v]))) := Kt.put hw
  refine ⟨ws ++ [v], upd_same, fun g' => ?_⟩
  rw [List.map_append]
  exact DVs.app (DVs.keepP (g := 0) kt (eds_pur es) (r 0)) (.cons (DV.keepP (g := 0) kt (ed_pur e) (hv 0)) .nil)
theorem DVs.erase {g : Addr} {H : Hp} : ∀ {xs : List V} {ds : List Dt} (k : Nat), DVs g H xs ds → DVs g H (xs.eraseIdx k) (ds.eraseIdx k)
  | _, _, _, .nil => .nil
  | _, _, 0, .cons _ r => r
  | _, _, k + 1, .cons h r => .cons h (DVs.erase k r)
theorem map_erase {α β : Type} (f : α → β) : ∀ (l : List α) (k : Nat), (l.map f).eraseIdx k = (l.eraseIdx k).map f
  | [], _ => rfl
  | _ :: _, 0 => rfl
  | a :: l, k + 1 => congrArg (f a :: ·) (map_erase f l k)
theorem perm_dvs {g : Addr} {H : Hp} {xs ys : List V} (p : ys.Perm xs) : ∀ es : List Ed, DVs g H xs (es.map edD) → ∃ es' : List Ed, es'.Perm es ∧ DVs g H ys (es'.map edD) := by
  induction p with
  | nil => exact fun es r => ⟨es, .refl _, r⟩
  | @cons x l1 l2 _ ih =>
    intro es r
    cases es with
    | nil => cases r
    | cons e es =>
      cases r with
      | cons h r =>
        obtain ⟨es', p', r'⟩ := ih es r
        exact ⟨e :: es', p'.cons e, .cons h r'⟩
  | swap x y l =>
    intro es r
    match es, r with
    | e1 :: e2 :: es, .cons h1 (.cons h2 r) => exact ⟨e2 :: e1 :: es, .swap e1 e2 es, .cons h2 (.cons h1 r)⟩
    | [_], .cons _ r => cases r
    | [], r => cases r
  | trans _ _ ih1 ih2 =>
    intro es r
    obtain ⟨e1, p1, r1⟩ := ih2 es r
    obtain ⟨e2, p2, r2⟩ := ih1 e1 r1
    exact ⟨e2, p2.trans p1, r2⟩
def spWN : Sp := fun vs H Q _ => ∃ (d g c : Addr) (n : Nat) (at_ many labels : Int) (low : Bool), vs = [.ref d, .int at_, .int many, .int labels, .bl low] ∧ StA H d g c n ∧ n ≤ 800000000 ∧ 0 ≤ at_ ∧ at_ < many ∧ many ≤ 100 ∧ 0 ≤ labels ∧ labels ≤ 100 ∧
  ∀ (v : V) (nt : Int × List Ed) (H' : Hp), 1 ≤ nt.1 → nt.1 ≤ 5 → nt.2.length ≤ 7 → (∀ e ∈ nt.2, DrN nt.1 many labels e) → StA H' d g c (n + 200) → Kp d g H H' → (∀ g', DV g' H' v (ntD nt)) → Q v H'
section
variable {P : Program} {w : World} {K : PySem.W.Frag} {mg : Str → Option Value} {base : Heap}
theorem scWn : FnScope ["state", "at", "many", "labels", "low", "places", "edges", "here", "lap", "to", "calls"] ["state", "at", "many", "labels", "low"] (defScope sWN) := ⟨rfl, rfl, rfl, by decide +kernel, rfl, by decide +kernel, by decide +kernel⟩
theorem ok_wn {f : Addr} {fd : FuncData} (F : Fun K "_law_wb_net" "_law_wb_net" sWN f fd) (T : Bn mg) (cD : Cl P w K mg base "_law_draw" ["state", "room"] 2 spDrw) (cP : Cl P w K mg base "_law_pick" ["state", "some"] 3 spPck)
    (cWE : Cl P w K mg base "_law_wb_edge" ["state", "here", "to", "calls", "labels", "low"] 4 spWE) (cSh : Cl P w K mg base "_law_shuffled" ["state", "some"] 3 spShf) : FnOk P w K mg base CX0 5 f fd ["state", "at", "many", "labels", "low"] spWN := by
  obtain ⟨fD, fdD, GD, mD, kD, bD⟩ := cD
  obtain ⟨fP, fdP, GP, mP, kP, bP⟩ := cP
  obtain ⟨fWE, fdWE, GWE, mWE, kWE, bWE⟩ := cWE
  obtain ⟨fSh, fdSh, GSh, mSh, kSh, bSh⟩ := cSh
  refine F.ok scWn (fun vs H Q E h => ?_) (fun cdv A outer s H vs Q E hr h => ?_)
  · obtain ⟨d, g, c, n, a, b, l, lo, rfl, _⟩ := h
    rfl
  · obtain ⟨d, g, c, n, at_, many, labels, low, rfl, S, hn, ha0, ha1, hmany, hl0, hl1, k⟩ := h
    have hr2 : Room 2 _ := hr.mono (by decide)
    have hr3 : Room 3 _ := hr.mono (by decide)
    refine ⟨_, (pss_cons (ps_par (i := 5) (j := 6) (by rfl) scWn.nd rfl rfl (by decide) rfl rfl (pa_cons (pe_call GP hr3 (by rfl) mP kP bP .nil pass0 (pa_cons (pv 0) (pa_cons (pe_lst (pa_cons pe_int (pa_cons pe_int (pa_cons pe_int (pa_cons pe_int (pa_cons pe_int (pa_cons pe_int (pa_cons pe_int pa_nil)))))))) pa_nil))) (pa_cons (pe_lst pa_nil) pa_nil)) (by rfl))
      (pss_cons (ps_for PassesOwn.never rfl (pi_range1 (by rfl) T.rng (pa_cons (pe_op op_sub (pv 5) pe_int) pa_nil)) (pg_name (i := 7) scWn.nd rfl (Or.inl rfl))
          (pss_one (ps_expr (qApp (pv 6) (pe_call GWE hr (by rfl) mWE kWE bWE .nil pass0 (pa_cons (pv 0) (pa_cons (pv 7) (pa_cons (pe_op op_add (pv 7) pe_int) (pa_cons (pe_listRg (by rfl) (by rfl) T.lst (prg_2 (by rfl) T.rng (pe_op op_add (pv 1) pe_int) (pv 2))) (pa_cons (pv 3) (pa_cons (pv 4) pa_nil)))))))))))
      (pss_mid (ps_if (PW.pt (pw_and (pt_cmpR (op_neNil hr.units) (pv 6) (pe_lst pa_nil) (nomark _)) (pw_and1 (pt_cmpR op_eq (pe_call GD hr2 (by rfl) mD kD bD .nil pass0 (pa_cons (pv 0) (pa_cons pe_int pa_nil))) pe_int (nomark _))))) (pss_one (ps_expr (qPopAt (pv 6) (pe_call GD hr2 (by rfl) mD kD bD .nil pass0 (pa_cons (pv 0) (pa_cons (pe_callB call_len_seq (by rfl) T.len PySem.boot_len (pa_cons (pv 6) pa_nil)) pa_nil)))))) pss_nil)
      (pss_cons (ps_for PassesOwn.never rfl (pi_range1 (by rfl) T.rng (pa_cons (pe_weak (pe_ifExp (pt_cmpR op_gt (pv 5) pe_int (nomark _)) (pe_call GP hr3 (by rfl) mP kP bP .nil pass0 (pa_cons (pv 0) (pa_cons (pe_lst (pa_cons pe_int (pa_cons pe_int (pa_cons pe_int (pa_cons pe_int pa_nil))))) pa_nil))) pe_int)) pa_nil)) (pg_name (i := 8) scWn.nd rfl (Or.inl rfl))
          (pss_cons (ps_par (i := 7) (j := 9) (by rfl) scWn.nd rfl rfl (by decide) rfl rfl (pa_cons (pe_call GD hr2 (by rfl) mD kD bD .nil pass0 (pa_cons (pv 0) (pa_cons (pe_op op_sub (pv 5) pe_int) pa_nil))) (pa_cons (pe_call GD hr2 (by rfl) mD kD bD .nil pass0 (pa_cons (pv 0) (pa_cons (pv 5) pa_nil))) pa_nil)) (by rfl))
          (pss_mid (ps_set (i := 10) scWn.nd rfl (Or.inl rfl) (pe_ifExp (pt_cmpR op_eq (pe_call GD hr2 (by rfl) mD kD bD .nil pass0 (pa_cons (pv 0) (pa_cons pe_int pa_nil))) pe_int (nomark _)) (pe_listRg (by rfl) (by rfl) T.lst (prg_1 (by rfl) T.rng (pv 2))) (pe_lst pa_nil)))
          (pss_one (ps_expr (qApp (pv 6) (pe_call GWE hr (by rfl) mWE kWE bWE .nil pass0 (pa_cons (pv 0) (pa_cons (pv 7) (pa_cons (pv 9) (pa_cons (pv 10) (pa_cons (pv 3) (pa_cons (pv 4) pa_nil)))))))))))))
      (pss_one (ps_ret (pe_tup (pa_cons (pv 5) (pa_cons (pe_callTy call_tuple_of (by rfl) T.tpl (by decide +kernel) (pa_cons (pe_call GSh hr3 (by rfl) mSh kSh bSh .nil pass0 (pa_cons (pv 0) (pa_cons (pv 6) pa_nil))) pa_nil)) pa_nil))))))))), ?_⟩
    refine ⟨_, rfl, (by show 7 ≤ sizeLine; decide), fun q hq => ?_⟩
    generalize hH1 : upd H q _ = H1
    obtain ⟨sq, eq⟩ := freshF hq hH1
    have S1 := S.keep sq
    refine ⟨d, g, c, q, _, _, rfl, S1, by omega, eq, (S.free hq).2.1, by simp, (by show 7 ≤ 1000000; decide), fun v H2 hv S2 kp2 => ?_⟩
    obtain ⟨pl, rfl, hp1, hp5⟩ : ∃ p : Int, v = .int p ∧ 1 ≤ p ∧ p ≤ 5 := by
      simp only [List.mem_cons, List.not_mem_nil, or_false] at hv
      rcases hv with rfl | rfl | rfl | rfl | rfl | rfl | rfl <;> exact ⟨_, rfl, by decide, by decide⟩
    refine ⟨Nat.zero_le _, fun wl hwl => ?_⟩
    generalize hH3 : upd H2 wl _ = H3
    obtain ⟨swl, ewl⟩ := freshF hwl hH3
    have fw := S2.free hwl
    have S3 := S2.keep swl
    have k03 : Kp d g H H3 := (Kp.of sq).trans (kp2.trans (Kp.of swl))
    have hwl0 : H wl = none := ((Kp.of sq).trans kp2).free S2 hwl
    refine ⟨_, _, rfl, ?_⟩
    -- the chain of edges
    refine ⟨_, rfl, _, _, rfl, rfl, _, rfl, by omega, by omega, for_range (lo := 0) (n := (pl - 1).toNat)
      (fun i σ H' => ∃ (hv : Option V) (es : List Ed), σ = [some (.ref d), some (.int at_), some (.int many), some (.int labels), some (.bl low), some (.int pl), some (.ref wl), hv, none, none, none] ∧ EdSt wl H' es ∧ es.length = i ∧ (∀ e ∈ es, DrN pl many labels e) ∧ StA H' d g c (n + 1 + 12 * i) ∧ Kp d g H H')
      ⟨none, [], rfl, ⟨[], ewl, fun g' => .nil⟩, rfl, (fun e he => by cases he), S3, k03⟩ ?_ ?_⟩
    · rintro i σ H4 hi ⟨hv, es, rfl, W4, hlen, hes, S4, k4⟩
      obtain ⟨ws4, ew4, rw4⟩ := id W4
      have hi4 : (i : Int) + 1 ≤ pl - 1 := by omega
      refine ⟨_, rfl, .inl ⟨rfl, _, SqL.of ew4⟩, _, rfl, _, rfl, _, rfl, _, _, rfl, rfl, _, rfl, _, _, rfl, rfl, _, rfl, _, _, rfl, rfl, RgOk.of_le (by omega) (by omega) (by omega) (by omega), fun q4 hq4 => ?_⟩
      generalize hH5 : upd H4 q4 _ = H5
      obtain ⟨sq4, eq4⟩ := freshF hq4 hH5
      have S5 := S4.keep sq4
      have W5 := W4.keep sq4
      have fq := S4.free hq4
      refine ⟨_, rfl, _, rfl, d, g, c, q4, _, 0 + (i : Nat), 0 + (i : Nat) + 1, labels, rgI (at_ + 1) many, low, rfl, S5, by omega, by rw [eq4, rgV_eq], fq.1, fq.2.1, by rw [rgI_len]; omega, hl0, hl1, fun v e H6 he1 he2 hdr S6 kp6 hv6 => ?_⟩
      obtain ⟨ws6, ew6, rw6⟩ := W5.kp S5 kp6 fw.1 fw.2.1
      have hl6 : ws6.length = i := by rw [(rw6 0).len, List.length_map, hlen]
      refine ⟨wl, ws6, v, rfl, rfl, ew6, by rw [hl6, sizeLine_eq]; omega, _, es ++ [e], rfl, EdSt.add ew6 rw6 hv6, by rw [List.length_append, hlen]; rfl, ?_, ?_, ?_⟩
      · intro x hx
        rcases List.mem_append.mp hx with hx | hx
        · exact hes x hx
        · rw [List.mem_singleton.mp hx]
          refine ⟨by rw [he1]; omega, by rw [he2]; omega, fun j hj => ?_, hdr.b, hdr.l, hdr.k⟩
          have := rgI_mem (hdr.c j hj)
          omega
      · exact (S6.upF fw.1 fw.2.1 fw.2.2).mono (by omega)
      · exact (k4.trans ((Kp.of sq4).trans kp6)).upF hwl0
    rintro σ H4 ⟨hv, es, rfl, W4, hlen, hes, S4, k4⟩
    -- one taken out
    refine ⟨fun σ H' => ∃ (hv : Option V) (es : List Ed), σ = [some (.ref d), some (.int at_), some (.int many), some (.int labels), some (.bl low), some (.int pl), some (.ref wl), hv, none, none, none] ∧ EdSt wl H' es ∧ es.length ≤ 4 ∧ (∀ e ∈ es, DrN pl many labels e) ∧ StA H' d g c (n + 60) ∧ Kp d g H H', ?_, ?_⟩
    · obtain ⟨ws4, ew4, rw4⟩ := id W4
      have hlw : ws4.length = es.length := by rw [(rw4 0).len, List.length_map]
      refine ⟨_, rfl, Nat.zero_le _, fun e0 he0 => ?_⟩
      generalize hH5 : upd H4 e0 _ = H5
      obtain ⟨se0, ee0⟩ := freshF he0 hH5
      have S5 := S4.keep se0
      refine ⟨wl, e0, ws4, rfl, rfl, SqL.of (se0 _ _ ew4), SqL.of ee0, _, rfl, ?_⟩
      cases hemp : ws4.isEmpty with
      | true => exact ifF rfl ⟨hv, es, rfl, W4.keep se0, by omega, hes, S5.mono (by omega), k4.trans (Kp.of se0)⟩
      | false =>
        refine ifT rfl ?_
        have hpos : 0 < ws4.length := by
          cases ws4 with
          | nil => cases hemp
          | cons a b => exact Nat.succ_pos _
        refine ⟨_, rfl, d, g, c, _, 10, rfl, S5, by omega, by decide, by decide, fun u H6 u0 u1 S6 kp6 => ⟨rfl, _, rfl, ?_⟩⟩
        have W6 := (W4.keep se0).kp S5 kp6 fw.1 fw.2.1
        have k6 := k4.trans ((Kp.of se0).trans kp6)
        by_cases hu : u = 0
        · refine ifT (by simp [hu]) ?_
          obtain ⟨ws6, ew6, rw6⟩ := id W6
          have hl6 : ws6.length = es.length := by rw [(rw6 0).len, List.length_map]
          refine ⟨_, rfl, .inl ⟨rfl, _, SqL.of ew6⟩, _, rfl, _, rfl, wl, ws6, rfl, .inl (SqL.of ew6), d, g, c, _, _, rfl, S6, by omega, by omega, by omega, fun u7 H7 v0 v1 S7 kp7 => ?_⟩
          obtain ⟨ws7, ew7, rw7⟩ := W6.kp S6 kp7 fw.1 fw.2.1
          have hl7 : ws7.length = es.length := by rw [(rw7 0).len, List.length_map]
          have hi7 : u7.toNat < ws7.length := by omega
          refine ⟨wl, ws7, u7, u7.toNat, ws7[u7.toNat], rfl, rfl, ew7, by omega, by omega, seqIndex_of v0 (by omega), List.getElem?_eq_getElem hi7, ?_⟩
          have kt : Kt H7 (upd H7 wl (HO.lst (ws7.eraseIdx u7.toNat))) := Kt.put ew7
          refine ⟨hv, es.eraseIdx u7.toNat, rfl, ⟨_, upd_same, fun g' => ?_⟩, ?_, fun e he => hes e (List.mem_of_mem_eraseIdx he), (S7.upF fw.1 fw.2.1 fw.2.2).mono (by omega), (k6.trans kp7).upF hwl0⟩
          · rw [← map_erase]
            exact DVs.keepP (g := 0) kt (by rw [map_erase]; exact eds_pur _) (DVs.erase u7.toNat (rw7 0))
          · have := List.length_eraseIdx_le es u7.toNat
            omega
        · exact ifF (by simp [hu]) ⟨hv, es, rfl, W6, by omega, hes, S6.mono (by omega), k6⟩
    clear W4 S4 k4 hes hlen es hv
    rintro σ H4 ⟨hv, es, rfl, W4, hlen, hes, S4, k4⟩
    -- more edges
    refine ⟨fun v H' => ∃ m : Nat, v = .int (m : Nat) ∧ m ≤ 3 ∧ (0 < m → 1 < pl) ∧ EdSt wl H' es ∧ StA H' d g c (n + 61) ∧ Kp d g H H', ?_, ?_⟩
    · refine ⟨_, rfl, _, _, rfl, rfl, _, rfl, ?_⟩
      by_cases hp : 1 < pl
      · refine ifT (decide_eq_true (by omega)) ?_
        refine ⟨_, rfl, (by show 4 ≤ sizeLine; decide), fun q5 hq5 => ?_⟩
        generalize hH5 : upd H4 q5 _ = H5
        obtain ⟨sq5, eq5⟩ := freshF hq5 hH5
        have S5 := S4.keep sq5
        refine ⟨d, g, c, q5, _, _, rfl, S5, by omega, eq5, (S4.free hq5).2.1, by simp, (by show 4 ≤ 1000000; decide), fun v H6 hv6 S6 kp6 => ?_⟩
        obtain ⟨m, rfl, hm⟩ : ∃ m : Nat, v = .int (m : Nat) ∧ m ≤ 3 := by
          simp only [List.mem_cons, List.not_mem_nil, or_false] at hv6
          rcases hv6 with rfl | rfl | rfl | rfl
          · exact ⟨1, rfl, by decide⟩
          · exact ⟨2, rfl, by decide⟩
          · exact ⟨0, rfl, by decide⟩
          · exact ⟨3, rfl, by decide⟩
        exact ⟨m, rfl, hm, fun _ => hp, (W4.keep sq5).kp S5 kp6 fw.1 fw.2.1, S6.mono (by omega), k4.trans ((Kp.of sq5).trans kp6)⟩
      · exact ifF (decide_eq_false (by omega)) ⟨0, rfl, by decide, fun h => absurd h (by decide), W4, S4.mono (by omega), k4⟩
    clear W4 S4 k4
    rintro v H4 ⟨m, rfl, hm, hmp, W4, S4, k4⟩
    refine ⟨_, rfl, by omega, by omega, for_range (lo := 0) (n := ((m : Nat) : Int).toNat)
      (fun i σ H' => ∃ (v7 v8 v9 v10 : Option V) (es : List Ed), σ = [some (.ref d), some (.int at_), some (.int many), some (.int labels), some (.bl low), some (.int pl), some (.ref wl), v7, v8, v9, v10] ∧ EdSt wl H' es ∧ es.length ≤ 4 + i ∧ (∀ e ∈ es, DrN pl many labels e) ∧ StA H' d g c (n + 61 + 20 * i) ∧ Kp d g H H')
      ⟨hv, none, none, none, es, rfl, W4, hlen, hes, S4, k4⟩ ?_ ?_⟩
    · rintro i σ H5 hi ⟨v7, v8, v9, v10, es, rfl, W5, hlen, hes, S5, k5⟩
      rw [Int.toNat_natCast] at hi
      have hpl := hmp (by omega)
      refine ⟨_, rfl, _, rfl, _, _, rfl, rfl, d, g, c, _, pl - 1, rfl, S5, by omega, by omega, by omega, fun u H6 u0 u1 S6 kp6 => ?_⟩
      have W6 := W5.kp S5 kp6 fw.1 fw.2.1
      refine ⟨_, rfl, _, rfl, d, g, c, _, pl, rfl, S6, by omega, by omega, by omega, fun t H7 t0 t1 S7 kp7 => ?_⟩
      have W7 := W6.kp S6 kp7 fw.1 fw.2.1
      refine ⟨_, _, rfl, ?_⟩
      have k7 := k5.trans (kp6.trans kp7)
      -- calls
      refine ⟨fun σ H' => ∃ (ca : Addr) (cs : List Int), σ = [some (.ref d), some (.int at_), some (.int many), some (.int labels), some (.bl low), some (.int pl), some (.ref wl), some (.int u), some (.int (0 + (i : Nat))), some (.int t), some (.ref ca)] ∧ H' ca = some (.lst (cs.map V.int)) ∧ ca ≠ d ∧ ca ≠ g ∧ (∀ j ∈ cs, 0 ≤ j ∧ j < many) ∧ cs.length ≤ 100 ∧ EdSt wl H' es ∧ StA H' d g c (n + 61 + 20 * i + 3) ∧ Kp d g H H', ?_, ?_⟩
      · refine ⟨_, rfl, d, g, c, _, 3, rfl, S7, by omega, by decide, by decide, fun u8 H8 _ _ S8 kp8 => ⟨rfl, _, rfl, ?_⟩⟩
        have W8 := W7.kp S7 kp8 fw.1 fw.2.1
        have k8 := k7.trans kp8
        by_cases hu : u8 = 0
        · refine ifT (by simp [hu]) ?_
          refine ⟨_, rfl, _, rfl, RgOk.of_le (by omega) (by omega) (by omega) (by omega), fun ca hca => ?_⟩
          generalize hH9 : upd H8 ca _ = H9
          obtain ⟨sca, eca⟩ := freshF hca hH9
          have fc := S8.free hca
          exact ⟨ca, rgI 0 many, rfl, by rw [eca, rgV_eq], fc.1, fc.2.1, fun j hj => rgI_mem hj, by rw [rgI_len]; omega, W8.keep sca, S8.keep sca, k8.trans (Kp.of sca)⟩
        · refine ifF (by simp [hu]) ?_
          refine ⟨Nat.zero_le _, fun ca hca => ?_⟩
          generalize hH9 : upd H8 ca _ = H9
          obtain ⟨sca, eca⟩ := freshF hca hH9
          have fc := S8.free hca
          exact ⟨ca, [], rfl, eca, fc.1, fc.2.1, (fun j hj => by cases hj), by decide, W8.keep sca, S8.keep sca, k8.trans (Kp.of sca)⟩
      clear W5 W6 W7 S5 S6 S7 kp6 kp7 k5 k7
      rintro σ H6 ⟨ca, cs, rfl, eca, nd, ng, hcs, hcl, W6, S6, k6⟩
      obtain ⟨ws6, ew6, rw6⟩ := id W6
      refine ⟨_, rfl, .inl ⟨rfl, _, SqL.of ew6⟩, _, rfl, _, rfl, _, rfl, _, rfl, _, rfl, _, rfl, d, g, c, ca, _, u, t, labels, cs, low, rfl, S6, by omega, eca, nd, ng, by omega, hl0, hl1, fun v e H7 he1 he2 hdr S7 kp7 hv7 => ?_⟩
      obtain ⟨ws7, ew7, rw7⟩ := W6.kp S6 kp7 fw.1 fw.2.1
      have hl7 : ws7.length = es.length := by rw [(rw7 0).len, List.length_map]
      refine ⟨wl, ws7, v, rfl, rfl, ew7, by rw [hl7, sizeLine_eq]; omega, _, _, _, _, es ++ [e], rfl, EdSt.add ew7 rw7 hv7, by rw [List.length_append]; show es.length + 1 ≤ _; omega, ?_, (S7.upF fw.1 fw.2.1 fw.2.2).mono (by omega), (k6.trans kp7).upF hwl0⟩
      intro x hx
      rcases List.mem_append.mp hx with hx | hx
      · exact hes x hx
      · rw [List.mem_singleton.mp hx]
        refine ⟨by rw [he1]; omega, by rw [he2]; omega, fun j hj => ?_, hdr.b, hdr.l, hdr.k⟩
        exact hcs j (hdr.c j hj)
    clear W4 S4 k4 hes hlen es
    rintro σ H4 ⟨v7, v8, v9, v10, es, rfl, W4, hlen, hes, S4, k4⟩
    rw [Int.toNat_natCast] at hlen S4
    obtain ⟨ws4, ew4, rw4⟩ := id W4
    have hlw : ws4.length = es.length := by rw [(rw4 0).len, List.length_map]
    refine ⟨_, rfl, _, rfl, _, rfl, d, g, c, wl, _, ws4, rfl, S4, by omega, ew4, by omega, fun p ys H5 hperm S5 kp5 hp ep => ?_⟩
    have kt5 := Kt.kp S4 kp5
    obtain ⟨es', pm, r5⟩ := perm_dvs hperm es (DVs.keepP (g := 0) (g' := 0) kt5 (eds_pur es) (rw4 0))
    refine ⟨p, ys, rfl, .inl ⟨SqL.of ep, fun l hl => ?_⟩⟩
    generalize hH6 : upd H5 l _ = H6
    obtain ⟨sl, el⟩ := freshF hl hH6
    refine ⟨(by show 2 ≤ sizeLine; decide), fun t ht => ?_⟩
    generalize hH7 : upd H6 t _ = H7
    obtain ⟨st, et⟩ := freshF ht hH7
    have s57 := sl.trans st
    have hel : es'.length = es.length := pm.length_eq
    refine k _ (pl, es') H7 hp1 hp5 (by show es'.length ≤ 7; omega) (fun e he => hes e (pm.mem_iff.mp he)) ((S5.keep s57).mono (by omega)) (k4.trans (kp5.trans (Kp.of s57))) fun g' => ?_
    refine .tup et (by show 2 ≤ 20000; decide) (.cons (.int _) (.cons (.tup (st _ _ el) (by show (es'.map edD).length ≤ 20000; rw [List.length_map]; omega) ?_) .nil))
    exact DVs.keepP (g := 0) (Kt.of s57) (eds_pur es') r5
end
end K65

set_option Elab.async false
set_option linter.all false
set_option pp.maxSteps 900
set_option maxRecDepth 100000
set_option maxHeartbeats 4000000
namespace K65
open PySem PySem.Spec PyProof.Rows L2
open TL (tl)
theorem nt_pur (n : Int × List Ed) : pur (ntD n) = true := by
  show (true && (purs (n.2.map edD) && true)) = true
  rw [eds_pur]
  rfl
theorem nts_pur (ns : List (Int × List Ed)) : purs (ns.map ntD) = true := purs_map fun n _ => nt_pur n
theorem wb_pur (W : Web) : pur (wbD W) = true := by
  show (true && (purs (W.ns.map ntD) && true)) = true
  rw [nts_pur]
  rfl
/-- a web that the law draws -/
structure DrW (W : Web) : Prop where
  ok : OkW W
  lb : W.lb ≤ 5
  n : W.ns.length ≤ 4
  p : ∀ n ∈ W.ns, n.1 ≤ 5
  e : ∀ n ∈ W.ns, n.2.length ≤ 7
  l : ∀ n ∈ W.ns, ∀ e ∈ n.2, e.l.length ≤ 3
def spWW : Sp := fun vs H Q _ => ∃ (d g c : Addr) (n : Nat) (low : Bool), vs = [.ref d, .bl low] ∧ StA H d g c n ∧ n ≤ 700000000 ∧
  ∀ (v : V) (W : Web) (H' : Hp), DrW W → StA H' d g c (n + 1000) → Kp d g H H' → (∀ g', DV g' H' v (wbD W)) → Q v H'
theorem sum_le {l : List Int} {b : Int} (h : ∀ x ∈ l, x ≤ b) : l.sum ≤ l.length * b := by
  induction l with
  | nil => simp
  | cons x l ih =>
    have h1 := h x List.mem_cons_self
    have h2 := ih fun y hy => h y (List.mem_cons_of_mem _ hy)
    rw [List.sum_cons, List.length_cons]
    have : (((l.length + 1 : Nat) : Int)) * b = l.length * b + b := by rw [Int.natCast_add, Int.add_mul]; simp
    omega
theorem drw_of {lb many : Int} {ns : List (Int × List Ed)} (hl : 0 ≤ lb ∧ lb ≤ 5) (h1 : 1 ≤ ns.length) (h4 : ns.length ≤ 4) (hm : many = ns.length) (hp : ∀ n ∈ ns, 1 ≤ n.1 ∧ n.1 ≤ 5 ∧ n.2.length ≤ 7) (he : ∀ n ∈ ns, ∀ e ∈ n.2, DrN n.1 many lb e) : DrW ⟨lb, ns⟩ := by
  have hs1 : (ns.map (·.1)).sum ≤ 4000 := by
    have := sum_le (l := ns.map (·.1)) (b := 5) fun x hx => by
      obtain ⟨n, hn, rfl⟩ := List.mem_map.mp hx
      exact (hp n hn).2.1
    rw [List.length_map] at this
    omega
  have hs2 : (ns.map fun n => (n.2.length : Int)).sum ≤ 8000 := by
    have := sum_le (l := ns.map fun n => (n.2.length : Int)) (b := 7) fun x hx => by
      obtain ⟨n, hn, rfl⟩ := List.mem_map.mp hx
      have := (hp n hn).2.2
      show (n.2.length : Int) ≤ 7
      omega
    rw [List.length_map] at this
    omega
  refine ⟨⟨⟨hl.1, by show lb ≤ 4000; omega⟩, h1, by show ns.length ≤ 400; omega, fun n hn => (hp n hn).1, hs1, hs2, fun n hn e hm' => ?_⟩, hl.2, h4, fun n hn => (hp n hn).2.1, fun n hn => (hp n hn).2.2, fun n hn e hm' => (he n hn e hm').l⟩
  have h := he n hn e hm'
  have hl' := h.l
  refine ⟨h.p, h.t, fun i hi => ?_, h.b, by omega, fun i hi => ?_⟩
  · have := h.c i hi
    show 0 ≤ i ∧ i ≤ (ns.length : Int) - 1
    omega
  · have := h.k i hi
    show 0 ≤ i ∧ i ≤ lb - 1
    omega
section
variable {P : Program} {w : World} {K : PySem.W.Frag} {mg : Str → Option Value} {base : Heap}
theorem scWw : FnScope ["state", "low", "many", "labels", "at"] ["state", "low"] (defScope sWW) := ⟨rfl, rfl, rfl, by decide +kernel, rfl, by decide +kernel, by decide +kernel⟩
theorem ok_ww {f : Addr} {fd : FuncData} (F : Fun K "_law_wb_web" "_law_wb_web" sWW f fd) (T : Bn mg) (cP : Cl P w K mg base "_law_pick" ["state", "some"] 3 spPck) (cWN : Cl P w K mg base "_law_wb_net" ["state", "at", "many", "labels", "low"] 5 spWN) : FnOk P w K mg base CX0 6 f fd ["state", "low"] spWW := by
  obtain ⟨fP, fdP, GP, mP, kP, bP⟩ := cP
  obtain ⟨fWN, fdWN, GWN, mWN, kWN, bWN⟩ := cWN
  refine F.ok scWw (fun vs H Q E h => ?_) (fun cdv A outer s H vs Q E hr h => ?_)
  · obtain ⟨d, g, c, n, lo, rfl, _⟩ := h
    rfl
  · obtain ⟨d, g, c, n, low, rfl, S, hn, k⟩ := h
    have hr3 : Room 3 _ := hr.mono (by decide)
    refine ⟨_, (pss_cons (ps_asg (pe_tup (pa_cons (pe_call GP hr3 (by rfl) mP kP bP .nil pass0 (pa_cons (pv 0) (pa_cons (pe_lst (pa_cons pe_int (pa_cons pe_int (pa_cons pe_int (pa_cons pe_int pa_nil))))) pa_nil))) (pa_cons (pe_call GP hr3 (by rfl) mP kP bP .nil pass0 (pa_cons (pv 0) (pa_cons (pe_lst (pa_cons pe_int (pa_cons pe_int (pa_cons pe_int (pa_cons pe_int (pa_cons pe_int (pa_cons pe_int pa_nil))))))) pa_nil))) pa_nil))) (pg_tup (by rfl) (pgs_cons (pg_name (i := 2) scWw.nd rfl (Or.inr rfl)) (pgs_cons (pg_name (i := 3) scWw.nd rfl (Or.inr rfl)) pgs_nil))))
      (pss_one (ps_ret (pe_tup (pa_cons (pv 3) (pa_cons (pe_callTy call_tuple_of (by rfl) T.tpl (by decide +kernel) (pa_cons (pe_lc (own := [("at", 4)]) (g := gName 4) (tt := tYes) (by rfl) scWw.nd (pi_range1 (by rfl) T.rng (pa_cons (pv 2) pa_nil)) (blkOk_by (own := [("at", 4)]) (N := ["state", "low", "many", "labels", "at"]) (sc := defScope sWW) (by decide +kernel)) (fun _ _ _ _ _ => (pg_name (i := 4) scWw.nd rfl (Or.inl rfl))) (fun _ _ _ _ _ => pts_nil) (fun _ _ _ _ _ => (pe_call GWN hr (by rfl) mWN kWN bWN .nil pass0 (pa_cons (pv 0) (pa_cons (pv 4) (pa_cons (pv 2) (pa_cons (pv 3) (pa_cons (pv 1) pa_nil)))))))) pa_nil)) pa_nil)))))), ?_⟩
    refine ⟨_, rfl, (by show 4 ≤ sizeLine; decide), fun q hq => ?_⟩
    generalize hH1 : upd H q _ = H1
    obtain ⟨sq, eq⟩ := freshF hq hH1
    have S1 := S.keep sq
    refine ⟨d, g, c, q, _, _, rfl, S1, by omega, eq, (S.free hq).2.1, by simp, (by show 4 ≤ 1000000; decide), fun v H2 hv S2 kp2 => ?_⟩
    obtain ⟨m, rfl, hm1, hm4⟩ : ∃ m : Nat, v = .int (m : Nat) ∧ 1 ≤ m ∧ m ≤ 4 := by
      simp only [List.mem_cons, List.not_mem_nil, or_false] at hv
      rcases hv with rfl | rfl | rfl | rfl
      · exact ⟨2, rfl, by decide, by decide⟩
      · exact ⟨1, rfl, by decide, by decide⟩
      · exact ⟨3, rfl, by decide, by decide⟩
      · exact ⟨4, rfl, by decide, by decide⟩
    refine ⟨_, rfl, (by show 6 ≤ sizeLine; decide), fun q3 hq3 => ?_⟩
    generalize hH3 : upd H2 q3 _ = H3
    obtain ⟨sq3, eq3⟩ := freshF hq3 hH3
    have S3 := S2.keep sq3
    refine ⟨d, g, c, q3, _, _, rfl, S3, by omega, eq3, (S2.free hq3).2.1, by simp, (by show 6 ≤ 1000000; decide), fun v H4 hv S4 kp4 => ?_⟩
    obtain ⟨lb, rfl, hlb⟩ : ∃ l : Int, v = .int l ∧ 0 ≤ l ∧ l ≤ 5 := by
      simp only [List.mem_cons, List.not_mem_nil, or_false] at hv
      rcases hv with rfl | rfl | rfl | rfl | rfl | rfl <;> exact ⟨_, rfl, by decide, by decide⟩
    have k4 : Kp d g H H4 := (Kp.of sq).trans (kp2.trans ((Kp.of sq3).trans kp4))
    refine ⟨(by show 2 ≤ sizeLine; decide), fun tp htp => ?_⟩
    generalize hH4a : upd H4 tp _ = H4a
    obtain ⟨stp, etp⟩ := freshF htp hH4a
    refine ⟨tp, _, rfl, SqT.of etp, rfl, _, _, rfl, _, _, rfl, rfl, ?_⟩
    have S4 := S4.keep stp
    have k4 := k4.trans (Kp.of stp)
    refine ⟨_, rfl, _, rfl, _, rfl, by omega, by omega, ?_⟩
    intro D hD
    have fD := S4.free hD
    refine lc_it (walk_range (lo := 0) (n := ((m : Nat) : Int).toNat)) (fun i H' => ∃ (ws : List V) (ns : List (Int × List Ed)), H' D = some (.lst ws) ∧ (∀ g', DVs g' H' ws (ns.map ntD)) ∧ ns.length = i ∧ (∀ x ∈ ns, 1 ≤ x.1 ∧ x.1 ≤ 5 ∧ x.2.length ≤ 7) ∧ (∀ x ∈ ns, ∀ e ∈ x.2, DrN x.1 (m : Nat) lb e) ∧ StA H' d g c (n + 2 + 200 * i) ∧ Kp d g H4a H')
      ⟨[], [], upd_same, fun g' => .nil, rfl, (fun x hx => by cases hx), (fun x hx => by cases hx), S4.keep (same_new hD), Kp.of (same_new hD)⟩ (fun _ _ _ _ => trivial) ?_ ?_
    · rintro i x H5z H5 hi ⟨ws, ns, e5, r5, hl, hp, he, S5, k5⟩ ⟨rfl, rfl⟩
      rw [Int.toNat_natCast] at hi
      refine ⟨rfl, ?_⟩
      refine ⟨_, rfl, _, rfl, _, rfl, _, rfl, _, rfl, d, g, c, _, 0 + (i : Nat), (m : Nat), lb, low, rfl, S5, by omega, by omega, by omega, by omega, by omega, by omega, fun v nt H6 h1 h5 h7 hdr S6 kp6 hv => ?_⟩
      have e6 := kp6 _ _ e5 fD.1 fD.2.1
      have kt6 := Kt.kp S5 kp6
      have hlw : ws.length = i := by rw [(r5 0).len, List.length_map, hl]
      have ktp : Kt H6 (upd H6 D (HO.lst (ws ++ [v]))) := Kt.put e6
      refine ⟨_, e6, by rw [hlw, sizeLine_eq]; omega, _, ns ++ [nt], upd_same, fun g' => ?_, by rw [List.length_append, hl]; rfl, ?_, ?_, (S6.upF fD.1 fD.2.1 fD.2.2).mono (by omega), (k5.trans kp6).upF hD⟩
      · rw [List.map_append]
        exact DVs.app (DVs.keepP (g := 0) (fun b xs e => ktp _ _ (kt6 _ _ e)) (nts_pur ns) (r5 0)) (.cons (DV.keepP (g := 0) ktp (nt_pur nt) (hv 0)) .nil)
      · intro x hx
        rcases List.mem_append.mp hx with hx | hx
        · exact hp x hx
        · rw [List.mem_singleton.mp hx]
          exact ⟨h1, h5, h7⟩
      · intro x hx
        rcases List.mem_append.mp hx with hx | hx
        · exact he x hx
        · rw [List.mem_singleton.mp hx]
          exact hdr
    · rintro H5 ⟨ws, ns, e5, r5, hl, hp, he, S5, k5⟩
      rw [Int.toNat_natCast] at hl S5
      refine ⟨D, ws, rfl, .inl ⟨SqL.of e5, fun l0 hl0 => ?_⟩⟩
      generalize hH6 : upd H5 l0 _ = H6
      obtain ⟨sl0, el0⟩ := freshF hl0 hH6
      refine ⟨(by show 2 ≤ sizeLine; decide), fun t ht => ?_⟩
      generalize hH7 : upd H6 t _ = H7
      obtain ⟨st, et⟩ := freshF ht hH7
      have s57 := sl0.trans st
      refine k _ ⟨lb, ns⟩ H7 (drw_of hlb (by omega) (by omega) (by omega) hp he) ((S5.keep s57).mono (by omega)) (k4.trans (k5.trans (Kp.of s57))) fun g' => ?_
      refine .tup et (by show 2 ≤ 20000; decide) (.cons (.int _) (.cons (.tup (st _ _ el0) (by show (ns.map ntD).length ≤ 20000; rw [List.length_map]; omega) ?_) .nil))
      exact DVs.keepP (g := 0) (Kt.of s57) (nts_pur ns) (r5 0)
end
end K65

set_option Elab.async false
set_option linter.all false
set_option pp.maxSteps 900
set_option maxRecDepth 100000
set_option maxHeartbeats 4000000
namespace K65
open PySem PySem.Spec PyProof.Rows L2
open TL (tl)
abbrev sSum : Stmt := top 33
abbrev sOwn : Stmt := top 34
def spSum : Sp := fun vs H Q _ => ∃ (p q : Addr) (xs ys : List Int) (t : Int), vs = [.ref p, .ref q, .int t] ∧ H p = some (.lst (xs.map V.int)) ∧ H q = some (.lst (ys.map V.int)) ∧ xs.length = ys.length ∧ xs.length ≤ 5000 ∧ -(2 ^ 64) < t ∧ t < 2 ^ 64 ∧
  ∀ (D : Addr) (H' : Hp), Same H H' → H D = none → H' D = some (.lst ((List.zipWith (fun a b => a + t * b) xs ys).map V.int)) → Q (.ref D) H'
/-- a label more, for each of the names -/
def bump (v : List Int) (l : List Int) : List Int := l.foldl (fun v k => v.set k.toNat (v.getD k.toNat 0 + 1)) v
def own (lb : Int) (e : Ed) : List Int := bump (List.replicate lb.toNat 0 ++ [e.b]) e.l
theorem bump_len (l : List Int) : ∀ v : List Int, (bump v l).length = v.length := by
  induction l with
  | nil => intro v; rfl
  | cons k l ih =>
    intro v
    show (bump (v.set k.toNat (v.getD k.toNat 0 + 1)) l).length = _
    rw [ih, List.length_set]
theorem own_len {lb : Int} (e : Ed) : (own lb e).length = lb.toNat + 1 := by
  unfold own
  rw [bump_len, List.length_append, List.length_replicate]
  rfl
def spOwn : Sp := fun vs H Q _ => ∃ (g : Addr) (vw ve : V) (W : Web) (e : Ed), vs = [vw, ve] ∧ DV g H vw (wbD W) ∧ 0 ≤ W.lb ∧ W.lb ≤ 4000 ∧ DV g H ve (edD e) ∧ (∀ i ∈ e.l, 0 ≤ i ∧ i ≤ W.lb - 1) ∧
  ∀ (D : Addr) (H' : Hp), Same H H' → H D = none → H' D = some (.lst ((own W.lb e).map V.int)) → Q (.ref D) H'
section
variable {P : Program} {w : World} {K : PySem.W.Frag} {mg : Str → Option Value} {base : Heap}
theorem scSum : FnScope ["one", "other", "times", "a", "b"] ["one", "other", "times"] (defScope sSum) := ⟨rfl, rfl, rfl, by decide +kernel, rfl, by decide +kernel, by decide +kernel⟩
theorem ok_sum {f : Addr} {fd : FuncData} (F : Fun K "_law_wb_sum" "_law_wb_sum" sSum f fd) (T : Bn mg) : FnOk P w K mg base CX0 1 f fd ["one", "other", "times"] spSum := by
  refine F.ok scSum (fun vs H Q E h => ?_) (fun cdv A outer s H vs Q E hr h => ?_)
  · obtain ⟨p, q, xs, ys, t, rfl, _⟩ := h
    rfl
  · obtain ⟨p, q, xs, ys, t, rfl, hp, hq, hl, hx, t0, t1, k⟩ := h
    refine ⟨_, (pss_one (ps_ret (pe_lc (own := [("a", 3), ("b", 4)]) (g := gTup K 2 (gCons (gName 3) (gCons (gName 4) gNil))) (tt := tYes) (by rfl) scSum.nd (pi_zip (by rfl) T.zip (pa_cons (pv 0) (pa_cons (pv 1) pa_nil))) (blkOk_by (own := [("a", 3), ("b", 4)]) (N := ["one", "other", "times", "a", "b"]) (sc := defScope sSum) (by decide +kernel)) (fun _ _ _ _ _ => (pg_tup (by rfl) (pgs_cons (pg_name (i := 3) scSum.nd rfl (Or.inl rfl)) (pgs_cons (pg_name (i := 4) scSum.nd rfl (Or.inl rfl)) pgs_nil)))) (fun _ _ _ _ _ => pts_nil) (fun _ _ _ _ _ => (pe_op op_add (pv 3) (pe_op op_mul (pv 2) (pv 4))))))), ?_⟩
    refine ⟨_, rfl, _, rfl, p, q, _, _, rfl, SqL.of hp, SqL.of hq, fun D hD => ?_⟩
    refine lc_it (walk_zip (K := K) (a := p) (b := q) (xs := xs.map V.int) (ys := ys.map V.int) (n := xs.length) (by rw [List.length_map, List.length_map]; omega)) (fun i H' => H' D = some (.lst (((List.zipWith (fun a b => a + t * b) xs ys).take i).map V.int)) ∧ Same H H') ⟨upd_same, same_new hD⟩ (fun _ _ _ h => ⟨SqL.of (h.2 _ _ hp), SqL.of (h.2 _ _ hq)⟩) ?_ ?_
    · rintro i x H1 H1z hi ⟨e1, s1⟩ ⟨T0, x', y', rfl, hT, rfl, hx', hy'⟩
      have hx2 : (xs.map V.int)[i]? = some x' := hx'
      have hy2 : (ys.map V.int)[i]? = some y' := hy'
      rw [List.getElem?_map] at hx2 hy2
      obtain ⟨a, ha, rfl⟩ := Option.map_eq_some_iff.mp hx2
      obtain ⟨b, hb, rfl⟩ := Option.map_eq_some_iff.mp hy2
      have sT := same_new (o := .tup [V.int a, V.int b]) hT
      generalize hH2 : upd H1 T0 _ = H2
      have eT : H2 T0 = some (.tup [V.int a, V.int b]) := by rw [← hH2, upd_same]
      have s12 : Same H1 H2 := by rw [← hH2]; exact sT
      have e2 := s12 _ _ e1
      refine ⟨T0, _, rfl, SqT.of eT, rfl, _, _, rfl, _, _, rfl, rfl, rfl, ?_⟩
      refine ⟨_, rfl, _, rfl, _, rfl, _, _, rfl, rfl, .inl ⟨t0, t1⟩, _, _, rfl, rfl, _, e2, ?_, ?_, ?_⟩
      · rw [List.length_map, List.length_take, sizeLine_eq]
        omega
      · rw [upd_same, List.take_succ, List.getElem?_zipWith, ha, hb, List.map_append]
        rfl
      · intro b' o eb
        rw [upd_ne (ne_of_none eb hD)]
        exact s12 _ _ (s1 _ _ eb)
    · rintro H1 ⟨e1, s1⟩
      rw [List.take_of_length_le (by rw [List.length_zipWith]; omega)] at e1
      exact k D H1 s1 hD e1
theorem scOwn : FnScope ["web", "edge", "found", "name"] ["web", "edge"] (defScope sOwn) := ⟨rfl, rfl, rfl, by decide +kernel, rfl, by decide +kernel, by decide +kernel⟩
theorem ok_own {f : Addr} {fd : FuncData} (F : Fun K "_law_wb_own" "_law_wb_own" sOwn f fd) (T : Bn mg) : FnOk P w K mg base CX0 1 f fd ["web", "edge"] spOwn := by
  refine F.ok scOwn (fun vs H Q E h => ?_) (fun cdv A outer s H vs Q E hr h => ?_)
  · obtain ⟨g, a, b, W, e, rfl, _⟩ := h
    rfl
  · obtain ⟨g, vw, ve, W, e, rfl, hw, hl0, hl1, he, hlab, k⟩ := h
    refine ⟨_, (pss_cons (ps_set (i := 2) scOwn.nd rfl (Or.inl rfl) (pe_op op_cat (pe_op op_rep (pe_lst (pa_cons pe_int pa_nil)) (pe_ix ix_tup (pv 0) pe_int (fun _ _ => rfl))) (pe_lst (pa_cons (pe_ix ix_tup (pv 1) pe_int (fun _ _ => rfl)) pa_nil))))
      (pss_cons (ps_for PassesOwn.never rfl (pi_tup (pe_ix ix_tup (pv 1) pe_int (fun _ _ => rfl))) (pg_name (i := 3) scOwn.nd rfl (Or.inl rfl))
          (pss_one (ps_asg (pe_op op_add (pe_ix ix_list (pv 2) (pv 3) (fun _ _ => rfl)) pe_int) (pg_sub (pv 2) (pv 3) set_list))))
      (pss_one (ps_ret (pv 2))))), ?_⟩
    obtain ⟨b0, c0, xn, rfl, eb0, ec0, rn⟩ := wb_at hw
    obtain ⟨b1, a1, rfl, eb1, xl, ea1, rl⟩ := ed_at he
    refine ⟨(by show 1 ≤ sizeLine; decide), fun z1 hz1 => ?_⟩
    generalize hH1 : upd H z1 _ = H1
    obtain ⟨sz1, ez1⟩ := freshF hz1 hH1
    refine ⟨_, rfl, b0, _, 0, _, rfl, rfl, SqT.of (sz1 _ _ eb0), atI_nat (j := 0) rfl, z1, W.lb, _, rfl, rfl, ez1, by omega, by omega, by show 1 * W.lb.toNat ≤ sizeLine; rw [sizeLine_eq]; omega, fun z2 hz2 => ?_⟩
    generalize hH2 : upd H1 z2 _ = H2
    obtain ⟨sz2, ez2⟩ := freshF hz2 hH2
    have s02 := sz1.trans sz2
    refine ⟨_, rfl, b1, _, 3, _, rfl, rfl, SqT.of (s02 _ _ eb1), atI_nat (j := 3) rfl, (by show 1 ≤ sizeLine; decide), fun z3 hz3 => ?_⟩
    generalize hH3 : upd H2 z3 _ = H3
    obtain ⟨sz3, ez3⟩ := freshF hz3 hH3
    have hrep : (List.replicate W.lb.toNat [V.int 0]).flatten = (List.replicate W.lb.toNat (0 : Int)).map V.int := by
      generalize W.lb.toNat = m
      induction m with
      | zero => rfl
      | succ m ih => rw [List.replicate_succ, List.flatten_cons, ih, List.replicate_succ, List.map_cons]; rfl
    have ez2' : H3 z2 = some (.lst ((List.replicate W.lb.toNat (0 : Int)).map V.int)) := by
      rw [← hrep]
      exact sz3 _ _ ez2
    refine ⟨z2, z3, _, _, rfl, rfl, ez2', ez3, by rw [List.length_map, List.length_replicate, sizeLine_eq]; show _ + 1 ≤ _; omega, fun z4 hz4 => ?_⟩
    generalize hH4 : upd H3 z4 _ = H4
    obtain ⟨sz4, ez4⟩ := freshF hz4 hH4
    have s03 := s02.trans sz3
    have s04 := s03.trans sz4
    have hz40 : H z4 = none := s03.free hz4
    have ez4' : H4 z4 = some (.lst ((List.replicate W.lb.toNat (0 : Int) ++ [e.b]).map V.int)) := by
      rw [ez4, List.map_append]
      rfl
    have hxl : xl.length = e.l.length := by rw [rl.len, List.length_map]
    refine ⟨_, rfl, b1, _, 4, _, rfl, rfl, SqT.of (s04 _ _ eb1), atI_nat (j := 4) rfl, a1, rfl, ⟨_, SqT.of (s04 _ _ ea1)⟩, for_it (walk_tup (K := K) (a := a1) (xs := xl))
      (fun i σ H' => ∃ nm : Option V, σ = [some (.ref b0), some (.ref b1), some (.ref z4), nm] ∧ H' z4 = some (.lst ((bump (List.replicate W.lb.toNat (0 : Int) ++ [e.b]) (e.l.take i)).map V.int)) ∧ Same H H')
      ⟨none, rfl, ez4', s04⟩ (fun i σ H' _ ⟨_, _, _, s⟩ => SqT.of (s _ _ ea1)) ?_ ?_⟩
    · rintro i x σ H5 H5z hi ⟨nm, rfl, e5, s5⟩ ⟨rfl, hx⟩
      obtain ⟨dk, hdk, hxd⟩ := rl.at_ hx
      rw [List.getElem?_map] at hdk
      obtain ⟨kk, hkk, rfl⟩ := Option.map_eq_some_iff.mp hdk
      obtain rfl := hxd.int_inv
      obtain ⟨k0, k1⟩ := hlab kk (List.mem_of_getElem? hkk)
      have hbl : (bump (List.replicate W.lb.toNat (0 : Int) ++ [e.b]) (e.l.take i)).length = W.lb.toNat + 1 := by
        rw [bump_len, List.length_append, List.length_replicate]
        rfl
      generalize hbv : bump (List.replicate W.lb.toNat (0 : Int) ++ [e.b]) (e.l.take i) = bv at *
      have hk : kk.toNat < bv.length := by omega
      have hget : (bv.map V.int)[kk.toNat]? = some (V.int (bv.getD kk.toNat 0)) := by
        rw [List.getElem?_map, List.getElem?_eq_getElem hk, List.getD_eq_getElem?_getD, List.getElem?_eq_getElem hk]
        rfl
      refine ⟨_, rfl, _, rfl, z4, _, kk, _, rfl, rfl, SqL.of e5, at_int k0 hget, _, _, rfl, rfl, ?_⟩
      have hix : ixN (bv.map V.int).length kk = some kk.toNat := by
        unfold ixN
        rw [List.length_map]
        rw [if_pos k0, if_pos (by omega)]
      refine ⟨_, rfl, _, rfl, z4, _, kk, kk.toNat, rfl, rfl, e5, hix, _, rfl, ?_, ?_⟩
      · rw [upd_same, List.take_succ, hkk]
        have hb2 : bump (List.replicate W.lb.toNat (0 : Int) ++ [e.b]) (e.l.take i ++ [kk]) = bv.set kk.toNat (bv.getD kk.toNat 0 + 1) := by
          rw [← hbv]
          unfold bump
          rw [List.foldl_append]
          rfl
        rw [show e.l.take i ++ (some kk).toList = e.l.take i ++ [kk] from rfl, hb2, List.map_set]
      · intro b' o eb
        rw [upd_ne (ne_of_none eb hz40)]
        exact s5 _ _ eb
    · rintro σ H5 ⟨nm, rfl, e5, s5⟩
      rw [hxl, List.take_length] at e5
      exact ⟨_, rfl, k z4 H5 s5 hz40 e5⟩
end
end K65

set_option Elab.async false
set_option linter.all false
set_option pp.maxSteps 900
set_option maxRecDepth 100000
set_option maxHeartbeats 4000000
namespace K65
open PySem PySem.Spec PyProof.Rows L2
/-! ### charts: a graph of spots (mathematics) -/
structure GE where
  s : Nat
  g : Nat
  q : Option Nat
  c : Option Nat
def needs (e : GE) : List Nat := e.g :: e.c.toList
inductive Fn (es : List GE) (ends : List Nat) : Nat → Prop
  | end_ {x : Nat} (h : x ∈ ends) : Fn es ends x
  | step {e : GE} (h : e ∈ es) (hn : ∀ y ∈ needs e, Fn es ends y) : Fn es ends e.s
/-- how many of an edge's needs are among the spots done -/
def dn (P : List Nat) (e : GE) : Nat := (needs e).countP fun y => decide (y ∈ P)
theorem dn_le (P : List Nat) (e : GE) : dn P e ≤ (needs e).length := List.countP_le_length
theorem countP_or {f : Nat} {P : List Nat} (hf : f ∉ P) : ∀ l : List Nat, (l.countP fun y => decide (y ∈ P ++ [f])) = (l.countP fun y => decide (y ∈ P)) + l.count f
  | [] => rfl
  | y :: l => by
    have ih := countP_or hf l
    rw [List.countP_cons, List.countP_cons, List.count_cons, ih]
    by_cases h : y = f
    · subst h
      have h1 : decide (y ∈ P ++ [y]) = true := decide_eq_true (by simp)
      have h2 : decide (y ∈ P) = false := decide_eq_false hf
      rw [h1, h2]
      simp
      omega
    · have h1 : decide (y ∈ P ++ [f]) = decide (y ∈ P) := by
        rw [decide_eq_decide]
        simp [h]
      have h2 : (y == f) = false := by simpa using h
      rw [h1, h2]
      simp
      omega
theorem dn_snoc {f : Nat} {P : List Nat} (hf : f ∉ P) (e : GE) : dn (P ++ [f]) e = dn P e + (needs e).count f := countP_or hf _
theorem dn_all {P : List Nat} {e : GE} (h : dn P e = (needs e).length) : ∀ y ∈ needs e, y ∈ P := fun y hy => by
  have := List.countP_eq_length.mp h y hy
  exact of_decide_eq_true this
theorem dn_full {P : List Nat} {e : GE} (h : ∀ y ∈ needs e, y ∈ P) : dn P e = (needs e).length :=
  List.countP_eq_length.mpr fun y hy => decide_eq_true (h y hy)
theorem needs_ne (e : GE) : needs e ≠ [] := by
  unfold needs
  simp
structure FinI (n : Nat) (es : List GE) (ends : List Nat) (O : List Nat) (ch : List (Option Nat)) : Prop where
  nd : O.Nodup
  lt : ∀ x ∈ O, x < n
  cl : ch.length = n
  en : ∀ x ∈ ends, x ∈ O
  no : ∀ x, x ∈ ends → ch[x]? = some none
  mem : ∀ x a, ch[x]? = some (some a) → x ∈ O
  ord : ∀ (i x : Nat), O[i]? = some x → x ∈ ends ∨ ∃ (a : Nat) (e : GE), ch[x]? = some (some a) ∧ es[a]? = some e ∧ e.s = x ∧ ∀ y ∈ needs e, y ∈ O.take i
/-- where the edges wait -/
def WOk (n : Nat) (es : List GE) (ws : List (List Nat)) : Prop := ws.length = n ∧ ∀ (x : Nat) (l : List Nat), ws[x]? = some l → (∀ a ∈ l, a < es.length) ∧ ∀ (a : Nat) (e : GE), es[a]? = some e → l.count a = (needs e).count x
/-- what is missing still -/
def MsF (es : List GE) (P w : List Nat) (ms : List Int) : Prop := ms.length = es.length ∧ ∀ (a : Nat) (e : GE), es[a]? = some e → ms[a]? = some (((needs e).length : Int) - (dn P e : Nat) - (w.count a : Nat))
def CmF (es : List GE) (O : List Nat) (ms : List Int) : Prop := ∀ (a : Nat) (e : GE), es[a]? = some e → ms[a]? = some 0 → e.s ∈ O
theorem count_take_le {a j : Nat} {w : List Nat} : (w.take j).count a ≤ w.count a := by
  have h : w.count a = (w.take j).count a + (w.drop j).count a := by
    rw [← List.count_append, List.take_append_drop]
  omega
/-- one more of the waiting edges -/
theorem ms_step {es : List GE} {P w : List Nat} {ms : List Int} {j a : Nat} {e : GE} {m : Int} (h : MsF es P (w.take j) ms) (hj : w[j]? = some a) (he : es[a]? = some e) (hm : ms[a]? = some m) : MsF es P (w.take (j + 1)) (ms.set a (m - 1)) := by
  refine ⟨by rw [List.length_set]; exact h.1, fun b f hb => ?_⟩
  have h1 := h.2 b f hb
  rw [List.take_succ, hj]
  show _ = some (((needs f).length : Int) - (dn P f : Nat) - ((w.take j ++ [a]).count b : Nat))
  rw [List.count_append]
  by_cases hab : a = b
  · subst hab
    obtain rfl := Option.some.inj (he.symm.trans hb)
    have hlt := (List.getElem?_eq_some_iff.mp hm).1
    rw [List.getElem?_set_self hlt]
    have := Option.some.inj (hm.symm.trans h1)
    rw [show ([a] : List Nat).count a = 1 by simp]
    congr 1
    omega
  · rw [List.getElem?_set_ne hab, h1]
    rw [show ([a] : List Nat).count b = 0 by simp [List.count_cons, hab]]
    congr 1
/-- all needs of an edge with nothing missing are done -/
theorem ms_zero {n : Nat} {es : List GE} {ws : List (List Nat)} {P w : List Nat} {ms : List Int} {j a f : Nat} {e : GE} (hw : WOk n es ws) (hf : ws[f]? = some w) (hfP : f ∉ P) (h : MsF es P (w.take j) ms) (he : es[a]? = some e) (hz : ms[a]? = some 0) : ∀ y ∈ needs e, y ∈ P ++ [f] := by
  have h1 := Option.some.inj (hz.symm.trans (h.2 a e he))
  have h2 := (hw.2 f w hf).2 a e he
  have h3 := count_take_le (a := a) (j := j) (w := w)
  have h4 := dn_snoc hfP e
  have h5 := dn_le (P ++ [f]) e
  exact dn_all (by omega)
theorem FinI.add {n : Nat} {es : List GE} {ends O : List Nat} {ch : List (Option Nat)} {a : Nat} {e : GE} (I : FinI n es ends O ch) (he : es[a]? = some e) (hs : e.s < n) (hne : e.s ∉ ends) (hc : ch[e.s]? = some none) (hn : ∀ y ∈ needs e, y ∈ O) : FinI n es ends (O ++ [e.s]) (ch.set e.s (some a)) := by
  have hnO : e.s ∉ O := fun h => by
    obtain ⟨i, hi⟩ := List.getElem?_of_mem h
    rcases I.ord i _ hi with h | ⟨a', e', h1, _⟩
    · exact hne h
    · rw [hc] at h1
      cases h1
  have hlt : e.s < ch.length := by rw [I.cl]; exact hs
  refine ⟨?_, fun x hx => ?_, by rw [List.length_set]; exact I.cl, fun x hx => List.mem_append_left _ (I.en x hx), fun x hx => ?_, fun x b hx => ?_, fun i x hi => ?_⟩
  · rw [List.nodup_append]
    exact ⟨I.nd, by simp, fun x hx y hy => by rw [List.mem_singleton.mp hy]; exact fun h => hnO (h ▸ hx)⟩
  · rcases List.mem_append.mp hx with hx | hx
    · exact I.lt x hx
    · rw [List.mem_singleton.mp hx]
      exact hs
  · rw [List.getElem?_set_ne (show e.s ≠ x from fun h => hne (by rw [h]; exact hx))]
    exact I.no x hx
  · by_cases h : e.s = x
    · exact List.mem_append_right _ (List.mem_singleton.mpr h.symm)
    · rw [List.getElem?_set_ne h] at hx
      exact List.mem_append_left _ (I.mem x b hx)
  · by_cases hlo : i < O.length
    · rw [List.getElem?_append_left hlo] at hi
      have hx : x ∈ O := List.mem_of_getElem? hi
      have ne : e.s ≠ x := fun h => hnO (h ▸ hx)
      rcases I.ord i x hi with h | ⟨b, f, h1, h2, h3, h4⟩
      · exact .inl h
      · refine .inr ⟨b, f, by rw [List.getElem?_set_ne ne]; exact h1, h2, h3, fun y hy => ?_⟩
        rw [List.take_append_of_le_length (by omega)]
        exact h4 y hy
    · have hi' := (List.getElem?_eq_some_iff.mp hi).1
      rw [List.length_append] at hi'
      have hie : i = O.length := by
        have : i < O.length + 1 := hi'
        omega
      subst hie
      rw [List.getElem?_append_right (Nat.le_refl _), Nat.sub_self] at hi
      obtain rfl := Option.some.inj hi
      refine .inr ⟨a, e, by rw [List.getElem?_set_self hlt], he, rfl, fun y hy => ?_⟩
      rw [List.take_left' rfl]
      exact hn y hy
theorem FinI.sound {n : Nat} {es : List GE} {ends O : List Nat} {ch : List (Option Nat)} (I : FinI n es ends O ch) : ∀ (k i x : Nat), i ≤ k → O[i]? = some x → Fn es ends x
  | k, i, x, hik, hi => by
    rcases I.ord i x hi with h | ⟨a, e, h1, h2, h3, h4⟩
    · exact .end_ h
    · rw [← h3]
      refine .step (List.mem_of_getElem? h2) fun y hy => ?_
      have hm := h4 y hy
      obtain ⟨j, hj⟩ := List.getElem?_of_mem hm
      have hjl := (List.getElem?_eq_some_iff.mp hj).1
      rw [List.length_take] at hjl
      rw [List.getElem?_take_of_lt (by omega)] at hj
      match k, hik with
      | 0, h => omega
      | k + 1, h => exact FinI.sound I k j y (by omega) hj
theorem FinI.done {n : Nat} {es : List GE} {ends O : List Nat} {ch : List (Option Nat)} {ms : List Int} (I : FinI n es ends O ch) (hm : MsF es O [] ms) (hc : CmF es O ms) (x : Nat) : x ∈ O ↔ Fn es ends x := by
  constructor
  · intro h
    obtain ⟨i, hi⟩ := List.getElem?_of_mem h
    exact I.sound i i x (Nat.le_refl _) hi
  · intro h
    induction h with
    | end_ h => exact I.en _ h
    | @step e h hn ih =>
      obtain ⟨a, ha⟩ := List.getElem?_of_mem h
      have h1 := hm.2 a e ha
      rw [dn_full ih] at h1
      refine hc a e ha ?_
      rw [h1]
      congr 1
      show _ - _ - ((0 : Nat) : Int) = 0
      omega
/-- finished just if it is chosen or an end -/
theorem FinI.fin {n : Nat} {es : List GE} {ends O : List Nat} {ch : List (Option Nat)} (I : FinI n es ends O ch) {x : Nat} : (∃ a, ch[x]? = some (some a)) ∨ x ∈ ends ↔ x ∈ O := by
  constructor
  · rintro (⟨a, h⟩ | h)
    · exact I.mem x a h
    · exact I.en x h
  · intro h
    obtain ⟨i, hi⟩ := List.getElem?_of_mem h
    rcases I.ord i x hi with h | ⟨a, e, h1, _⟩
    · exact .inr h
    · exact .inl ⟨a, h1⟩
/-! #### what is reached -/
def Op (es : List GE) (ends : List Nat) (e : GE) : Prop := ∀ y ∈ needs e, Fn es ends y
inductive Us (es : List GE) (ends : List Nat) (s0 : Nat) : Nat → Prop
  | base (h : Fn es ends s0) : Us es ends s0 s0
  | goal {e : GE} (h : e ∈ es) (hs : Us es ends s0 e.s) (ho : Op es ends e) : Us es ends s0 e.g
  | call {e : GE} {c : Nat} (h : e ∈ es) (hs : Us es ends s0 e.s) (ho : Op es ends e) (hc : e.c = some c) : Us es ends s0 c
structure ReI (es : List GE) (ends : List Nat) (s0 : Nat) (st : Nat → Nat) (Wl : List Nat) (d : Nat) (cam cal : Nat → Prop) : Prop where
  bs : s0 ∈ Wl
  cm : ∀ x, x ∈ Wl ↔ cam x
  us : ∀ x ∈ Wl, Us es ends s0 x
  cl : ∀ q, cal q → st q ∈ Wl
  dn : ∀ x ∈ Wl.take d, ∀ e ∈ es, e.s = x → Op es ends e → e.g ∈ Wl ∧ ∀ q, e.q = some q → cal q
theorem ReI.done {es : List GE} {ends : List Nat} {s0 : Nat} {st : Nat → Nat} {Wl : List Nat} {cam cal : Nat → Prop} (hq : ∀ e ∈ es, e.c = e.q.map st) (I : ReI es ends s0 st Wl Wl.length cam cal) (x : Nat) : cam x ↔ Us es ends s0 x := by
  rw [← I.cm]
  constructor
  · exact I.us x
  · intro h
    induction h with
    | base _ => exact I.bs
    | @goal e h hs ho ih =>
      exact (I.dn e.s (by rw [List.take_length]; exact ih) e h rfl ho).1
    | @call e c h hs ho hc ih =>
      have h2 := (I.dn e.s (by rw [List.take_length]; exact ih) e h rfl ho).2
      rw [hq e h] at hc
      cases hqe : e.q with
      | none => rw [hqe] at hc; cases hc
      | some q =>
        rw [hqe] at hc
        obtain rfl := Option.some.inj hc
        exact I.cl q (h2 q hqe)
end K65

set_option Elab.async false
set_option linter.all false
set_option pp.maxSteps 900
set_option maxRecDepth 100000
set_option maxHeartbeats 4000000
namespace K65
open PySem PySem.Spec PyProof.Rows L2
/-! ### webs as charts (mathematics) -/
def stN (ns : List (Int × List Ed)) (a : Nat) : Nat := ((ns.take a).map fun n => n.1.toNat).sum
def spN (W : Web) (a : Nat) (p : Int) : Nat := stN W.ns a + p.toNat
def geOf (W : Web) (a : Nat) (e : Ed) : GE := ⟨spN W a e.p, spN W a e.t, e.c.map Int.toNat, e.c.map fun c => stN W.ns c.toNat⟩
def edsN (W : Web) (a : Nat) : List Ed := (W.ns[a]?.map (·.2)).getD []
def gesUp (W : Web) (i : Nat) : List GE := ((List.range i).map fun a => (edsN W a).map (geOf W a)).flatten
def gesOf (W : Web) : List GE := gesUp W W.ns.length
def endsOf (W : Web) : List Nat := (List.range W.ns.length).map fun a => stN W.ns (a + 1) - 1
/-- the pair is a place of the web -/
def Pl (W : Web) (a : Nat) (p : Int) : Prop := ∃ nt, W.ns[a]? = some nt ∧ 0 ≤ p ∧ p ≤ nt.1 - 1
inductive FinP (W : Web) : Nat → Int → Prop
  | end_ {a : Nat} {nt : Int × List Ed} (h : W.ns[a]? = some nt) : FinP W a (nt.1 - 1)
  | step {a : Nat} {nt : Int × List Ed} {e : Ed} (h : W.ns[a]? = some nt) (he : e ∈ nt.2) (ht : FinP W a e.t) (hc : ∀ c, e.c = some c → FinP W c.toNat 0) : FinP W a e.p
def OpP (W : Web) (a : Nat) (e : Ed) : Prop := FinP W a e.t ∧ ∀ c, e.c = some c → FinP W c.toNat 0
inductive UsP (W : Web) : Nat → Int → Prop
  | base (h : FinP W 0 0) : UsP W 0 0
  | goal {a : Nat} {nt : Int × List Ed} {e : Ed} (h : W.ns[a]? = some nt) (he : e ∈ nt.2) (hs : UsP W a e.p) (ho : OpP W a e) : UsP W a e.t
  | call {a : Nat} {nt : Int × List Ed} {e : Ed} {c : Int} (h : W.ns[a]? = some nt) (he : e ∈ nt.2) (hs : UsP W a e.p) (ho : OpP W a e) (hc : e.c = some c) : UsP W c.toNat 0
theorem st_succ {ns : List (Int × List Ed)} {a : Nat} {nt : Int × List Ed} (h : ns[a]? = some nt) : stN ns (a + 1) = stN ns a + nt.1.toNat := by
  unfold stN
  rw [List.take_succ, h, List.map_append, List.sum_append]
  simp
theorem st_zero (ns : List (Int × List Ed)) : stN ns 0 = 0 := rfl
theorem st_mono {ns : List (Int × List Ed)} {a b : Nat} (h : a ≤ b) : stN ns a ≤ stN ns b := by
  induction h with
  | refl => exact Nat.le_refl _
  | @step m _ ih =>
    refine Nat.le_trans ih ?_
    cases e : ns[m]? with
    | some nt => rw [st_succ e]; omega
    | none =>
      unfold stN
      rw [List.take_succ, e]
      simp
theorem st_all (ns : List (Int × List Ed)) : stN ns ns.length = (ns.map fun n => n.1.toNat).sum := by
  unfold stN
  rw [List.take_length]
theorem Pl.lt {W : Web} {a : Nat} {p : Int} (h : Pl W a p) : spN W a p < stN W.ns (a + 1) := by
  obtain ⟨nt, h1, h2, h3⟩ := h
  unfold spN
  rw [st_succ h1]
  omega
theorem sp_inj {W : Web} {a b : Nat} {p q : Int} (h : Pl W a p) (h' : Pl W b q) (e : spN W a p = spN W b q) : a = b ∧ p = q := by
  have l1 := h.lt
  have l2 := h'.lt
  have hab : a = b := by
    by_cases h1 : a < b
    · have := st_mono (ns := W.ns) (show a + 1 ≤ b by omega)
      unfold spN at *
      omega
    · by_cases h2 : b < a
      · have := st_mono (ns := W.ns) (show b + 1 ≤ a by omega)
        unfold spN at *
        omega
      · omega
  subst hab
  refine ⟨rfl, ?_⟩
  obtain ⟨_, _, h2, _⟩ := h
  obtain ⟨_, _, h4, _⟩ := h'
  unfold spN at e
  omega
theorem ges_mem {W : Web} {i : Nat} {g : GE} : g ∈ gesUp W i ↔ ∃ a nt e, a < i ∧ W.ns[a]? = some nt ∧ e ∈ nt.2 ∧ g = geOf W a e := by
  unfold gesUp
  rw [List.mem_flatten]
  constructor
  · rintro ⟨l, hl, hg⟩
    obtain ⟨a, ha, rfl⟩ := List.mem_map.mp hl
    obtain ⟨e, he, rfl⟩ := List.mem_map.mp hg
    unfold edsN at he
    cases h : W.ns[a]? with
    | none => rw [h] at he; cases he
    | some nt =>
      rw [h] at he
      exact ⟨a, nt, e, List.mem_range.mp ha, h, he, rfl⟩
  · rintro ⟨a, nt, e, ha, h, he, rfl⟩
    refine ⟨_, List.mem_map.mpr ⟨a, List.mem_range.mpr ha, rfl⟩, List.mem_map.mpr ⟨e, ?_, rfl⟩⟩
    unfold edsN
    rw [h]
    exact he
theorem ends_mem {W : Web} (o : OkW W) {x : Nat} : x ∈ endsOf W ↔ ∃ a nt, W.ns[a]? = some nt ∧ x = spN W a (nt.1 - 1) := by
  unfold endsOf
  rw [List.mem_map]
  constructor
  · rintro ⟨a, ha, rfl⟩
    have hn : W.ns[a]? = some (W.ns[a]'(List.mem_range.mp ha)) := List.getElem?_eq_getElem _
    generalize hnt : W.ns[a]'(List.mem_range.mp ha) = nt at hn
    refine ⟨a, nt, hn, ?_⟩
    have := o.pos nt (List.mem_of_getElem? hn)
    unfold spN
    rw [st_succ hn]
    omega
  · rintro ⟨a, nt, hn, rfl⟩
    refine ⟨a, List.mem_range.mpr (List.getElem?_eq_some_iff.mp hn).1, ?_⟩
    have := o.pos nt (List.mem_of_getElem? hn)
    unfold spN
    rw [st_succ hn]
    omega
section
variable {W : Web}
theorem pl_end (o : OkW W) {a : Nat} {nt : Int × List Ed} (h : W.ns[a]? = some nt) : Pl W a (nt.1 - 1) := ⟨nt, h, by have := o.pos nt (List.mem_of_getElem? h); omega, Int.le_refl _⟩
theorem pl_p (o : OkW W) {a : Nat} {nt : Int × List Ed} {e : Ed} (h : W.ns[a]? = some nt) (he : e ∈ nt.2) : Pl W a e.p := ⟨nt, h, by have := (o.ed nt (List.mem_of_getElem? h) e he).p; omega, by have := (o.ed nt (List.mem_of_getElem? h) e he).p; omega⟩
theorem pl_t (o : OkW W) {a : Nat} {nt : Int × List Ed} {e : Ed} (h : W.ns[a]? = some nt) (he : e ∈ nt.2) : Pl W a e.t := ⟨nt, h, by have := (o.ed nt (List.mem_of_getElem? h) e he).t; omega, by have := (o.ed nt (List.mem_of_getElem? h) e he).t; omega⟩
theorem pl_c (o : OkW W) {a : Nat} {nt : Int × List Ed} {e : Ed} {c : Int} (h : W.ns[a]? = some nt) (he : e ∈ nt.2) (hc : e.c = some c) : Pl W c.toNat 0 := by
  have := (o.ed nt (List.mem_of_getElem? h) e he).c c hc
  have hl : c.toNat < W.ns.length := by omega
  refine ⟨W.ns[c.toNat], List.getElem?_eq_getElem hl, Int.le_refl _, ?_⟩
  have := o.pos _ (List.getElem_mem hl)
  omega
theorem pl_0 (o : OkW W) : Pl W 0 0 := by
  have h1 := o.n1
  have hl : 0 < W.ns.length := by omega
  refine ⟨W.ns[0], List.getElem?_eq_getElem hl, Int.le_refl _, ?_⟩
  have := o.pos _ (List.getElem_mem hl)
  omega
theorem sp_c (c : Int) : spN W c.toNat 0 = stN W.ns c.toNat := rfl
theorem fin_to (o : OkW W) {a : Nat} {p : Int} (h : FinP W a p) : Fn (gesOf W) (endsOf W) (spN W a p) := by
  induction h with
  | @end_ a nt h => exact .end_ ((ends_mem o).mpr ⟨a, nt, h, rfl⟩)
  | @step a nt e h he ht hc iht ihc =>
    refine Fn.step (e := geOf W a e) (ges_mem.mpr ⟨a, nt, e, (List.getElem?_eq_some_iff.mp h).1, h, he, rfl⟩) fun y hy => ?_
    rcases List.mem_cons.mp (show y ∈ spN W a e.t :: (e.c.map fun c => stN W.ns c.toNat).toList from hy) with rfl | hy
    · exact iht
    · cases hce : e.c with
      | none => rw [hce] at hy; cases hy
      | some c =>
        rw [hce] at hy
        rw [List.mem_singleton.mp hy]
        exact ihc c hce
theorem fin_from (o : OkW W) {x : Nat} (h : Fn (gesOf W) (endsOf W) x) : ∀ a p, Pl W a p → x = spN W a p → FinP W a p := by
  induction h with
  | @end_ x h =>
    intro a p hp e
    obtain ⟨b, nt, hb, rfl⟩ := (ends_mem o).mp h
    obtain ⟨rfl, rfl⟩ := sp_inj hp (pl_end o hb) e.symm
    exact .end_ hb
  | @step g h hn ih =>
    intro a p hp e
    obtain ⟨b, nt, ed, hbl, hb, he, rfl⟩ := ges_mem.mp h
    obtain ⟨rfl, rfl⟩ := sp_inj hp (pl_p o hb he) e.symm
    refine .step hb he (ih (spN W a ed.t) List.mem_cons_self a ed.t (pl_t o hb he) rfl) fun c hc => ?_
    refine ih (stN W.ns c.toNat) (List.mem_cons_of_mem _ ?_) c.toNat 0 (pl_c o hb he hc) rfl
    show _ ∈ (ed.c.map fun c => stN W.ns c.toNat).toList
    rw [hc]
    exact List.mem_singleton.mpr rfl
theorem fin_iff (o : OkW W) {a : Nat} {p : Int} (hp : Pl W a p) : Fn (gesOf W) (endsOf W) (spN W a p) ↔ FinP W a p := ⟨fun h => fin_from o h a p hp rfl, fin_to o⟩
theorem op_iff (o : OkW W) {a : Nat} {nt : Int × List Ed} {e : Ed} (h : W.ns[a]? = some nt) (he : e ∈ nt.2) : Op (gesOf W) (endsOf W) (geOf W a e) ↔ OpP W a e := by
  constructor
  · intro z
    refine ⟨(fin_iff o (pl_t o h he)).mp (z _ List.mem_cons_self), fun c hc => (fin_iff o (pl_c o h he hc)).mp (z _ (List.mem_cons_of_mem _ ?_))⟩
    show _ ∈ (e.c.map fun c => stN W.ns c.toNat).toList
    rw [hc]
    exact List.mem_singleton.mpr rfl
  · rintro ⟨z1, z2⟩ y hy
    rcases List.mem_cons.mp (show y ∈ spN W a e.t :: (e.c.map fun c => stN W.ns c.toNat).toList from hy) with rfl | hy
    · exact (fin_iff o (pl_t o h he)).mpr z1
    · cases hce : e.c with
      | none => rw [hce] at hy; cases hy
      | some c =>
        rw [hce] at hy
        rw [List.mem_singleton.mp hy]
        exact (fin_iff o (pl_c o h he hce)).mpr (z2 c hce)
theorem us_to (o : OkW W) {a : Nat} {p : Int} (h : UsP W a p) : Us (gesOf W) (endsOf W) 0 (spN W a p) := by
  induction h with
  | base h => exact .base (fin_to o h)
  | @goal a nt e h he hs ho ih => exact Us.goal (e := geOf W a e) (ges_mem.mpr ⟨a, nt, e, (List.getElem?_eq_some_iff.mp h).1, h, he, rfl⟩) ih ((op_iff o h he).mpr ho)
  | @call a nt e c h he hs ho hc ih => exact Us.call (e := geOf W a e) (ges_mem.mpr ⟨a, nt, e, (List.getElem?_eq_some_iff.mp h).1, h, he, rfl⟩) ih ((op_iff o h he).mpr ho) (by show (e.c.map fun c => stN W.ns c.toNat) = _; rw [hc]; rfl)
theorem us_from (o : OkW W) {x : Nat} (h : Us (gesOf W) (endsOf W) 0 x) : ∀ a p, Pl W a p → x = spN W a p → UsP W a p := by
  induction h with
  | base h =>
    intro a p hp e
    obtain ⟨rfl, rfl⟩ := sp_inj hp (pl_0 o) e.symm
    exact .base ((fin_iff o (pl_0 o)).mp h)
  | @goal g h hs ho ih =>
    intro a p hp e
    obtain ⟨b, nt, ed, hbl, hb, he, rfl⟩ := ges_mem.mp h
    obtain ⟨rfl, rfl⟩ := sp_inj hp (pl_t o hb he) e.symm
    exact .goal hb he (ih a ed.p (pl_p o hb he) rfl) ((op_iff o hb he).mp ho)
  | @call g c h hs ho hc ih =>
    intro a p hp e
    obtain ⟨b, nt, ed, hbl, hb, he, rfl⟩ := ges_mem.mp h
    have hc : (ed.c.map fun c => stN W.ns c.toNat) = some c := hc
    cases hce : ed.c with
    | none => rw [hce] at hc; cases hc
    | some z =>
      rw [hce] at hc
      obtain rfl := Option.some.inj hc
      obtain ⟨rfl, rfl⟩ := sp_inj hp (pl_c o hb he hce) e.symm
      exact .call hb he (ih b ed.p (pl_p o hb he) rfl) ((op_iff o hb he).mp ho) hce
theorem us_iff (o : OkW W) {a : Nat} {p : Int} (hp : Pl W a p) : Us (gesOf W) (endsOf W) 0 (spN W a p) ↔ UsP W a p := ⟨fun h => us_from o h a p hp rfl, us_to o⟩
theorem UsP.pl (o : OkW W) {a : Nat} {p : Int} (h : UsP W a p) : Pl W a p := by
  cases h with
  | base _ => exact pl_0 o
  | goal h he _ _ => exact pl_t o h he
  | call h he _ _ hc => exact pl_c o h he hc
theorem FinP.pl (o : OkW W) {a : Nat} {p : Int} (h : FinP W a p) : Pl W a p := by
  cases h with
  | end_ h => exact pl_end o h
  | step h he _ _ => exact pl_p o h he
end
end K65

set_option Elab.async false
set_option linter.all false
set_option pp.maxSteps 900
set_option maxRecDepth 100000
set_option maxHeartbeats 4000000
namespace K65
open PySem PySem.Spec PyProof.Rows L2
open TL (tl)
abbrev sRd : Stmt := top 35
/-! ### the law's roads: a dict, whatever is in it -/
def UK : List (List Key) := (List.range 400).flatMap fun a => (List.range 4000).map fun p => [Sum.inl ((a : Nat) : Int), Sum.inl ((p : Nat) : Int)]
def pK (a p : Int) : List Key := [Sum.inl a, Sum.inl p]
theorem uk_mem {a p : Int} (ha : 0 ≤ a ∧ a < 400) (hp : 0 ≤ p ∧ p < 4000) : pK a p ∈ UK := by
  refine List.mem_flatMap.mpr ⟨a.toNat, List.mem_range.mpr (by omega), List.mem_map.mpr ⟨p.toNat, List.mem_range.mpr (by omega), ?_⟩⟩
  unfold pK
  rw [Int.toNat_of_nonneg ha.1, Int.toNat_of_nonneg hp.1]
theorem uk_len : UK.length = 1600000 := by
  unfold UK
  rw [List.length_flatMap]
  have : ∀ n : Nat, ((List.range n).map fun _ => (4000 : Nat)).sum = n * 4000 := by
    intro n
    induction n with
    | zero => rfl
    | succ n ih => rw [List.range_succ, List.map_append, List.sum_append, ih]; simp; omega
  simp only [List.length_map, List.length_range]
  exact this 400
def ms (kvs : List (List Key × V)) : Nat := UK.countP fun k => (valV kvs k).isNone
theorem ms_le (kvs : List (List Key × V)) : ms kvs ≤ 1600000 := by
  rw [← uk_len]
  exact List.countP_le_length
theorem count_lt {α : Type} {p q : α → Bool} {k : α} : ∀ {l : List α}, (∀ x ∈ l, p x = true → q x = true) → k ∈ l → q k = true → p k = false → l.countP p < l.countP q
  | [], _, h, _, _ => by cases h
  | x :: l, hpq, h, hq, hp => by
    rw [List.countP_cons, List.countP_cons]
    have hle : l.countP p ≤ l.countP q := List.countP_mono_left fun y hy => hpq y (List.mem_cons_of_mem _ hy)
    rcases List.mem_cons.mp h with rfl | h
    · rw [hp, hq]
      simp
      omega
    · have := count_lt (fun y hy => hpq y (List.mem_cons_of_mem _ hy)) h hq hp
      have hx := hpq x List.mem_cons_self
      cases e : p x with
      | false => simp; omega
      | true => rw [hx e]; simp; omega
theorem ms_put {kvs : List (List Key × V)} {k : List Key} {v : V} (hk : k ∈ UK) (h : valV kvs k = none) : ms (putK kvs k v) < ms kvs := by
  refine count_lt (k := k) (fun x _ hx => ?_) hk (by rw [h] <;> rfl) (by rw [valV_put, if_pos rfl] <;> rfl)
  rw [valV_put] at hx
  by_cases e : x = k
  · rw [if_pos e] at hx
    cases hx
  · rw [if_neg e] at hx
    exact hx
theorem putK_le {κ : Type} [DecidableEq κ] (kvs : List (κ × V)) (k : κ) (v : V) : (putK kvs k v).length ≤ kvs.length + 1 := by
  unfold putK
  split <;> simp
/-- what the dict holds -/
def RdOk (lb : Nat) (H : Hp) (kvs : List (List Key × V)) : Prop := ∀ k v, valV kvs k = some v → ∃ (r : Addr) (xs : List Int), v = .ref r ∧ H r = some (.lst (xs.map V.int)) ∧ xs.length = lb + 1
theorem RdOk.keep {lb : Nat} {H H' : Hp} {kvs : List (List Key × V)} (h : RdOk lb H kvs) (s : Same H H') : RdOk lb H' kvs := fun k v e => by
  obtain ⟨r, xs, h1, h2, h3⟩ := h k v e
  exact ⟨r, xs, h1, s _ _ h2, h3⟩
theorem RdOk.put {lb : Nat} {H : Hp} {kvs kvs' : List (List Key × V)} {f r : Addr} {k : List Key} {xs : List Int} (h : RdOk lb H kvs) (hf : H f = some (.dT kvs')) (hr : H r = some (.lst (xs.map V.int))) (hl : xs.length = lb + 1) :
    RdOk lb (upd H f (.dT (putK kvs k (.ref r)))) (putK kvs k (.ref r)) := fun j v e => by
  have ne : ∀ {q : Addr} {ys : List V}, H q = some (.lst ys) → q ≠ f := fun e z => by
    rw [z, hf] at e
    cases e
  rw [valV_put] at e
  by_cases ej : j = k
  · rw [if_pos ej] at e
    obtain rfl := Option.some.inj e
    exact ⟨r, xs, rfl, by rw [upd_ne (ne hr)]; exact hr, hl⟩
  · rw [if_neg ej] at e
    obtain ⟨q, ys, h1, h2, h3⟩ := h j v e
    exact ⟨q, ys, h1, by rw [upd_ne (ne h2)]; exact h2, h3⟩
/-- the dict's keys are the places that lead to an end -/
structure RdF (W : Web) (kvs : List (List Key × V)) : Prop where
  so : ∀ k v, valV kvs k = some v → ∃ (a : Nat) (p : Int), k = pK (a : Nat) p ∧ FinP W a p
  co : ∀ (a : Nat) (p : Int), FinP W a p → (valV kvs (pK (a : Nat) p)).isSome = true
def Sou (W : Web) (kvs : List (List Key × V)) : Prop := ∀ k v, valV kvs k = some v → ∃ (a : Nat) (p : Int), k = pK (a : Nat) p ∧ FinP W a p
def Ens (W : Web) (i : Nat) (kvs : List (List Key × V)) : Prop := ∀ (a : Nat) (nt : Int × List Ed), a < i → W.ns[a]? = some nt → (valV kvs (pK (a : Nat) (nt.1 - 1))).isSome = true
def CloE (kvs : List (List Key × V)) (a : Nat) (e : Ed) : Prop := (valV kvs (pK (a : Nat) e.t)).isSome = true → (∀ c, e.c = some c → (valV kvs (pK c 0)).isSome = true) → (valV kvs (pK (a : Nat) e.p)).isSome = true
def CloU (W : Web) (kvs : List (List Key × V)) (i j : Nat) : Prop := ∀ (a k : Nat) (nt : Int × List Ed) (e : Ed), W.ns[a]? = some nt → nt.2[k]? = some e → a < i ∨ (a = i ∧ k < j) → CloE kvs a e
theorem Sou.put {W : Web} {kvs : List (List Key × V)} {a : Nat} {p : Int} {v : V} (h : Sou W kvs) (hf : FinP W a p) : Sou W (putK kvs (pK (a : Nat) p) v) := fun k u e => by
  rw [valV_put] at e
  by_cases ek : k = pK (a : Nat) p
  · exact ⟨a, p, ek, hf⟩
  · rw [if_neg ek] at e
    exact h k u e
theorem put_some {kvs : List (List Key × V)} {k j : List Key} {v : V} (h : (valV kvs k).isSome = true) : (valV (putK kvs j v) k).isSome = true := by
  rw [valV_put]
  by_cases e : k = j
  · rw [if_pos e] <;> rfl
  · rw [if_neg e]
    exact h
theorem put_self {kvs : List (List Key × V)} {j : List Key} {v : V} : (valV (putK kvs j v) j).isSome = true := by
  rw [valV_put, if_pos rfl] <;> rfl
theorem pK_inj {a b p q : Int} (h : pK a p = pK b q) : a = b ∧ p = q := by
  unfold pK at h
  injection h with h1 h2
  injection h2 with h2 _
  injection h1 with h1
  injection h2 with h2
  exact ⟨h1, h2⟩
theorem RdF.of {W : Web} (o : OkW W) {kvs : List (List Key × V)} (h1 : Sou W kvs) (h2 : Ens W W.ns.length kvs) (h3 : CloU W kvs W.ns.length 0) : RdF W kvs := by
  refine ⟨h1, fun a p h => ?_⟩
  induction h with
  | @end_ a nt h => exact h2 a nt (List.getElem?_eq_some_iff.mp h).1 h
  | @step a nt e h he ht hc iht ihc =>
    obtain ⟨k, hk⟩ := List.getElem?_of_mem he
    refine h3 a k nt e h hk (.inl (List.getElem?_eq_some_iff.mp h).1) iht fun c hce => ?_
    have hcc := (o.ed nt (List.mem_of_getElem? h) e he).c c hce
    have := ihc c hce
    rw [Int.toNat_of_nonneg hcc.1] at this
    exact this
def spRd : Sp := fun vs H Q _ => ∃ (g : Addr) (vw : V) (W : Web), vs = [vw] ∧ DV g H vw (wbD W) ∧ OkW W ∧
  ∀ (f : Addr) (kvs : List (List Key × V)) (H' : Hp), Same H H' → H f = none → H' f = some (.dT kvs) → RdOk W.lb.toNat H' kvs → RdF W kvs → kvs.length ≤ 2000000 → Q (.ref f) H'
theorem sum_pos : ∀ {l : List Int} {x : Int}, (∀ y ∈ l, 1 ≤ y) → x ∈ l → x ≤ l.sum
  | [], _, _, h => by cases h
  | y :: l, x, hp, h => by
    rw [List.sum_cons]
    have h0 : 0 ≤ l.sum := by
      clear h
      induction l with
      | nil => exact Int.le_refl _
      | cons z l ih =>
        rw [List.sum_cons]
        have := hp z (by simp)
        have := ih fun w hw => hp w (by
          rcases List.mem_cons.mp hw with rfl | hw
          · exact List.mem_cons_self
          · exact List.mem_cons_of_mem _ (List.mem_cons_of_mem _ hw))
        omega
    rcases List.mem_cons.mp h with rfl | h
    · omega
    · have := sum_pos (fun w hw => hp w (List.mem_cons_of_mem _ hw)) h
      have := hp y List.mem_cons_self
      omega
theorem OkW.pl {W : Web} (o : OkW W) {n : Int × List Ed} (h : n ∈ W.ns) : n.1 ≤ 4000 := by
  have := sum_pos (l := W.ns.map (·.1)) (x := n.1) (fun y hy => by
    obtain ⟨m, hm, rfl⟩ := List.mem_map.mp hy
    exact o.pos m hm) (List.mem_map.mpr ⟨n, h, rfl⟩)
  have := o.sp
  omega
theorem rep_flat {lb : Int} (h : 0 ≤ lb) : (List.replicate (lb + 1).toNat [V.int 0]).flatten = (List.replicate (lb.toNat + 1) (0 : Int)).map V.int := by
  rw [show (lb + 1).toNat = lb.toNat + 1 by omega]
  generalize lb.toNat + 1 = m
  induction m with
  | zero => rfl
  | succ m ih => rw [List.replicate_succ, List.flatten_cons, ih, List.replicate_succ, List.map_cons]; rfl
section
variable {P : Program} {w : World} {K : PySem.W.Frag} {mg : Str → Option Value} {base : Heap}
theorem scRd : FnScope ["web", "found", "more", "at", "net", "edge", "known", "inner"] ["web"] (defScope sRd) := ⟨rfl, rfl, rfl, by decide +kernel, rfl, by decide +kernel, by decide +kernel⟩
theorem ok_rd {f : Addr} {fd : FuncData} (F : Fun K "_law_wb_roads" "_law_wb_roads" sRd f fd) (T : Bn mg) (cSum : Cl P w K mg base "_law_wb_sum" ["one", "other", "times"] 1 spSum) (cOwn : Cl P w K mg base "_law_wb_own" ["web", "edge"] 1 spOwn) :
    FnOk P w K mg base CX0 2 f fd ["web"] spRd := by
  obtain ⟨fSum, fdSum, GSum, mSum, kSum, bSum⟩ := cSum
  obtain ⟨fOwn, fdOwn, GOwn, mOwn, kOwn, bOwn⟩ := cOwn
  refine F.ok scRd (fun vs H Q E h => ?_) (fun cdv A outer s H vs Q E hr h => ?_)
  · obtain ⟨g, a, b, rfl, _⟩ := h
    rfl
  · obtain ⟨g, vw, W, rfl, hw, okw, k⟩ := h
    have hu := hu_of hr
    refine ⟨_, (pss_cons (ps_par (i := 1) (j := 2) (by rfl) scRd.nd rfl rfl (by decide) rfl rfl (pa_cons pe_dnewT (pa_cons pe_bl pa_nil)) (by rfl))
      (pss_cons (ps_for PassesOwn.never rfl (pi_enumT (by rfl) T.enu (pa_cons (pe_ix ix_tup (pv 0) pe_int (fun _ _ => rfl)) pa_nil)) (pg_tup (by rfl) (pgs_cons (pg_name (i := 3) scRd.nd rfl (Or.inl rfl)) (pgs_cons (pg_name (i := 4) scRd.nd rfl (Or.inl rfl)) pgs_nil)))
          (pss_one (ps_dput hu (pv 1) (pe_tup (pa_cons (pv 3) (pa_cons (pe_op op_sub (pe_ix ix_tup (pv 4) pe_int (fun _ _ => rfl)) pe_int) pa_nil))) (pe_op op_rep (pe_lst (pa_cons pe_int pa_nil)) (pe_op op_add (pe_ix ix_tup (pv 0) pe_int (fun _ _ => rfl)) pe_int)) rfl)))
      (pss_cons (ps_while PassesOwn.never (pt_val (pv 2))
          (pss_cons (ps_set (i := 2) scRd.nd rfl (Or.inl rfl) pe_bl)
          (pss_one (ps_for PassesOwn.never rfl (pi_enumT (by rfl) T.enu (pa_cons (pe_ix ix_tup (pv 0) pe_int (fun _ _ => rfl)) pa_nil)) (pg_tup (by rfl) (pgs_cons (pg_name (i := 3) scRd.nd rfl (Or.inl rfl)) (pgs_cons (pg_name (i := 4) scRd.nd rfl (Or.inl rfl)) pgs_nil)))
              (pss_one (ps_for PassesOwn.never rfl (pi_tup (pe_ix ix_tup (pv 4) pe_int (fun _ _ => rfl))) (pg_name (i := 5) scRd.nd rfl (Or.inl rfl))
                  (pss_mid (ps_set (i := 6) scRd.nd rfl (Or.inl rfl) (pe_and (pe_cmp (pc_din hu (pe_tup (pa_cons (pv 3) (pa_cons (pe_ix ix_tup (pv 5) pe_int (fun _ _ => rfl)) pa_nil))) (pv 1)) rfl) (pe_one (pe_or (pe_cmpR op_isN (pe_ix ix_tup (pv 5) pe_int (fun _ _ => rfl)) pe_non (nomark _)) (pe_one (pe_cmp (pc_din hu (pe_tup (pa_cons (pe_ix ix_tup (pv 5) pe_int (fun _ _ => rfl)) (pa_cons pe_int pa_nil))) (pv 1)) rfl))))))
                  (pss_one (ps_if (PW.pt (pw_and (pt_val (pv 6)) (pw_and1 (pt_cmp (pc_dnotin hu (pe_tup (pa_cons (pv 3) (pa_cons (pe_ix ix_tup (pv 5) pe_int (fun _ _ => rfl)) pa_nil))) (pv 1)))))) (pss_mid (ps_set (i := 7) scRd.nd rfl (Or.inl rfl) (pe_ifExp (pt_cmpR op_isN (pe_ix ix_tup (pv 5) pe_int (fun _ _ => rfl)) pe_non (nomark _)) (pe_op op_rep (pe_lst (pa_cons pe_int pa_nil)) (pe_op op_add (pe_ix ix_tup (pv 0) pe_int (fun _ _ => rfl)) pe_int)) (pe_dget hu (pv 1) (pe_tup (pa_cons (pe_ix ix_tup (pv 5) pe_int (fun _ _ => rfl)) (pa_cons pe_int pa_nil))) (fun _ _ => rfl))))
                      (pss_cons (ps_dput hu (pv 1) (pe_tup (pa_cons (pv 3) (pa_cons (pe_ix ix_tup (pv 5) pe_int (fun _ _ => rfl)) pa_nil))) (pe_call GSum hr (by rfl) mSum kSum bSum .nil pass0 (pa_cons (pe_call GSum hr (by rfl) mSum kSum bSum .nil pass0 (pa_cons (pe_call GOwn hr (by rfl) mOwn kOwn bOwn .nil pass0 (pa_cons (pv 0) (pa_cons (pv 5) pa_nil))) (pa_cons (pv 7) (pa_cons pe_int pa_nil)))) (pa_cons (pe_dget hu (pv 1) (pe_tup (pa_cons (pv 3) (pa_cons (pe_ix ix_tup (pv 5) pe_int (fun _ _ => rfl)) pa_nil))) (fun _ _ => rfl)) (pa_cons pe_int pa_nil)))) rfl)
                      (pss_one (ps_set (i := 2) scRd.nd rfl (Or.inl rfl) pe_bl)))) pss_nil)))))))))
      (pss_one (ps_ret (pv 1)))))), ?_⟩
    obtain ⟨b0, c0, xn, rfl, eb0, ec0, rn⟩ := wb_at hw
    have hnl : xn.length = W.ns.length := by rw [rn.len, List.length_map]
    have hlb := okw.lb
    refine fun fD hfD => ?_
    generalize hH1 : upd H fD _ = H1
    obtain ⟨sfD, efD⟩ := freshF hfD hH1
    refine ⟨_, _, rfl, ?_⟩
    refine ⟨_, rfl, b0, _, 1, _, rfl, rfl, SqT.of (sfD _ _ eb0), atI_nat (j := 1) rfl, c0, xn, rfl, SqT.of (sfD _ _ ec0), ?_⟩
    refine for_it (walk_enumT (K := K) (a := c0) (xs := xn)) (fun i σ H' => ∃ (kvs : List (List Key × V)) (v3 v4 v5 v6 v7 : Option V), σ = [some (.ref b0), some (.ref fD), some (.bl true), v3, v4, v5, v6, v7] ∧ Same H H' ∧ H' fD = some (.dT kvs) ∧ RdOk W.lb.toNat H' kvs ∧ kvs.length ≤ i ∧ Sou W kvs ∧ Ens W i kvs)
      ⟨[], _, _, _, _, _, rfl, sfD, efD, (fun k v e => by cases e), Nat.le_refl _, (fun k v e => by cases e), fun a nt h _ => absurd h (Nat.not_lt_zero _)⟩ (fun i σ H' _ ⟨_, _, _, _, _, _, _, s, _⟩ => SqT.of (s _ _ ec0)) ?_ ?_
    · rintro i x σ H2 H2z hi ⟨kvs, v3, v4, v5, v6, v7, rfl, s2, ef2, hk2, hl2, hsou, hens⟩ ⟨T0, x', y, rfl, hT, hH2, hx, hy⟩
      obtain rfl := Option.some.inj hx
      obtain ⟨sT, eT⟩ := freshF hT hH2.symm
      obtain ⟨dn, hdn, hyd⟩ := rn.at_ hy
      rw [List.getElem?_map] at hdn
      obtain ⟨nt, hnt, rfl⟩ := Option.map_eq_some_iff.mp hdn
      obtain ⟨b3, c3, xe, rfl, eb3, ec3, re⟩ := nt_at hyd
      have s2' := s2.trans sT
      refine ⟨T0, _, rfl, SqT.of eT, (by rfl), _, _, rfl, _, _, rfl, rfl, ?_⟩
      refine ⟨(by show 1 ≤ sizeLine; decide), fun z1 hz1 => ?_⟩
      generalize hH3 : upd H2z z1 _ = H3
      obtain ⟨sz1, ez1⟩ := freshF hz1 hH3
      have s03 := s2'.trans sz1
      refine ⟨_, rfl, b0, _, 0, _, rfl, rfl, SqT.of (s03 _ _ eb0), atI_nat (j := 0) rfl, _, _, rfl, rfl, z1, W.lb + 1, [.int 0], rfl, rfl, ez1, (by omega), (by omega), (by show 1 * (W.lb + 1).toNat ≤ sizeLine; rw [sizeLine_eq]; omega), fun z2 hz2 => ?_⟩
      generalize hH4 : upd H3 z2 _ = H4
      obtain ⟨sz2, ez2⟩ := freshF hz2 hH4
      have s04 := s03.trans sz2
      have s24 := sT.trans (sz1.trans sz2)
      rw [rep_flat hlb.1] at ez2
      refine ⟨_, rfl, _, rfl, _, rfl, b3, _, 0, _, rfl, rfl, SqT.of (s04 _ _ eb3), atI_nat (j := 0) rfl, _, _, rfl, rfl, (by show 2 ≤ sizeLine; decide), fun t ht => ?_⟩
      generalize hH5 : upd H4 t _ = H5
      obtain ⟨st, et⟩ := freshF ht hH5
      have ef5 := st _ _ (s24 _ _ ef2)
      have hil : i < W.ns.length := by rw [← hnl]; exact hi
      have hn4 := okw.n4
      refine ⟨fD, _, rfl, DPut.t (k := pK i (nt.1 - 1)) ef5 et (by rw [sizeLine_eq]; omega), ?_⟩
      refine ⟨_, _, _, _, _, _, rfl, fun b o e => ?_, upd_same, (hk2.keep (s24.trans st)).put ef5 (st _ _ ez2) List.length_replicate, ?_, hsou.put (.end_ hnt), fun a nt' ha hnt' => ?_⟩
      · rw [upd_ne (ne_of_none e hfD)]
        exact st _ _ (s04 _ _ e)
      · have := putK_le kvs (pK i (nt.1 - 1)) (.ref z2)
        omega
      · by_cases hai : a = i
        · subst hai
          obtain rfl := Option.some.inj (hnt.symm.trans hnt')
          exact put_self
        · exact put_some (hens a nt' (by omega) hnt')
    rintro σ H2 ⟨kvs0, v3, v4, v5, v6, v7, rfl, s2, ef2, hk2, hl2, hsou, hens⟩
    rw [hnl] at hens
    refine while_m (fun m σ H' => ∃ (kvs : List (List Key × V)) (more : Bool) (v3 v4 v5 v6 v7 : Option V), σ = [some (.ref b0), some (.ref fD), some (.bl more), v3, v4, v5, v6, v7] ∧ m = 2 * ms kvs + more.toNat ∧ Same H H' ∧ H' fD = some (.dT kvs) ∧ RdOk W.lb.toNat H' kvs ∧ kvs.length + ms kvs ≤ 2000000 ∧ Sou W kvs ∧ Ens W W.ns.length kvs ∧ (more = false → CloU W kvs W.ns.length 0)) (2 * ms kvs0 + 1)
      ⟨kvs0, true, _, _, _, _, _, rfl, rfl, s2, ef2, hk2, (by have := ms_le kvs0; have := okw.n4; omega), hsou, hens, fun h => by cases h⟩ ?_
    clear s2 ef2 hk2 hl2 hsou hens kvs0 v3 v4 v5 v6 v7 H2
    rintro m σ H2 ⟨kvs, more, v3, v4, v5, v6, v7, rfl, hm, s2, ef2, hk2, hl2, hsou, hens, hclo⟩
    refine ⟨_, rfl, _, rfl, ?_⟩
    cases more with
    | false => exact ifF rfl ⟨_, rfl, k fD kvs H2 s2 hfD ef2 hk2 (.of okw hsou hens (hclo rfl)) (by omega)⟩
    | true =>
    refine ifT rfl ?_
    refine ⟨fun σ' H' => ∃ m', m' < m ∧ ∃ (kvs : List (List Key × V)) (more : Bool) (v3 v4 v5 v6 v7 : Option V), σ' = [some (.ref b0), some (.ref fD), some (.bl more), v3, v4, v5, v6, v7] ∧ m' = 2 * ms kvs + more.toNat ∧ Same H H' ∧ H' fD = some (.dT kvs) ∧ RdOk W.lb.toNat H' kvs ∧ kvs.length + ms kvs ≤ 2000000 ∧ Sou W kvs ∧ Ens W W.ns.length kvs ∧ (more = false → CloU W kvs W.ns.length 0), fun σ' H' z => z, ?_⟩
    refine ⟨_, rfl, b0, _, 1, _, rfl, rfl, SqT.of (s2 _ _ eb0), atI_nat (j := 1) rfl, c0, xn, rfl, SqT.of (s2 _ _ ec0), ?_⟩
    have hm : m = 2 * ms kvs + 1 := hm
    -- one walk over all edges
    have inv : ∃ Iv : Nat → Nat → L2.St → Hp → Prop, Iv = fun i j σ H' => ∃ (kvs' : List (List Key × V)) (mr : Bool) (v3 v4 v5 v6 v7 : Option V), σ = [some (.ref b0), some (.ref fD), some (.bl mr), v3, v4, v5, v6, v7] ∧ Same H H' ∧ H' fD = some (.dT kvs') ∧ RdOk W.lb.toNat H' kvs' ∧ kvs'.length + ms kvs' ≤ 2000000 ∧ ms kvs' + mr.toNat ≤ ms kvs ∧ Sou W kvs' ∧ Ens W W.ns.length kvs' ∧ (mr = false → kvs' = kvs ∧ CloU W kvs i j) := ⟨_, rfl⟩
    obtain ⟨Iv, hIv⟩ := inv
    have mk : ∀ {i j : Nat} {σ : L2.St} {H' : Hp}, (∃ (kvs' : List (List Key × V)) (mr : Bool) (v3 v4 v5 v6 v7 : Option V), σ = [some (.ref b0), some (.ref fD), some (.bl mr), v3, v4, v5, v6, v7] ∧ Same H H' ∧ H' fD = some (.dT kvs') ∧ RdOk W.lb.toNat H' kvs' ∧ kvs'.length + ms kvs' ≤ 2000000 ∧ ms kvs' + mr.toNat ≤ ms kvs ∧ Sou W kvs' ∧ Ens W W.ns.length kvs' ∧ (mr = false → kvs' = kvs ∧ CloU W kvs i j)) → Iv i j σ H' := fun h => by rw [hIv]; exact h
    have un : ∀ {i j : Nat} {σ : L2.St} {H' : Hp}, Iv i j σ H' → (∃ (kvs' : List (List Key × V)) (mr : Bool) (v3 v4 v5 v6 v7 : Option V), σ = [some (.ref b0), some (.ref fD), some (.bl mr), v3, v4, v5, v6, v7] ∧ Same H H' ∧ H' fD = some (.dT kvs') ∧ RdOk W.lb.toNat H' kvs' ∧ kvs'.length + ms kvs' ≤ 2000000 ∧ ms kvs' + mr.toNat ≤ ms kvs ∧ Sou W kvs' ∧ Ens W W.ns.length kvs' ∧ (mr = false → kvs' = kvs ∧ CloU W kvs i j)) := fun h => by rw [hIv] at h; exact h
    clear hIv
    refine for_it (walk_enumT (K := K) (a := c0) (xs := xn)) (fun i σ H' => Iv i 0 σ H') (mk ⟨kvs, false, _, _, _, _, _, rfl, s2, ef2, hk2, hl2, Nat.le_refl _, hsou, hens, fun _ => ⟨rfl, fun a k nt e _ _ h => by omega⟩⟩) (fun i σ H' _ h => by
      obtain ⟨_, _, _, _, _, _, _, _, s, _⟩ := un h
      exact SqT.of (s _ _ ec0)) ?_ ?_
    · rintro i x σ H3 H3z hi h ⟨T0, x', y, rfl, hT, hH3, hx, hy⟩
      obtain ⟨kvs', mr, v3, v4, v5, v6, v7, rfl, s3, ef3, hk3, hl3, hms, hso3, hen3, hcl3⟩ := un h
      obtain rfl := Option.some.inj hx
      obtain ⟨sT, eT⟩ := freshF hT hH3.symm
      obtain ⟨dn, hdn, hyd⟩ := rn.at_ hy
      rw [List.getElem?_map] at hdn
      obtain ⟨nt, hnt, rfl⟩ := Option.map_eq_some_iff.mp hdn
      obtain ⟨b3, c3, xe, rfl, eb3, ec3, re⟩ := nt_at hyd
      have s3' := s3.trans sT
      have hxe : xe.length = nt.2.length := by rw [re.len, List.length_map]
      refine ⟨T0, _, rfl, SqT.of eT, (by rfl), _, _, rfl, _, _, rfl, rfl, ?_⟩
      refine ⟨_, rfl, b3, _, 1, _, rfl, rfl, SqT.of (s3' _ _ eb3), atI_nat (j := 1) rfl, c3, rfl, ⟨_, SqT.of (s3' _ _ ec3)⟩, ?_⟩
      refine for_it (walk_tup (K := K) (a := c3) (xs := xe)) (fun j σ H' => Iv i j σ H' ∧ σ[3]? = some (some (.int (i : Nat)))) ⟨mk ⟨kvs', mr, _, _, _, _, _, rfl, s3', sT _ _ ef3, hk3.keep sT, hl3, hms, hso3, hen3, hcl3⟩, rfl⟩ (fun j σ H' _ h => by
        obtain ⟨_, _, _, _, _, _, _, _, s, _⟩ := un h.1
        exact SqT.of (s _ _ ec3)) ?_ ?_
      rotate_left
      · rintro σ H' ⟨h, _⟩
        obtain ⟨kvs', mr, v3, v4, v5, v6, v7, rfl, s3, ef3, hk3, hl3, hms, hso3, hen3, hcl3⟩ := un h
        refine mk ⟨kvs', mr, _, _, _, _, _, rfl, s3, ef3, hk3, hl3, hms, hso3, hen3, fun hm => ⟨(hcl3 hm).1, fun a k nt' e h1 h2 h3 => ?_⟩⟩
        refine (hcl3 hm).2 a k nt' e h1 h2 ?_
        by_cases ha : a = i
        · refine .inr ⟨ha, ?_⟩
          subst ha
          obtain rfl := Option.some.inj (hnt.symm.trans h1)
          rw [hxe]
          exact (List.getElem?_eq_some_iff.mp h2).1
        · exact .inl (by omega)
      clear hms hl3 hk3 ef3 s3 h v3 v4 v5 v6 v7 s3' hso3 hen3 hcl3
      rintro j x σ H4 H4z hj ⟨h, h3⟩ ⟨rfl, hx⟩
      obtain ⟨kvs', mr, v3, v4, v5, v6, v7, rfl, s4, ef4, hk4, hl4, hms, hso4, hen4, hcl4⟩ := un h
      obtain rfl := Option.some.inj h3
      obtain ⟨de, hde, hxd⟩ := re.at_ hx
      rw [List.getElem?_map] at hde
      obtain ⟨e, he, rfl⟩ := Option.map_eq_some_iff.mp hde
      obtain ⟨be, ae, rfl, ebe, xl, eae, rl⟩ := ed_at hxd
      have hoe := okw.ed nt (List.mem_of_getElem? hnt) e (List.mem_of_getElem? he)
      have ebe4 := s4 _ _ ebe
      refine ⟨fun σ H' => ∃ b : Bool, σ = [some (.ref b0), some (.ref fD), some (.bl mr), some (.int (i : Nat)), v4, some (.ref be), some (.bl b), v7] ∧ Same H4z H' ∧ (b = true → (valV kvs' (pK i e.t)).isSome = true ∧ ∀ c, e.c = some c → (valV kvs' (pK c 0)).isSome = true) ∧ (b = false → CloE kvs' i e), ?_, ?_⟩
      · refine ⟨_, rfl, _, rfl, be, _, 1, _, rfl, rfl, SqT.of ebe4, atI_nat (j := 1) rfl, (by show 2 ≤ sizeLine; decide), fun t ht => ?_⟩
        generalize hH5 : upd H4z t _ = H5
        obtain ⟨st, et⟩ := freshF ht hH5
        refine ⟨_, rfl, fD, _, rfl, DGet.t (k := pK i e.t) (st _ _ ef4) et, _, rfl, ?_⟩
        cases h1 : (valV kvs' (pK i e.t)).isSome with
        | false => exact ⟨false, rfl, st, (fun h => by cases h), fun _ h => by rw [h1] at h; cases h⟩
        | true =>
          refine iteT ⟨_, rfl, be, _, 2, _, rfl, rfl, SqT.of (st _ _ ebe4), atI_nat (j := 2) rfl, rfl, _, rfl, ?_⟩
          cases hc : e.c with
          | none => exact ⟨true, rfl, st, (fun _ => ⟨rfl, fun c h => by cases h⟩), fun h => by cases h⟩
          | some c =>
            refine iteF ⟨_, rfl, be, _, 2, _, rfl, rfl, SqT.of (st _ _ ebe4), atI_nat (j := 2) rfl, (by show 2 ≤ sizeLine; decide), fun t2 ht2 => ?_⟩
            generalize hH6 : upd H5 t2 _ = H6
            obtain ⟨st2, et2⟩ := freshF ht2 hH6
            rw [hc] at et2
            refine ⟨_, rfl, fD, _, rfl, DGet.t (k := pK c 0) (st2 _ _ (st _ _ ef4)) et2, ?_⟩
            exact ⟨_, rfl, st.trans st2, (fun h => ⟨rfl, fun c' h' => by obtain rfl := Option.some.inj h'; exact h⟩), fun h _ h' => by rw [h' c hc] at h; cases h⟩
      rintro σ H5 ⟨b, rfl, s45, hb, hbn⟩
      have s05 := s4.trans s45
      have stay : CloE kvs' i e → ∀ (v6 v7 : Option V) (H' : Hp), Same H5 H' → Iv i (j + 1) [some (.ref b0), some (.ref fD), some (.bl mr), some (.int (i : Nat)), v4, some (.ref be), v6, v7] H' ∧ ([some (V.ref b0), some (.ref fD), some (.bl mr), some (.int (i : Nat)), v4, some (.ref be), v6, v7] : L2.St)[3]? = some (some (.int (i : Nat))) := fun hcl v6 v7 H' s' =>
        ⟨mk ⟨kvs', mr, _, _, _, _, _, rfl, s05.trans s', s' _ _ (s45 _ _ ef4), hk4.keep (s45.trans s'), hl4, hms, hso4, hen4, fun hm => ⟨(hcl4 hm).1, fun a k nt' e' h1 h2 h3 => by
          by_cases ha : a = i ∧ k = j
          · obtain ⟨rfl, rfl⟩ := ha
            obtain rfl := Option.some.inj (hnt.symm.trans h1)
            obtain rfl := Option.some.inj (he.symm.trans h2)
            rw [← (hcl4 hm).1]
            exact hcl
          · exact (hcl4 hm).2 a k nt' e' h1 h2 (by omega)⟩⟩, rfl⟩
      refine ⟨_, rfl, _, rfl, ?_⟩
      cases b with
      | false => exact ifF rfl (ifF rfl (stay (hbn rfl) _ _ H5 (Same.refl _)))
      | true =>
      obtain ⟨hb1, hb2⟩ := hb rfl
      refine ifT rfl ?_
      refine ⟨_, rfl, _, rfl, be, _, 0, _, rfl, rfl, SqT.of (s45 _ _ ebe4), atI_nat (j := 0) rfl, (by show 2 ≤ sizeLine; decide), fun t3 ht3 => ?_⟩
      generalize hH6 : upd H5 t3 _ = H6
      obtain ⟨st3, et3⟩ := freshF ht3 hH6
      refine ⟨_, rfl, fD, _, rfl, DGet.t (k := pK i e.p) (st3 _ _ (s45 _ _ ef4)) et3, _, rfl, ?_⟩
      cases hv : valV kvs' (pK i e.p) with
      | some v => exact ifF rfl (stay (fun _ _ => by rw [hv] <;> rfl) _ _ H6 st3)
      | none =>
      refine ifT rfl ?_
      have s46 := s45.trans st3
      have s06 := s4.trans s46
      have ef6 := s46 _ _ ef4
      have hk6 := hk4.keep s46
      have ebe6 := s46 _ _ ebe4
      refine ⟨fun σ H' => ∃ (r : Addr) (xs : List Int), σ = [some (.ref b0), some (.ref fD), some (.bl mr), some (.int (i : Nat)), v4, some (.ref be), some (.bl true), some (.ref r)] ∧ Same H6 H' ∧ H' r = some (.lst (xs.map V.int)) ∧ xs.length = W.lb.toNat + 1, ?_, ?_⟩
      · refine ⟨_, rfl, be, _, 2, _, rfl, rfl, SqT.of ebe6, atI_nat (j := 2) rfl, rfl, _, rfl, ?_⟩
        cases hc : e.c with
        | none =>
          refine ifT rfl ⟨(by show 1 ≤ sizeLine; decide), fun z1 hz1 => ?_⟩
          generalize hH7 : upd H6 z1 _ = H7
          obtain ⟨sz1, ez1⟩ := freshF hz1 hH7
          refine ⟨_, rfl, b0, _, 0, _, rfl, rfl, SqT.of (sz1 _ _ (s06 _ _ eb0)), atI_nat (j := 0) rfl, _, _, rfl, rfl, z1, W.lb + 1, [.int 0], rfl, rfl, ez1, (by omega), (by omega), (by show 1 * (W.lb + 1).toNat ≤ sizeLine; rw [sizeLine_eq]; omega), fun z2 hz2 => ?_⟩
          generalize hH8 : upd H7 z2 _ = H8
          obtain ⟨sz2, ez2⟩ := freshF hz2 hH8
          rw [rep_flat hlb.1] at ez2
          exact ⟨z2, _, rfl, sz1.trans sz2, ez2, List.length_replicate⟩
        | some c =>
          refine ifF rfl ⟨_, rfl, _, rfl, be, _, 2, _, rfl, rfl, SqT.of ebe6, atI_nat (j := 2) rfl, (by show 2 ≤ sizeLine; decide), fun t4 ht4 => ?_⟩
          generalize hH7 : upd H6 t4 _ = H7
          obtain ⟨st4, et4⟩ := freshF ht4 hH7
          rw [hc] at et4
          obtain ⟨v, hv2⟩ := Option.isSome_iff_exists.mp (hb2 c hc)
          obtain ⟨r, xs, rfl, er, hxl⟩ := hk6 _ _ hv2
          have g := DGet.t (k := pK c 0) (st4 _ _ ef6) et4
          rw [hv2] at g
          exact ⟨fD, _, rfl, g, r, xs, rfl, st4, st4 _ _ er, hxl⟩
      rintro σ H7 ⟨r, xs, rfl, s67, er, hxl⟩
      have s47 := s46.trans s67
      have s07 := s06.trans s67
      refine ⟨_, rfl, _, rfl, g, _, _, W, e, rfl, hw.keep (Kv.of s07), hlb.1, hlb.2, hxd.keep (Kv.of (s4.trans s47)), hoe.k, fun D H8 s8 hD eD => ⟨_, rfl, D, r, own W.lb e, xs, 1, rfl, eD, s8 _ _ er, by rw [own_len, hxl], by rw [own_len]; omega, by decide, by decide, fun D2 H9 s9 hD2 eD2 => ?_⟩⟩
      refine ⟨_, rfl, _, rfl, _, rfl, be, _, 1, _, rfl, rfl, SqT.of (s9 _ _ (s8 _ _ (s67 _ _ ebe6))), atI_nat (j := 1) rfl, (by show 2 ≤ sizeLine; decide), fun t5 ht5 => ?_⟩
      generalize hHa : upd H9 t5 _ = Ha
      obtain ⟨st5, et5⟩ := freshF ht5 hHa
      have s6a := s67.trans (s8.trans (s9.trans st5))
      obtain ⟨v, hv2⟩ := Option.isSome_iff_exists.mp hb1
      obtain ⟨r2, ys, rfl, er2, hyl⟩ := hk6 _ _ hv2
      have g5 := DGet.t (k := pK i e.t) (s6a _ _ ef6) et5
      rw [hv2] at g5
      refine ⟨fD, _, rfl, g5, D2, r2, _, ys, 1, rfl, st5 _ _ eD2, s6a _ _ er2, ?_, ?_, by decide, by decide, fun D3 Hb sb hD3 eD3 => ?_⟩
      · rw [List.length_zipWith, own_len, hxl, hyl]
        omega
      · rw [List.length_zipWith, own_len, hxl]
        omega
      have s6b := s6a.trans sb
      refine ⟨_, rfl, _, rfl, _, rfl, be, _, 0, _, rfl, rfl, SqT.of (s6b _ _ ebe6), atI_nat (j := 0) rfl, (by show 2 ≤ sizeLine; decide), fun t6 ht6 => ?_⟩
      generalize hHc : upd Hb t6 _ = Hc
      obtain ⟨st6, et6⟩ := freshF ht6 hHc
      have s6c := s6b.trans st6
      have hpl := okw.pl (List.mem_of_getElem? hnt)
      have hin : i < W.ns.length := by rw [← hnl]; exact hi
      have hn4 := okw.n4
      have hmem : pK (i : Nat) e.p ∈ UK := uk_mem (by omega) (by have := hoe.p; omega)
      have hlt := ms_put (v := .ref D3) hmem hv
      refine ⟨fD, _, rfl, DPut.t (k := pK i e.p) (s6c _ _ ef6) et6 (by rw [sizeLine_eq]; omega), ?_⟩
      refine ⟨mk ⟨_, true, _, _, _, _, _, rfl, fun b o eb => ?_, upd_same, (hk6.keep s6c).put (s6c _ _ ef6) (st6 _ _ eD3) ?_, ?_, ?_, hso4.put ?_, (fun a nt' h1 h2 => put_some (hen4 a nt' h1 h2)), fun h => by cases h⟩, rfl⟩
      · rw [upd_ne (ne_of_none eb hfD)]
        exact s6c _ _ (s06 _ _ eb)
      · rw [List.length_zipWith, List.length_zipWith, own_len, hxl, hyl]
        omega
      · have := putK_le kvs' (pK i e.p) (.ref D3)
        omega
      · show _ + 1 ≤ _
        have : ms kvs' ≤ ms kvs := by
          have := hms
          cases mr with
          | false => exact this
          | true => exact Nat.le_of_succ_le this
        omega
      · have fin : ∀ {a' p' : Int}, (valV kvs' (pK a' p')).isSome = true → 0 ≤ a' → FinP W a'.toNat p' := fun {a' p'} h h0 => by
          obtain ⟨v', hv'⟩ := Option.isSome_iff_exists.mp h
          obtain ⟨a2, p2, e2, hf⟩ := hso4 _ _ hv'
          obtain ⟨rfl, rfl⟩ := pK_inj e2
          exact hf
        refine .step hnt (List.mem_of_getElem? he) (fin hb1 (Int.natCast_nonneg _)) fun c hc => ?_
        exact fin (hb2 c hc) (hoe.c c hc).1
    · intro σ H3 h
      obtain ⟨kvs', mr, v3, v4, v5, v6, v7, rfl, s3, ef3, hk3, hl3, hms, hso3, hen3, hcl3⟩ := un h
      refine ⟨2 * ms kvs' + mr.toNat, ?_, kvs', mr, _, _, _, _, _, rfl, rfl, s3, ef3, hk3, hl3, hso3, hen3, fun hm => by rw [(hcl3 hm).1, ← hnl]; exact (hcl3 hm).2⟩
      cases mr with
      | false =>
        show 2 * ms kvs' + 0 < m
        have hms : ms kvs' + 0 ≤ ms kvs := hms
        omega
      | true =>
        show 2 * ms kvs' + 1 < m
        have hms : ms kvs' + 1 ≤ ms kvs := hms
        omega
end
end K65

set_option Elab.async false
set_option linter.all false
set_option pp.maxSteps 900
set_option maxRecDepth 100000
set_option maxHeartbeats 4000000
namespace K65
open PySem PySem.Spec PyProof.Rows L2
open TL (tl)
abbrev sEI : Stmt := inClass (top 1) 0
abbrev sSN : Stmt := inClass (top 1) 1
/-- an own class: its names are no attributes of it -/
structure ClA (K : PySem.W.Frag) (C : Addr) (names : List Str) : Prop where
  cl : Cls K C
  na : ∀ f ∈ names, NoAttr K C f
abbrev eNames : List Str := ["net", "at", "spot", "goal", "called", "start", "edge_beats", "labels"]
def oN : Option Nat → V
  | none => .non
  | some n => .int (n : Nat)
/-- an edge of the chart at p -/
structure EFs (H : Hp) (W : Web) (a k : Nat) (e : Ed) (fs : List (Str × V)) : Prop where
  net : fs.lookup ("net" : Str) = some (.int (a : Nat))
  at_ : fs.lookup ("at" : Str) = some (.int (k : Nat))
  spot : fs.lookup ("spot" : Str) = some (.int (spN W a e.p : Nat))
  goal : fs.lookup ("goal" : Str) = some (.int (spN W a e.t : Nat))
  called : fs.lookup ("called" : Str) = some (oIV e.c)
  start : fs.lookup ("start" : Str) = some (oN (e.c.map fun c => stN W.ns c.toNat))
  beats : fs.lookup ("edge_beats" : Str) = some (.int e.b)
  labels : ∃ q : Addr, fs.lookup ("labels" : Str) = some (.ref q) ∧ H q = some (.tup (e.l.map V.int))
  no : fs.lookup ("spots_needed" : Str) = none
def EOb (C : Addr) (H : Hp) (W : Web) (p : Addr) (a k : Nat) (e : Ed) : Prop := ∃ dx fs, H p = some (.ins C dx fs) ∧ EFs H W a k e fs
theorem EOb.keep {C : Addr} {H H' : Hp} {W : Web} {p : Addr} {a k : Nat} {e : Ed} (h : EOb C H W p a k e) (hp : ∀ dx fs, H p = some (.ins C dx fs) → H' p = some (.ins C dx fs)) (ht : Kt H H') : EOb C H' W p a k e := by
  obtain ⟨dx, fs, h1, h2⟩ := h
  obtain ⟨q, h3, h4⟩ := h2.labels
  exact ⟨dx, fs, hp _ _ h1, { h2 with labels := ⟨q, h3, ht _ _ h4⟩ }⟩
def stsV (W : Web) : List V := (List.range W.ns.length).map fun a => V.int (stN W.ns a : Nat)
theorem sts_at {W : Web} {a : Nat} (h : a < W.ns.length) : (stsV W)[a]? = some (.int (stN W.ns a : Nat)) := by
  unfold stsV
  rw [List.getElem?_map, List.getElem?_range h]
  rfl
def spEI (C : Addr) : Sp := fun vs H Q _ => ∃ (g p dx sl : Addr) (ve : V) (W : Web) (a k : Nat) (nt : Int × List Ed) (e : Ed), vs = [.ref p, .int (a : Nat), .int (k : Nat), ve, .ref sl] ∧ H p = some (.ins C dx []) ∧ DV g H ve (edD e) ∧ H sl = some (.lst (stsV W)) ∧ W.ns[a]? = some nt ∧ e ∈ nt.2 ∧ OkW W ∧
  ∀ H', (∀ b o, H b = some o → b ≠ p → H' b = some o) → EOb C H' W p a k e → Q .non H'
def spSN (C : Addr) : Sp := fun vs H Q _ => ∃ (p : Addr) (W : Web) (a k : Nat) (e : Ed), vs = [.ref p] ∧ EOb C H W p a k e ∧ ∀ (D : Addr) (H' : Hp), Same H H' → H D = none → H' D = some (.lst ((needs (geOf W a e)).map fun n => V.int (n : Nat))) → Q (.ref D) H'
theorem putF_le {f : Str} {v : V} : ∀ {fs : List (Str × V)} {n : Nat}, fs.length ≤ n → (putF f v fs).length ≤ n + 1
  | [], n, _ => by
    show 1 ≤ n + 1
    omega
  | (g, x) :: r, n, h => by
    have h : r.length + 1 ≤ n := h
    show (if g = f then (g, v) :: r else (g, x) :: putF f v r).length ≤ n + 1
    split
    · show r.length + 1 ≤ n + 1
      omega
    · have := putF_le (f := f) (v := v) (fs := r) (n := n - 1) (by omega)
      show (putF f v r).length + 1 ≤ n + 1
      omega
section
variable {P : Program} {w : World} {K : PySem.W.Frag} {mg : Str → Option Value} {base : Heap}
theorem scEi : FnScope ["self", "net", "at", "told", "starts"] ["self", "net", "at", "told", "starts"] (defScope sEI) := ⟨rfl, rfl, rfl, by decide +kernel, rfl, by decide +kernel, by decide +kernel⟩
theorem ok_ei {f C : Addr} {fd : FuncData} (F : Fun K "__init__" "Edge.__init__" sEI f fd) (CE : ClA K C eNames) : FnOk P w K mg base CX0 1 f fd ["self", "net", "at", "told", "starts"] (spEI C) := by
  refine F.ok scEi (fun vs H Q E h => ?_) (fun cdv A outer s H vs Q E hr h => ?_)
  · obtain ⟨a1, a2, a3, a4, a5, a6, a7, a8, a9, b1, rfl, _⟩ := h
    rfl
  · obtain ⟨g, p, dx, sl, ve, W, a, k, nt, e, rfl, hp, he, hsl, hnt, hem, okw, kq⟩ := h
    refine ⟨_, (pss_cons (ps_fld (pv 0) (pv 1) rfl)
      (pss_cons (ps_fld (pv 0) (pv 2) rfl)
      (pss_cons (ps_fld (pv 0) (pe_op op_add (pe_ix ix_list (pv 4) (pv 1) (fun _ _ => rfl)) (pe_ix ix_tup (pv 3) pe_int (fun _ _ => rfl))) rfl)
      (pss_cons (ps_fld (pv 0) (pe_op op_add (pe_ix ix_list (pv 4) (pv 1) (fun _ _ => rfl)) (pe_ix ix_tup (pv 3) pe_int (fun _ _ => rfl))) rfl)
      (pss_cons (ps_fld (pv 0) (pe_ix ix_tup (pv 3) pe_int (fun _ _ => rfl)) rfl)
      (pss_mid (ps_fld (pv 0) (pe_ifExp (pt_cmpR op_isN (pe_ix ix_tup (pv 3) pe_int (fun _ _ => rfl)) pe_non (nomark _)) pe_non (pe_ix ix_list (pv 4) (pe_ix ix_tup (pv 3) pe_int (fun _ _ => rfl)) (fun _ _ => rfl))) rfl)
      (pss_cons (ps_fld (pv 0) (pe_ix ix_tup (pv 3) pe_int (fun _ _ => rfl)) rfl)
      (pss_one (ps_fld (pv 0) (pe_ix ix_tup (pv 3) pe_int (fun _ _ => rfl)) rfl))))))))), ?_⟩
    obtain ⟨be, ae, rfl, ebe, xl, eae, rl⟩ := ed_at he
    have hoe := okw.ed nt (List.mem_of_getElem? hnt) e hem
    have hal := (List.getElem?_eq_some_iff.mp hnt).1
    have na := fun (f : Str) (h : f ∈ eNames) => CE.na f h
    have npb : be ≠ p := ne_of ebe hp (by intro z; cases z)
    have nps : sl ≠ p := ne_of hsl hp (by intro z; cases z)
    have npa : ae ≠ p := ne_of eae hp (by intro z; cases z)
    have tb : ∀ {fs : List (Str × V)}, (upd H p (.ins C dx fs)) be = some (.tup [.int e.p, .int e.t, oIV e.c, .int e.b, .ref ae]) := fun {fs} => by rw [upd_ne npb]; exact ebe
    have ts : ∀ {fs : List (Str × V)}, (upd H p (.ins C dx fs)) sl = some (.lst (stsV W)) := fun {fs} => by rw [upd_ne nps]; exact hsl
    have uu : ∀ {fs fs' : List (Str × V)}, upd (upd H p (.ins C dx fs)) p (.ins C dx fs') = upd H p (.ins C dx fs') := fun {fs fs'} => by
      funext b
      by_cases hb : b = p
      · rw [hb, upd_same, upd_same]
      · rw [upd_ne hb, upd_ne hb, upd_ne hb]
    -- net, at
    refine ⟨_, rfl, _, rfl, p, C, dx, [], rfl, hp, CE.cl, na "net" (by decide +kernel), (by decide), ?_⟩
    refine ⟨_, rfl, _, rfl, p, C, dx, _, rfl, upd_same, CE.cl, na "at" (by decide +kernel), (by refine Nat.lt_of_le_of_lt (m := 40) ?_ (by decide); repeat (first | refine putF_le ?_ | exact Nat.zero_le _)), ?_⟩
    rw [uu]
    -- spot, goal
    refine ⟨_, rfl, _, rfl, sl, stsV W, (a : Nat), _, rfl, rfl, SqL.of ts, atI_nat (sts_at hal), _, rfl, be, _, 0, _, rfl, rfl, SqT.of tb, atI_nat (j := 0) rfl, _, _, rfl, rfl, _, rfl, p, C, dx, _, rfl, upd_same, CE.cl, na "spot" (by decide +kernel), (by refine Nat.lt_of_le_of_lt (m := 40) ?_ (by decide); repeat (first | refine putF_le ?_ | exact Nat.zero_le _)), ?_⟩
    rw [uu]
    refine ⟨_, rfl, _, rfl, sl, stsV W, (a : Nat), _, rfl, rfl, SqL.of ts, atI_nat (sts_at hal), _, rfl, be, _, 1, _, rfl, rfl, SqT.of tb, atI_nat (j := 1) rfl, _, _, rfl, rfl, _, rfl, p, C, dx, _, rfl, upd_same, CE.cl, na "goal" (by decide +kernel), (by refine Nat.lt_of_le_of_lt (m := 40) ?_ (by decide); repeat (first | refine putF_le ?_ | exact Nat.zero_le _)), ?_⟩
    rw [uu]
    refine ⟨_, rfl, be, _, 2, _, rfl, rfl, SqT.of tb, atI_nat (j := 2) rfl, _, rfl, p, C, dx, _, rfl, upd_same, CE.cl, na "called" (by decide +kernel), (by refine Nat.lt_of_le_of_lt (m := 40) ?_ (by decide); repeat (first | refine putF_le ?_ | exact Nat.zero_le _)), ?_⟩
    rw [uu]
    refine ⟨fun σ H' => σ = [some (.ref p), some (.int (a : Nat)), some (.int (k : Nat)), some (.ref be), some (.ref sl)] ∧ H' = upd H p (.ins C dx (putF "start" (oN (e.c.map fun c => stN W.ns c.toNat)) (putF "called" (oIV e.c) (putF "goal" (.int ((stN W.ns a : Nat) + e.t)) (putF "spot" (.int ((stN W.ns a : Nat) + e.p)) (putF "at" (.int (k : Nat)) (putF "net" (.int (a : Nat)) []))))))), ?_, ?_⟩
    · refine ⟨_, rfl, be, _, 2, _, rfl, rfl, SqT.of tb, atI_nat (j := 2) rfl, rfl, _, rfl, ?_⟩
      cases hc : e.c with
      | none =>
        refine ifT rfl ⟨_, rfl, p, C, dx, _, rfl, upd_same, CE.cl, na "start" (by decide +kernel), (by refine Nat.lt_of_le_of_lt (m := 40) ?_ (by decide); repeat (first | refine putF_le ?_ | exact Nat.zero_le _)), rfl, ?_⟩
        rw [uu] <;> rfl
      | some c =>
        have hcc := hoe.c c hc
        refine ifF rfl ⟨_, rfl, _, rfl, be, _, 2, _, rfl, rfl, SqT.of tb, atI_nat (j := 2) rfl, ?_⟩
        rw [hc]
        have hcl : c.toNat < W.ns.length := by omega
        refine ⟨sl, stsV W, c, _, rfl, rfl, SqL.of ts, at_int hcc.1 (sts_at hcl), _, rfl, p, C, dx, _, rfl, upd_same, CE.cl, na "start" (by decide +kernel), (by refine Nat.lt_of_le_of_lt (m := 40) ?_ (by decide); repeat (first | refine putF_le ?_ | exact Nat.zero_le _)), rfl, ?_⟩
        rw [uu] <;> rfl
    rintro σ H' ⟨rfl, rfl⟩
    refine ⟨_, rfl, be, _, 3, _, rfl, rfl, SqT.of tb, atI_nat (j := 3) rfl, _, rfl, p, C, dx, _, rfl, upd_same, CE.cl, na "edge_beats" (by decide +kernel), (by refine Nat.lt_of_le_of_lt (m := 40) ?_ (by decide); repeat (first | refine putF_le ?_ | exact Nat.zero_le _)), ?_⟩
    rw [uu]
    refine ⟨_, rfl, be, _, 4, _, rfl, rfl, SqT.of tb, atI_nat (j := 4) rfl, _, rfl, p, C, dx, _, rfl, upd_same, CE.cl, na "labels" (by decide +kernel), (by refine Nat.lt_of_le_of_lt (m := 40) ?_ (by decide); repeat (first | refine putF_le ?_ | exact Nat.zero_le _)), ?_⟩
    rw [uu]
    refine kq _ (fun b o eb nb => by rw [upd_ne nb]; exact eb) ⟨dx, _, upd_same, ?_⟩
    have hsp : ((spN W a e.p : Nat) : Int) = (stN W.ns a : Nat) + e.p := by
      unfold spN
      have := hoe.p
      omega
    have hgo : ((spN W a e.t : Nat) : Int) = (stN W.ns a : Nat) + e.t := by
      unfold spN
      have := hoe.t
      omega
    have hlx : xl = e.l.map V.int := by
      have : ∀ (l : List Int) (ys : List V), DVs g H ys (l.map Dt.int) → ys = l.map V.int := by
        intro l
        induction l with
        | nil => intro ys h; cases h; rfl
        | cons x l ih =>
          intro ys h
          cases h with
          | cons h1 h2 => rw [h1.int_inv, ih _ h2]; rfl
      exact this _ _ rl
    refine ⟨?_, ?_, ?_, ?_, ?_, ?_, ?_, ⟨ae, ?_, ?_⟩, ?_⟩
    · rw [lookup_putF, if_neg (by decide +kernel), lookup_putF, if_neg (by decide +kernel), lookup_putF, if_neg (by decide +kernel), lookup_putF, if_neg (by decide +kernel), lookup_putF, if_neg (by decide +kernel), lookup_putF, if_neg (by decide +kernel), lookup_putF, if_neg (by decide +kernel), lookup_putF, if_pos rfl]
    · rw [lookup_putF, if_neg (by decide +kernel), lookup_putF, if_neg (by decide +kernel), lookup_putF, if_neg (by decide +kernel), lookup_putF, if_neg (by decide +kernel), lookup_putF, if_neg (by decide +kernel), lookup_putF, if_neg (by decide +kernel), lookup_putF, if_pos rfl]
    · rw [hsp]
      rw [lookup_putF, if_neg (by decide +kernel), lookup_putF, if_neg (by decide +kernel), lookup_putF, if_neg (by decide +kernel), lookup_putF, if_neg (by decide +kernel), lookup_putF, if_neg (by decide +kernel), lookup_putF, if_pos rfl]
    · rw [hgo]
      rw [lookup_putF, if_neg (by decide +kernel), lookup_putF, if_neg (by decide +kernel), lookup_putF, if_neg (by decide +kernel), lookup_putF, if_neg (by decide +kernel), lookup_putF, if_pos rfl]
    · rw [lookup_putF, if_neg (by decide +kernel), lookup_putF, if_neg (by decide +kernel), lookup_putF, if_neg (by decide +kernel), lookup_putF, if_pos rfl]
    · rw [lookup_putF, if_neg (by decide +kernel), lookup_putF, if_neg (by decide +kernel), lookup_putF, if_pos rfl]
    · rw [lookup_putF, if_neg (by decide +kernel), lookup_putF, if_pos rfl]
    · rw [lookup_putF, if_pos rfl]
    · rw [upd_ne npa, ← hlx]
      exact eae
    · rw [lookup_putF, if_neg (by decide +kernel), lookup_putF, if_neg (by decide +kernel), lookup_putF, if_neg (by decide +kernel), lookup_putF, if_neg (by decide +kernel), lookup_putF, if_neg (by decide +kernel), lookup_putF, if_neg (by decide +kernel), lookup_putF, if_neg (by decide +kernel), lookup_putF, if_neg (by decide +kernel)]
      rfl
theorem scSn : FnScope ["self"] ["self"] (defScope sSN) := ⟨rfl, rfl, rfl, by decide +kernel, rfl, by decide +kernel, by decide +kernel⟩
theorem ok_sn {f C : Addr} {fd : FuncData} (F : Fun K "spots_needed" "Edge.spots_needed" sSN f fd) (CE : ClA K C eNames) : FnOk P w K mg base CX0 1 f fd ["self"] (spSN C) := by
  refine F.ok scSn (fun vs H Q E h => ?_) (fun cdv A outer s H vs Q E hr h => ?_)
  · obtain ⟨a1, a2, a3, a4, a5, rfl, _⟩ := h
    rfl
  · obtain ⟨p, W, a, k, e, rfl, ⟨dx, fs, hp, hf⟩, kq⟩ := h
    have na := fun (f : Str) (h : f ∈ eNames) => CE.na f h
    refine ⟨_, (pss_one (ps_ret (pe_ifExp (pt_cmpR op_isN (pe_fld (pv 0) rfl) pe_non (nomark _)) (pe_lst (pa_cons (pe_fld (pv 0) rfl) pa_nil)) (pe_lst (pa_cons (pe_fld (pv 0) rfl) (pa_cons (pe_fld (pv 0) rfl) pa_nil)))))), ?_⟩
    refine ⟨_, rfl, p, C, dx, fs, _, rfl, hp, CE.cl, na "start" (by decide +kernel), hf.start, rfl, _, rfl, ?_⟩
    cases hc : e.c with
    | none =>
      refine ifT rfl ⟨_, rfl, p, C, dx, fs, _, rfl, hp, CE.cl, na "goal" (by decide +kernel), hf.goal, (by show 1 ≤ sizeLine; decide), fun D hD => ?_⟩
      generalize hH1 : upd H D _ = H1
      obtain ⟨sD, eD⟩ := freshF hD hH1
      refine kq D H1 sD hD ?_
      rw [eD]
      unfold needs geOf
      rw [hc]
      rfl
    | some c =>
      refine ifF rfl ⟨_, rfl, p, C, dx, fs, _, rfl, hp, CE.cl, na "goal" (by decide +kernel), hf.goal, _, rfl, p, C, dx, fs, _, rfl, hp, CE.cl, na "start" (by decide +kernel), hf.start, (by show 2 ≤ sizeLine; decide), fun D hD => ?_⟩
      generalize hH1 : upd H D _ = H1
      obtain ⟨sD, eD⟩ := freshF hD hH1
      refine kq D H1 sD hD ?_
      rw [eD]
      unfold needs geOf
      rw [hc]
      rfl
end
end K65

set_option Elab.async false
set_option linter.all false
set_option pp.maxSteps 900
set_option maxRecDepth 100000
set_option maxHeartbeats 4000000
namespace K65
open PySem PySem.Spec PyProof.Rows L2
open TL (tl)
abbrev sCI : Stmt := inClass (top 2) 0
abbrev sIU : Stmt := inClass (top 2) 1
abbrev sIF : Stmt := inClass (top 2) 2
abbrev sIO : Stmt := inClass (top 2) 3
abbrev sFi : Stmt := inClass (top 2) 4
abbrev sRe : Stmt := inClass (top 2) 5
abbrev cNames : List Str := ["label_count", "starts", "ends", "spot_count", "edges", "ends_at", "choice", "order", "came", "callers", "used"]
/-! ### the class Chart -/
def exUp (W : Web) (i : Nat) : List (Nat × Nat × Ed) := ((List.range i).map fun a => (edsN W a).zipIdx.map fun y => (a, y.2, y.1)).flatten
def exOf (W : Web) : List (Nat × Nat × Ed) := exUp W W.ns.length
def geX (W : Web) (y : Nat × Nat × Ed) : GE := geOf W y.1 y.2.2
theorem ex_ges (W : Web) (i : Nat) : (exUp W i).map (geX W) = gesUp W i := by
  unfold exUp gesUp
  rw [List.map_flatten, List.map_map]
  congr 1
  refine List.map_congr_left fun a _ => ?_
  show ((edsN W a).zipIdx.map fun y => (a, y.2, y.1)).map (geX W) = _
  rw [List.map_map]
  show (edsN W a).zipIdx.map (fun y => geOf W a y.1) = _
  rw [show (fun y : Ed × Nat => geOf W a y.1) = (geOf W a) ∘ Prod.fst from rfl, ← List.map_map, List.zipIdx_map_fst]
theorem ex_ge {W : Web} {t : Nat} {y : Nat × Nat × Ed} (h : (exOf W)[t]? = some y) : (gesOf W)[t]? = some (geX W y) := by
  unfold gesOf
  rw [← ex_ges, List.getElem?_map]
  show ((exOf W)[t]?).map _ = _
  rw [h]
  rfl
theorem ex_mem {W : Web} {i : Nat} {y : Nat × Nat × Ed} (h : y ∈ exUp W i) : ∃ nt, y.1 < i ∧ W.ns[y.1]? = some nt ∧ nt.2[y.2.1]? = some y.2.2 := by
  unfold exUp at h
  obtain ⟨l, hl, hy⟩ := List.mem_flatten.mp h
  obtain ⟨a, ha, rfl⟩ := List.mem_map.mp hl
  obtain ⟨z, hz, rfl⟩ := List.mem_map.mp hy
  obtain ⟨h1, h2⟩ := List.mem_zipIdx' hz
  have hzz : (edsN W a)[z.2]? = some z.1 := by
    rw [List.getElem?_eq_some_iff]
    exact ⟨h1, h2.symm⟩
  cases hn : W.ns[a]? with
  | none =>
    have e : edsN W a = [] := by
      unfold edsN
      rw [hn]
      rfl
    rw [e] at hzz
    cases hzz
  | some nt =>
    have e : edsN W a = nt.2 := by
      unfold edsN
      rw [hn]
      rfl
    rw [e] at hzz
    exact ⟨nt, List.mem_range.mp ha, rfl, hzz⟩
/-- the chart's edges -/
def EdL (C : Addr) (H : Hp) (W : Web) (xs : List V) (ex : List (Nat × Nat × Ed)) : Prop := xs.length = ex.length ∧ ∀ (t : Nat) (y : Nat × Nat × Ed), ex[t]? = some y → ∃ q : Addr, xs[t]? = some (.ref q) ∧ EOb C H W q y.1 y.2.1 y.2.2
/-- tuples stay, and instances of the class -/
structure Kx (C : Addr) (H H' : Hp) : Prop where
  tup : Kt H H'
  ins : ∀ b dx fs, H b = some (.ins C dx fs) → H' b = some (.ins C dx fs)
theorem Kx.of {C : Addr} {H H' : Hp} (s : Same H H') : Kx C H H' := ⟨fun b xs e => s _ _ e, fun b dx fs e => s _ _ e⟩
theorem Kx.trans {C : Addr} {H H' H'' : Hp} (a : Kx C H H') (b : Kx C H' H'') : Kx C H H'' := ⟨fun c xs e => b.tup _ _ (a.tup _ _ e), fun c dx fs e => b.ins _ _ _ (a.ins _ _ _ e)⟩
theorem Kx.put {C : Addr} {H : Hp} {p : Addr} {u o : HO} (h : H p = some u) (h1 : ∀ xs, u ≠ .tup xs) (h2 : ∀ dx fs, u ≠ .ins C dx fs) : Kx C H (upd H p o) := by
  refine ⟨fun b xs e => ?_, fun b dx fs e => ?_⟩
  · rw [upd_ne (fun z => by rw [z, h] at e; exact h1 xs (Option.some.inj e))]
    exact e
  · rw [upd_ne (fun z => by rw [z, h] at e; exact h2 dx fs (Option.some.inj e))]
    exact e
theorem Kx.putL {C : Addr} {H : Hp} {p : Addr} {l : List V} {o : HO} (h : H p = some (.lst l)) : Kx C H (upd H p o) := Kx.put h (fun _ z => by cases z) (fun _ _ z => by cases z)
theorem Kx.putK {C : Addr} {H : Hp} {p : Addr} {l : List (Key × V)} {o : HO} (h : H p = some (.dK l)) : Kx C H (upd H p o) := Kx.put h (fun _ z => by cases z) (fun _ _ z => by cases z)
theorem Kx.putI {C C' : Addr} {H : Hp} {p dx : Addr} {fs : List (Str × V)} {o : HO} (h : H p = some (.ins C' dx fs)) (n : C' ≠ C) : Kx C H (upd H p o) := Kx.put h (fun _ z => by cases z) (fun _ _ z => by injection z with z; exact n z)
theorem EOb.kx {C : Addr} {H H' : Hp} {W : Web} {p : Addr} {a k : Nat} {e : Ed} (h : EOb C H W p a k e) (kx : Kx C H H') : EOb C H' W p a k e := h.keep (fun dx fs e => kx.ins _ _ _ e) kx.tup
theorem EdL.kx {C : Addr} {H H' : Hp} {W : Web} {xs : List V} {ex : List (Nat × Nat × Ed)} (h : EdL C H W xs ex) (kx : Kx C H H') : EdL C H' W xs ex := ⟨h.1, fun t y e => by
  obtain ⟨q, h1, h2⟩ := h.2 t y e
  exact ⟨q, h1, h2.kx kx⟩⟩
def endsKv (l : List Nat) : List (Key × V) := l.map fun n => ((Sum.inl ((n : Nat) : Int) : Key), V.bl true)
theorem ends_val {l : List Nat} {x : Nat} : (valV (endsKv l) (Sum.inl ((x : Nat) : Int))).isSome = decide (x ∈ l) := by
  induction l with
  | nil => rfl
  | cons y l ih =>
    by_cases h : y = x
    · subst h
      rw [show valV (endsKv (y :: l)) (Sum.inl ((y : Nat) : Int)) = some (V.bl true) from valV_pos rfl, decide_eq_true List.mem_cons_self] <;> rfl
    · rw [show valV (endsKv (y :: l)) (Sum.inl ((x : Nat) : Int)) = valV (endsKv l) (Sum.inl ((x : Nat) : Int)) from valV_neg (fun e => h (by have := Sum.inl.inj e; omega)), ih, decide_eq_decide]
      simp [show ¬ x = y from fun e => h e.symm]
/-- what is finished: chosen, or an end -/
structure ChF (H : Hp) (fs : List (Str × V)) (cl da : Addr) (ch : List (Option Nat)) (ends : List Nat) : Prop where
  choice : fs.lookup ("choice" : Str) = some (.ref cl)
  ends_at : fs.lookup ("ends_at" : Str) = some (.ref da)
  hc : H cl = some (.lst (ch.map oN))
  hd : H da = some (.dK (endsKv ends))
/-- the class's facts -/
structure ChK (K : PySem.W.Frag) (C : Addr) (fIU fIF fIO fFi fRe : Addr) : Prop where
  a : ClA K C cNames
  mIU : Meth K C "is_useful" fIU
  mIF : Meth K C "is_finished" fIF
  mIO : Meth K C "is_open" fIO
  mFi : Meth K C "finish" fFi
  mRe : Meth K C "reach" fRe
def finB (ch : List (Option Nat)) (ends : List Nat) (x : Nat) : Bool := ((ch[x]?.join).isSome || decide (x ∈ ends))
def spIU (C : Addr) : Sp := fun vs H Q _ => ∃ (p dx ca : Addr) (fs : List (Str × V)) (kvs : List (Key × V)) (x : Nat), vs = [.ref p, .int (x : Nat)] ∧ H p = some (.ins C dx fs) ∧ fs.lookup ("came" : Str) = some (.ref ca) ∧ H ca = some (.dK kvs) ∧ Q (.bl (valV kvs (Sum.inl ((x : Nat) : Int))).isSome) H
def spIF (C : Addr) : Sp := fun vs H Q _ => ∃ (p dx cl da : Addr) (fs : List (Str × V)) (ch : List (Option Nat)) (ends : List Nat) (x : Nat), vs = [.ref p, .int (x : Nat)] ∧ H p = some (.ins C dx fs) ∧ ChF H fs cl da ch ends ∧ x < ch.length ∧ Q (.bl (finB ch ends x)) H
def spIO (C CE : Addr) : Sp := fun vs H Q _ => ∃ (p dx cl da q : Addr) (fs : List (Str × V)) (ch : List (Option Nat)) (ends : List Nat) (W : Web) (a k : Nat) (e : Ed), vs = [.ref p, .ref q] ∧ H p = some (.ins C dx fs) ∧ ChF H fs cl da ch ends ∧ (∀ m, m ∉ cNames → fs.lookup m = none) ∧ EOb CE H W q a k e ∧
  (∀ y ∈ needs (geOf W a e), y < ch.length) ∧ ∀ H', Same H H' → Q (.bl ((needs (geOf W a e)).all (finB ch ends))) H'
section
variable {P : Program} {w : World} {K : PySem.W.Frag} {mg : Str → Option Value} {base : Heap}
theorem scIu : FnScope ["self", "spot"] ["self", "spot"] (defScope sIU) := ⟨rfl, rfl, rfl, by decide +kernel, rfl, by decide +kernel, by decide +kernel⟩
theorem ok_iu {f C fIU fIF fIO fFi fRe : Addr} {fd : FuncData} (F : Fun K "is_useful" "Chart.is_useful" sIU f fd) (CC : ChK K C fIU fIF fIO fFi fRe) : FnOk P w K mg base CX0 1 f fd ["self", "spot"] (spIU C) := by
  refine F.ok scIu (fun vs H Q E h => ?_) (fun cdv A outer s H vs Q E hr h => ?_)
  · obtain ⟨a1, a2, a3, a4, a5, a6, rfl, _⟩ := h
    rfl
  · obtain ⟨p, dx, ca, fs, kvs, x, rfl, hp, hf, hca, kq⟩ := h
    have hu := hu_of hr
    refine ⟨_, (pss_one (ps_ret (pe_cmp (pc_din hu (pv 1) (pe_fld (pv 0) rfl)) rfl))), ?_⟩
    exact ⟨_, rfl, _, rfl, p, C, dx, fs, _, rfl, hp, CC.a.cl, CC.a.na "came" (by decide +kernel), hf, ca, _, rfl, DGet.k (k := Sum.inl ((x : Nat) : Int)) hca, kq⟩
theorem scIf : FnScope ["self", "spot"] ["self", "spot"] (defScope sIF) := ⟨rfl, rfl, rfl, by decide +kernel, rfl, by decide +kernel, by decide +kernel⟩
theorem ok_if {f C fIU fIF fIO fFi fRe : Addr} {fd : FuncData} (F : Fun K "is_finished" "Chart.is_finished" sIF f fd) (CC : ChK K C fIU fIF fIO fFi fRe) : FnOk P w K mg base CX0 1 f fd ["self", "spot"] (spIF C) := by
  refine F.ok scIf (fun vs H Q E h => ?_) (fun cdv A outer s H vs Q E hr h => ?_)
  · obtain ⟨a1, a2, a3, a4, a5, a6, a7, a8, rfl, _⟩ := h
    rfl
  · obtain ⟨p, dx, cl, da, fs, ch, ends, x, rfl, hp, hf, hx, kq⟩ := h
    have hu := hu_of hr
    refine ⟨_, (pss_one (ps_ret (pe_or (pe_cmpR op_notN (pe_ix ix_list (pe_fld (pv 0) rfl) (pv 1) (fun _ _ => rfl)) pe_non (nomark _)) (pe_one (pe_cmp (pc_din hu (pv 1) (pe_fld (pv 0) rfl)) rfl))))), ?_⟩
    have hcx : ch[x]? = some (ch[x]'hx) := List.getElem?_eq_getElem hx
    generalize hc0 : ch[x]'hx = c0 at hcx
    have hcv : (ch.map oN)[x]? = some (oN c0) := by
      rw [List.getElem?_map, hcx]
      rfl
    refine ⟨_, rfl, p, C, dx, fs, _, rfl, hp, CC.a.cl, CC.a.na "choice" (by decide +kernel), hf.choice, _, rfl, cl, _, (x : Nat), _, rfl, rfl, SqL.of hf.hc, atI_nat hcv, rfl, _, rfl, ?_⟩
    have e1 : finB ch ends x = (c0.isSome || decide (x ∈ ends)) := by
      unfold finB
      rw [hcx]
      rfl
    rw [e1] at kq
    cases c0 with
    | some n => exact iteT kq
    | none =>
      refine iteF ⟨_, rfl, _, rfl, p, C, dx, fs, _, rfl, hp, CC.a.cl, CC.a.na "ends_at" (by decide +kernel), hf.ends_at, da, _, rfl, DGet.k (k := Sum.inl ((x : Nat) : Int)) hf.hd, ?_⟩
      rw [ends_val]
      exact kq
theorem scIo : FnScope ["self", "edge", "spot"] ["self", "edge"] (defScope sIO) := ⟨rfl, rfl, rfl, by decide +kernel, rfl, by decide +kernel, by decide +kernel⟩
theorem ok_io {f C CE fIU fIF fIO fFi fRe fSN : Addr} {fd fdIF fdSN : FuncData} (F : Fun K "is_open" "Chart.is_open" sIO f fd) (T : Bn mg) (CC : ChK K C fIU fIF fIO fFi fRe) (EE : ClA K CE eNames) (mSN : Meth K CE "spots_needed" fSN)
    (GIF : FnOk P w K mg base CX0 1 fIF fdIF ["self", "spot"] (spIF C)) (bIF : L2.Binds K fdIF ["self", "spot"] []) (GSN : FnOk P w K mg base CX0 1 fSN fdSN ["self"] (spSN CE)) (bSN : L2.Binds K fdSN ["self"] []) : FnOk P w K mg base CX0 2 f fd ["self", "edge"] (spIO C CE) := by
  refine F.ok scIo (fun vs H Q E h => ?_) (fun cdv A outer s H vs Q E hr h => ?_)
  · obtain ⟨a1, a2, a3, a4, a5, a6, a7, a8, a9, b1, b2, b3, rfl, _⟩ := h
    rfl
  · obtain ⟨p, dx, cl, da, q, fs, ch, ends, W, a, k, e, rfl, hp, hf, hno, hq, hlt, kq⟩ := h
    refine ⟨_, (pss_one (ps_ret (pe_callB (cr_all rfl) (by rfl) T.all (by decide +kernel) (pa_cons (pe_lc (own := [("spot", 2)]) (g := gName 2) (tt := tYes) (by rfl) scIo.nd (pi_list (pe_meth0 (pv 1) EE.cl mSN GSN hr bSN .nil pass0)) (blkOk_by (own := [("spot", 2)]) (N := ["self", "edge", "spot"]) (sc := defScope sIO) (by decide +kernel)) (fun _ _ _ _ _ => (pg_name (i := 2) scIo.nd rfl (Or.inl rfl))) (fun _ _ _ _ _ => pts_nil) (fun _ _ _ _ _ => (pe_meth (pv 0) CC.a.cl CC.mIF GIF hr bIF .nil pass0 (pa_cons (pv 2) pa_nil)))) pa_nil)))), ?_⟩
    obtain ⟨dq, fq, hq1, hq2⟩ := hq
    refine ⟨_, rfl, q, dq, fq, rfl, hq1, hq2.no, q, W, a, k, e, rfl, ⟨dq, fq, hq1, hq2⟩, fun D H1 s1 hD eD => ?_⟩
    refine ⟨D, rfl, ⟨_, SqL.of eD⟩, fun L hL => ?_⟩
    have s2 : ∀ H2, (Same H1 H2) → Same H H2 := fun H2 z => s1.trans z
    refine lc_it (walk_list (K := K) (a := D) (xs := (needs (geOf W a e)).map fun n => V.int (n : Nat))) (fun i H' => H' L = some (.lst (((needs (geOf W a e)).take i).map fun n => V.bl (finB ch ends n))) ∧ Same H1 H') ⟨upd_same, same_new hL⟩ (fun _ _ _ h => SqL.of (h.2 _ _ eD)) ?_ ?_
    · rintro i x H2z H2 hi ⟨h4, s3⟩ ⟨rfl, hx⟩
      rw [List.getElem?_map] at hx
      cases hy : (needs (geOf W a e))[i]? with
      | none => rw [hy] at hx; cases hx
      | some y =>
      rw [hy] at hx
      obtain rfl := Option.some.inj hx
      have hf' : ChF H2 fs cl da ch ends := ⟨hf.choice, hf.ends_at, s2 _ s3 _ _ hf.hc, s2 _ s3 _ _ hf.hd⟩
      refine ⟨rfl, ⟨_, rfl, p, dx, fs, rfl, s2 _ s3 _ _ hp, hno "is_finished" (by decide +kernel), _, rfl, p, dx, cl, da, fs, ch, ends, y, rfl, s2 _ s3 _ _ hp, hf', hlt y (List.mem_of_getElem? hy), ?_⟩⟩
      refine ⟨_, h4, ?_, ?_, ?_⟩
      · have := List.length_take_le i (needs (geOf W a e))
        have h2 : (needs (geOf W a e)).length ≤ 2 := by
          unfold needs
          cases (geOf W a e).c <;> simp
        rw [List.length_map, sizeLine_eq, List.length_take]
        omega
      · rw [upd_same, List.take_succ, hy, List.map_append]
        rfl
      · intro b o eb
        rw [upd_ne (ne_of_none eb hL)]
        exact s3 _ _ eb
    · rintro H2 ⟨h4, s3⟩
      rw [List.length_map, List.take_length] at h4
      refine ⟨L, (needs (geOf W a e)).map (finB ch ends), rfl, SqL.of (by rw [List.map_map]; exact h4), ?_⟩
      rw [List.all_map]
      exact kq H2 (s2 _ s3)
end
end K65

set_option Elab.async false
set_option linter.all false
set_option pp.maxSteps 900
set_option maxRecDepth 100000
set_option maxHeartbeats 4000000
namespace K65
open PySem PySem.Spec PyProof.Rows L2
/-! ### lists of lists; what waits (mathematics) -/
theorem nodup_len : ∀ (l D : List Nat), l.Nodup → (∀ x ∈ l, x ∈ D) → l.length ≤ D.length
  | [], _, _, _ => Nat.zero_le _
  | x :: l, D, nd, h => by
    have hx := h x List.mem_cons_self
    rw [List.nodup_cons] at nd
    have ih := nodup_len l (D.erase x) nd.2 fun y hy => (List.mem_erase_of_ne (show y ≠ x from fun e => nd.1 (by rw [← e]; exact hy))).mpr (h y (List.mem_cons_of_mem _ hy))
    rw [List.length_erase_of_mem hx] at ih
    have : 0 < D.length := List.length_pos_of_mem hx
    rw [List.length_cons]
    omega
theorem nodup_lt {l : List Nat} {n : Nat} (nd : l.Nodup) (h : ∀ x ∈ l, x < n) : l.length ≤ n := by
  have := nodup_len l (List.range n) nd fun x hx => List.mem_range.mpr (h x hx)
  rw [List.length_range] at this
  exact this
def lN (l : List Nat) : HO := .lst (l.map fun n => V.int (n : Nat))
structure LL (H0 H : Hp) (wl : Addr) (as : List Addr) (ws : List (List Nat)) : Prop where
  w : H wl = some (.lst (as.map V.ref))
  wn : H0 wl = none
  wa : wl ∉ as
  nd : as.Nodup
  an : ∀ a ∈ as, H0 a = none
  ln : as.length = ws.length
  it : ∀ (x : Nat) (a : Addr) (l : List Nat), as[x]? = some a → ws[x]? = some l → H a = some (lN l)
theorem nodup_at {as : List Addr} (nd : as.Nodup) {i j : Nat} {a : Addr} (h : as[i]? = some a) (h' : as[j]? = some a) : i = j := by
  have pw := List.pairwise_iff_getElem.mp (List.nodup_iff_pairwise_ne.mp nd)
  obtain ⟨hi, e⟩ := List.getElem?_eq_some_iff.mp h
  obtain ⟨hj, e'⟩ := List.getElem?_eq_some_iff.mp h'
  by_cases h1 : i < j
  · exact absurd (e.trans e'.symm) (pw i j hi hj h1)
  · by_cases h2 : j < i
    · exact absurd (e'.trans e.symm) (pw j i hj hi h2)
    · omega
theorem LL.put {H0 H : Hp} {wl : Addr} {as : List Addr} {ws : List (List Nat)} {x : Nat} {a : Addr} {l : List Nat} (h : LL H0 H wl as ws) (ha : as[x]? = some a) : LL H0 (upd H a (lN l)) wl as (ws.set x l) := by
  have hm : a ∈ as := List.mem_of_getElem? ha
  refine ⟨by rw [upd_ne (show wl ≠ a from fun e => h.wa (by rw [e]; exact hm))]; exact h.w, h.wn, h.wa, h.nd, h.an, by rw [List.length_set]; exact h.ln, fun y b m hb hl => ?_⟩
  by_cases e : x = y
  · subst e
    obtain rfl := Option.some.inj (ha.symm.trans hb)
    rw [List.getElem?_set_self (by rw [← h.ln]; exact (List.getElem?_eq_some_iff.mp ha).1)] at hl
    obtain rfl := Option.some.inj hl
    exact upd_same
  · rw [List.getElem?_set_ne e] at hl
    rw [upd_ne (fun z => e (nodup_at h.nd ha (by rw [hb, z])))]
    exact h.it y b m hb hl
theorem LL.keep {H0 H H' : Hp} {wl : Addr} {as : List Addr} {ws : List (List Nat)} (h : LL H0 H wl as ws) (k : ∀ b o, (b = wl ∨ b ∈ as) → H b = some o → H' b = some o) : LL H0 H' wl as ws :=
  ⟨k _ _ (.inl rfl) h.w, h.wn, h.wa, h.nd, h.an, h.ln, fun x a l ha hl => k _ _ (.inr (List.mem_of_getElem? ha)) (h.it x a l ha hl)⟩
theorem LL.same {H0 H H' : Hp} {wl : Addr} {as : List Addr} {ws : List (List Nat)} (h : LL H0 H wl as ws) (s : Same H H') : LL H0 H' wl as ws := h.keep fun b o _ e => s _ _ e
theorem LL.free {H0 H : Hp} {wl D : Addr} {as : List Addr} {ws : List (List Nat)} (h : LL H0 H wl as ws) (hD : H D = none) : D ≠ wl ∧ D ∉ as := by
  refine ⟨(ne_of_none h.w hD).symm, fun hm => ?_⟩
  obtain ⟨x, hx⟩ := List.getElem?_of_mem hm
  have hl : x < ws.length := by
    rw [← h.ln]
    exact (List.getElem?_eq_some_iff.mp hx).1
  have := h.it x D _ hx (List.getElem?_eq_getElem hl)
  rw [hD] at this
  cases this
/-- one more empty list -/
theorem LL.snoc {H0 H : Hp} {wl a : Addr} {as : List Addr} {n : Nat} (h : LL H0 H wl as (List.replicate n [])) (ha : H a = none) (h0 : H0 a = none) : LL H0 (upd (upd H a (lN [])) wl (.lst (as.map V.ref ++ [.ref a]))) wl (as ++ [a]) (List.replicate (n + 1) []) := by
  have naw : a ≠ wl := fun e => by
    have := h.w
    rw [← e, ha] at this
    cases this
  have hna : a ∉ as := fun hm => by
    obtain ⟨x, hx⟩ := List.getElem?_of_mem hm
    have hl : x < n := by
      have := (List.getElem?_eq_some_iff.mp hx).1
      have := h.ln
      rw [List.length_replicate] at this
      omega
    have := h.it x a [] hx (by rw [List.getElem?_replicate, if_pos hl])
    rw [ha] at this
    cases this
  refine ⟨by rw [upd_same, List.map_append]; rfl, h.wn, ?_, ?_, ?_, by rw [List.length_append, h.ln, List.length_replicate, List.length_replicate]; rfl, fun x b l hb hl => ?_⟩
  · rw [List.mem_append, List.mem_singleton]
    rintro (e | e)
    · exact h.wa e
    · exact naw e.symm
  · rw [List.nodup_append]
    exact ⟨h.nd, by simp, fun x hx y hy => by rw [List.mem_singleton.mp hy]; exact fun e => hna (e ▸ hx)⟩
  · intro b hb
    rcases List.mem_append.mp hb with hb | hb
    · exact h.an b hb
    · rw [List.mem_singleton.mp hb]
      exact h0
  · rw [List.getElem?_replicate] at hl
    obtain rfl : [] = l := by
      by_cases e : x < n + 1
      · rw [if_pos e] at hl
        exact Option.some.inj hl
      · rw [if_neg e] at hl
        cases hl
    by_cases hx : x < as.length
    · rw [List.getElem?_append_left hx] at hb
      have hm := List.mem_of_getElem? hb
      have h1 : b ≠ wl := fun e => h.wa (e ▸ hm)
      have h2 : b ≠ a := fun e => hna (e ▸ hm)
      rw [upd_ne h1, upd_ne h2]
      refine h.it x b [] hb ?_
      rw [List.getElem?_replicate, if_pos]
      have := h.ln
      rw [List.length_replicate] at this
      omega
    · have hxl := (List.getElem?_eq_some_iff.mp hb).1
      rw [List.length_append] at hxl
      have : x = as.length := by
        have : x < as.length + 1 := hxl
        omega
      subst this
      rw [List.getElem?_append_right (Nat.le_refl _), Nat.sub_self] at hb
      obtain rfl := Option.some.inj hb
      rw [upd_ne naw, upd_same]
/-! #### where the edges wait -/
def WF (n : Nat) (f : Nat → List Nat) (ws : List (List Nat)) : Prop := ws.length = n ∧ ∀ (x : Nat) (l : List Nat), ws[x]? = some l → ∀ a, l.count a = (f a).count x
theorem WF.step {n i s : Nat} {f : Nat → List Nat} {ws : List (List Nat)} {l : List Nat} (h : WF n f ws) (hl : ws[s]? = some l) : WF n (fun a => if a = i then f a ++ [s] else f a) (ws.set s (l ++ [i])) := by
  refine ⟨by rw [List.length_set]; exact h.1, fun x m hm a => ?_⟩
  by_cases e : s = x
  · subst e
    rw [List.getElem?_set_self (List.getElem?_eq_some_iff.mp hl).1] at hm
    obtain rfl := Option.some.inj hm
    rw [List.count_append, h.2 s l hl a]
    by_cases ea : a = i
    · subst ea
      show _ = (if a = a then f a ++ [s] else f a).count s
      rw [if_pos rfl, List.count_append]
      simp
    · show _ = (if a = i then f a ++ [s] else f a).count s
      rw [if_neg ea]
      have : ([i] : List Nat).count a = 0 := by simp [List.count_cons, show ¬ i = a from fun z => ea z.symm]
      omega
  · rw [List.getElem?_set_ne e] at hm
    rw [h.2 x m hm a]
    by_cases ea : a = i
    · show _ = (if a = i then f a ++ [s] else f a).count x
      rw [if_pos ea, List.count_append]
      have : ([s] : List Nat).count x = 0 := by simp [List.count_cons, e]
      omega
    · show _ = (if a = i then f a ++ [s] else f a).count x
      rw [if_neg ea]
theorem WF.cong {n : Nat} {f g : Nat → List Nat} {ws : List (List Nat)} (h : WF n f ws) (e : ∀ a, f a = g a) : WF n g ws := by
  have : f = g := funext e
  rw [← this]
  exact h
theorem WF.nil {n : Nat} {f : Nat → List Nat} (h : ∀ a, f a = []) : WF n f (List.replicate n []) := by
  refine ⟨List.length_replicate, fun x l hl a => ?_⟩
  rw [List.getElem?_replicate] at hl
  split at hl
  · obtain rfl := Option.some.inj hl
    rw [h a] <;> rfl
  · cases hl
def nds (es : List GE) (a : Nat) : List Nat := ((es[a]?).map needs).getD []
def upN (g : Nat → List Nat) (i j a : Nat) : List Nat := if a < i then g a else if a = i then (g i).take j else []
theorem upN_step {g : Nat → List Nat} {i j s : Nat} (h : (g i)[j]? = some s) (a : Nat) : (if a = i then upN g i j a ++ [s] else upN g i j a) = upN g i (j + 1) a := by
  unfold upN
  by_cases e : a = i
  · subst e
    rw [if_pos rfl, if_neg (Nat.lt_irrefl _), if_neg (Nat.lt_irrefl _), if_pos rfl, if_pos rfl, List.take_succ, h]
    rfl
  · rw [if_neg e]
    by_cases l : a < i
    · rw [if_pos l, if_pos l]
    · rw [if_neg l, if_neg l, if_neg e, if_neg e]
theorem upN_next {g : Nat → List Nat} {i : Nat} (a : Nat) : upN g i (g i).length a = upN g (i + 1) 0 a := by
  unfold upN
  by_cases e : a = i
  · subst e
    rw [if_neg (Nat.lt_irrefl _), if_pos rfl, if_pos (Nat.lt_succ_self _), List.take_length]
  · by_cases l : a < i
    · rw [if_pos l, if_pos (by omega)]
    · rw [if_neg l, if_neg e, if_neg (by omega)]
      split <;> rfl
theorem upN_zero {g : Nat → List Nat} (a : Nat) : upN g 0 0 a = [] := by
  unfold upN
  rw [if_neg (Nat.not_lt_zero _)]
  split <;> rfl
theorem upN_all {es : List GE} (a : Nat) : upN (nds es) es.length 0 a = nds es a := by
  unfold upN
  by_cases l : a < es.length
  · rw [if_pos l]
  · rw [if_neg l]
    have : nds es a = [] := by
      unfold nds
      rw [List.getElem?_eq_none (by omega)]
      rfl
    rw [this]
    split <;> rfl
theorem WF.done {n : Nat} {es : List GE} {ws : List (List Nat)} (h : WF n (nds es) ws) : WOk n es ws := by
  refine ⟨h.1, fun x l hl => ⟨fun a ha => ?_, fun a e he => ?_⟩⟩
  · have h1 := h.2 x l hl a
    have h2 : 0 < l.count a := List.count_pos_iff.mpr ha
    by_cases q : a < es.length
    · exact q
    · have : nds es a = [] := by
        unfold nds
        rw [List.getElem?_eq_none (by omega)]
        rfl
      rw [this] at h1
      have h1 : l.count a = 0 := h1
      omega
  · rw [h.2 x l hl a]
    unfold nds
    rw [he]
    rfl
theorem ms_begin {es : List GE} : MsF es [] [] (es.map fun e => ((needs e).length : Int)) := by
  refine ⟨List.length_map .., fun a e he => ?_⟩
  rw [List.getElem?_map, he]
  show some _ = some _
  congr 1
  have h1 : dn [] e = 0 := by
    unfold dn
    rw [List.countP_eq_zero]
    intro y _
    simp
  rw [h1]
  show ((needs e).length : Int) = ((needs e).length : Int) - ((0 : Nat) : Int) - ((0 : Nat) : Int)
  omega
theorem ms_begin0 {es : List GE} {O : List Nat} : CmF es O (es.map fun e => ((needs e).length : Int)) := fun a e he h => by
  rw [List.getElem?_map, he] at h
  have h : ((needs e).length : Int) = 0 := Option.some.inj h
  have := List.length_pos_iff.mpr (needs_ne e)
  omega
theorem ms_end {n f : Nat} {es : List GE} {ws : List (List Nat)} {P w : List Nat} {ms : List Int} (hw : WOk n es ws) (hf : ws[f]? = some w) (hfP : f ∉ P) (h : MsF es P w ms) : MsF es (P ++ [f]) [] ms := by
  refine ⟨h.1, fun a e he => ?_⟩
  rw [h.2 a e he, dn_snoc hfP, (hw.2 f w hf).2 a e he]
  congr 1
  show _ = _ - _ - ((0 : Nat) : Int)
  omega
theorem fin_step {n j a f : Nat} {es : List GE} {ends O P w : List Nat} {ws : List (List Nat)} {ch : List (Option Nat)} {ms : List Int} {e : GE} {m : Int} (I : FinI n es ends O ch) (hw : WOk n es ws) (hf : ws[f]? = some w) (hfP : f ∉ P) (hP : ∀ y ∈ P ++ [f], y ∈ O)
    (M : MsF es P (w.take j) ms) (C : CmF es O ms) (hj : w[j]? = some a) (he : es[a]? = some e) (hm : ms[a]? = some m) (hs : e.s < n) (hne : e.s ∉ ends) :
    MsF es P (w.take (j + 1)) (ms.set a (m - 1)) ∧ (m - 1 = 0 → ch[e.s]? = some none → FinI n es ends (O ++ [e.s]) (ch.set e.s (some a)) ∧ CmF es (O ++ [e.s]) (ms.set a (m - 1))) ∧
    (¬ (m - 1 = 0 ∧ ch[e.s]? = some none) → CmF es O (ms.set a (m - 1))) := by
  have M' := ms_step M hj he hm
  have hal := (List.getElem?_eq_some_iff.mp hm).1
  have oth : ∀ {b : Nat} {g : GE} {O' : List Nat}, b ≠ a → es[b]? = some g → (∀ x ∈ O, x ∈ O') → (ms.set a (m - 1))[b]? = some 0 → g.s ∈ O' := fun {b g O'} hb hg hO h => by
    rw [List.getElem?_set_ne (Ne.symm hb)] at h
    exact hO _ (C b g hg h)
  refine ⟨M', fun h0 hc => ⟨I.add he hs hne hc fun y hy => ?_, fun b g hg h => ?_⟩, fun hn b g hg h => ?_⟩
  · refine hP y (ms_zero hw hf hfP M' he ?_ y hy)
    rw [List.getElem?_set_self hal, h0]
  · by_cases hb : b = a
    · subst hb
      obtain rfl := Option.some.inj (he.symm.trans hg)
      exact List.mem_append_right _ (List.mem_singleton.mpr rfl)
    · exact oth hb hg (fun x hx => List.mem_append_left _ hx) h
  · by_cases hb : b = a
    · subst hb
      obtain rfl := Option.some.inj (he.symm.trans hg)
      rw [List.getElem?_set_self hal] at h
      have h := Option.some.inj h
      have hcl : e.s < ch.length := by rw [I.cl]; exact hs
      have hcs : ch[e.s]? = some (ch[e.s]'hcl) := List.getElem?_eq_getElem hcl
      cases hcx : ch[e.s]'hcl with
      | none => exact absurd ⟨h, by rw [hcs, hcx]⟩ hn
      | some b2 => exact I.mem _ b2 (by rw [hcs, hcx])
    · exact oth hb hg (fun x hx => hx) h
theorem fin_begin {n : Nat} {es : List GE} {ends : List Nat} (nd : ends.Nodup) (hl : ∀ x ∈ ends, x < n) : FinI n es ends ends (List.replicate n none) := by
  refine ⟨nd, hl, List.length_replicate, fun x h => h, fun x h => by rw [List.getElem?_replicate, if_pos (hl x h)], fun x a h => ?_, fun i x h => .inl (List.mem_of_getElem? h)⟩
  rw [List.getElem?_replicate] at h
  split at h <;> cases h
/-! #### webs -/
section
variable {W : Web}
theorem sp_lt {a : Nat} {p : Int} (h : Pl W a p) : spN W a p < stN W.ns W.ns.length := by
  have h1 := h.lt
  obtain ⟨nt, h2, _⟩ := h
  have h3 := (List.getElem?_eq_some_iff.mp h2).1
  have := st_mono (ns := W.ns) (show a + 1 ≤ W.ns.length by omega)
  omega
theorem geX_mem {y : Nat × Nat × Ed} (h : y ∈ exOf W) : ∃ nt, W.ns[y.1]? = some nt ∧ y.2.2 ∈ nt.2 ∧ y.1 < W.ns.length := by
  obtain ⟨nt, h1, h2, h3⟩ := ex_mem h
  exact ⟨nt, h2, List.mem_of_getElem? h3, h1⟩
theorem needs_lt (o : OkW W) {y : Nat × Nat × Ed} (h : y ∈ exOf W) : ∀ x ∈ needs (geX W y), x < stN W.ns W.ns.length := by
  obtain ⟨nt, h1, h2, _⟩ := geX_mem h
  intro x hx
  rcases List.mem_cons.mp (show x ∈ spN W y.1 y.2.2.t :: (y.2.2.c.map fun c => stN W.ns c.toNat).toList from hx) with rfl | hx
  · exact sp_lt (pl_t o h1 h2)
  · cases hce : y.2.2.c with
    | none => rw [hce] at hx; cases hx
    | some c =>
      rw [hce] at hx
      rw [List.mem_singleton.mp hx]
      exact sp_lt (pl_c o h1 h2 hce)
theorem s_lt (o : OkW W) {y : Nat × Nat × Ed} (h : y ∈ exOf W) : (geX W y).s < stN W.ns W.ns.length := by
  obtain ⟨nt, h1, h2, _⟩ := geX_mem h
  exact sp_lt (pl_p o h1 h2)
theorem s_end (o : OkW W) {y : Nat × Nat × Ed} (h : y ∈ exOf W) : (geX W y).s ∉ endsOf W := fun hm => by
  obtain ⟨nt, h1, h2, _⟩ := geX_mem h
  obtain ⟨b, nt', hb, e⟩ := (ends_mem o).mp hm
  obtain ⟨rfl, e2⟩ := sp_inj (pl_p o h1 h2) (pl_end o hb) e
  obtain rfl := Option.some.inj (h1.symm.trans hb)
  have := (o.ed nt (List.mem_of_getElem? h1) _ h2).p
  omega
theorem ends_lt (o : OkW W) : ∀ x ∈ endsOf W, x < stN W.ns W.ns.length := fun x hx => by
  obtain ⟨a, nt, h, rfl⟩ := (ends_mem o).mp hx
  exact sp_lt (pl_end o h)
theorem ends_nd (o : OkW W) : (endsOf W).Nodup := by
  unfold endsOf
  rw [List.nodup_iff_pairwise_ne, List.pairwise_map]
  refine List.Pairwise.imp_of_mem ?_ (List.nodup_iff_pairwise_ne.mp List.nodup_range)
  intro a b ha hb hab e
  have pe : ∀ {c : Nat}, c ∈ List.range W.ns.length → ∃ nt, W.ns[c]? = some nt ∧ stN W.ns (c + 1) - 1 = spN W c (nt.1 - 1) := fun {c} hc => by
    have hn : W.ns[c]? = some (W.ns[c]'(List.mem_range.mp hc)) := List.getElem?_eq_getElem _
    refine ⟨_, hn, ?_⟩
    have := o.pos _ (List.mem_of_getElem? hn)
    unfold spN
    rw [st_succ hn]
    omega
  obtain ⟨nt, h1, e1⟩ := pe ha
  obtain ⟨nt', h2, e2⟩ := pe hb
  rw [e1, e2] at e
  exact hab (sp_inj (pl_end o h1) (pl_end o h2) e).1
theorem st_le (o : OkW W) : stN W.ns W.ns.length ≤ 4000 := by
  rw [st_all]
  have h1 := o.sp
  have : (((W.ns.map fun n => n.1.toNat).sum : Nat) : Int) = (W.ns.map (·.1)).sum := by
    have go : ∀ l : List (Int × List Ed), (∀ n ∈ l, 1 ≤ n.1) → (((l.map fun n => n.1.toNat).sum : Nat) : Int) = (l.map (·.1)).sum := by
      intro l
      induction l with
      | nil => intro _; rfl
      | cons n l ih =>
        intro h
        have h1 := h n List.mem_cons_self
        have h2 := ih fun m hm => h m (List.mem_cons_of_mem _ hm)
        rw [List.map_cons, List.map_cons, List.sum_cons, List.sum_cons]
        omega
    exact go _ o.pos
  omega
theorem ges_len (o : OkW W) : (gesOf W).length ≤ 8000 := by
  have h1 := o.se
  have : ((gesOf W).length : Int) = (W.ns.map fun n => (n.2.length : Int)).sum := by
    have go : ∀ i, i ≤ W.ns.length → ((gesUp W i).length : Int) = ((W.ns.take i).map fun n => (n.2.length : Int)).sum := by
      intro i
      induction i with
      | zero => intro _; rfl
      | succ i ih =>
        intro hi
        have hn : W.ns[i]? = some (W.ns[i]'(by omega)) := List.getElem?_eq_getElem _
        have e1 : gesUp W (i + 1) = gesUp W i ++ (edsN W i).map (geOf W i) := by
          unfold gesUp
          rw [List.range_succ, List.map_append, List.flatten_append]
          simp
        have e2 : edsN W i = (W.ns[i]'(by omega)).2 := by
          unfold edsN
          rw [hn]
          rfl
        rw [e1, List.length_append, List.length_map, e2, List.take_succ, hn, List.map_append, List.sum_append, ← ih (by omega)]
        simp
    have := go W.ns.length (Nat.le_refl _)
    rw [List.take_length] at this
    exact this
  omega
theorem ex_len : (exOf W).length = (gesOf W).length := by
  have := congrArg List.length (ex_ges W W.ns.length)
  rw [List.length_map] at this
  exact this
end
end K65

set_option Elab.async false
set_option linter.all false
set_option pp.maxSteps 900
set_option maxRecDepth 100000
set_option maxHeartbeats 4000000
namespace K65
open PySem PySem.Spec PyProof.Rows L2
open TL (tl)
/-- only p and cl are written -/
def Fr (p cl : Addr) (H H' : Hp) : Prop := ∀ b o, H b = some o → b ≠ p → b ≠ cl → H' b = some o
theorem Fr.of {p cl : Addr} {H H' : Hp} (s : Same H H') : Fr p cl H H' := fun b o e _ _ => s b o e
theorem Fr.trans {p cl : Addr} {H H' H'' : Hp} (a : Fr p cl H H') (b : Same H' H'') : Fr p cl H H'' := fun c o e h1 h2 => b _ _ (a c o e h1 h2)
theorem no_of {H H' : Hp} {a : Addr} (s : Same H H') (h : H' a = none) : H a = none := by
  cases e : H a with
  | none => rfl
  | some o => rw [s _ _ e] at h; cases h
theorem Fr.kx {C CE p cl dx : Addr} {H H' : Hp} {fs : List (Str × V)} {l : List V} (f : Fr p cl H H') (hp : H p = some (.ins C dx fs)) (hc : H cl = some (.lst l)) (n : C ≠ CE) : Kx CE H H' := by
  refine ⟨fun b xs e => f b _ e ?_ ?_, fun b dx' fs' e => f b _ e ?_ ?_⟩
  · rintro rfl
    rw [hp] at e
    cases e
  · rintro rfl
    rw [hc] at e
    cases e
  · rintro rfl
    rw [hp] at e
    injection e with e
    injection e with e
    exact n e
  · rintro rfl
    rw [hc] at e
    cases e
/-- a chart, as far as finish wants it -/
structure ChB (H : Hp) (C CE : Addr) (W : Web) (p dx cl el dl : Addr) (xs : List V) (fs : List (Str × V)) : Prop where
  hp : H p = some (.ins C dx fs)
  sc : fs.lookup ("spot_count" : Str) = some (.int (stN W.ns W.ns.length : Nat))
  ed : fs.lookup ("edges" : Str) = some (.ref el)
  en : fs.lookup ("ends" : Str) = some (.ref dl)
  ch : fs.lookup ("choice" : Str) = some (.ref cl)
  he : H el = some (.lst xs)
  hx : EdL CE H W xs (exOf W)
  hd : H dl = some (lN (endsOf W))
  ec : el ≠ cl
  dc : dl ≠ cl
  ep : C ≠ CE
  ln : fs.length < 900
def spFi (C CE : Addr) : Sp := fun vs H Q _ => ∃ (p dx cl el dl : Addr) (xs : List V) (fs : List (Str × V)) (W : Web), vs = [.ref p] ∧ ChB H C CE W p dx cl el dl xs fs ∧ OkW W ∧ H cl = some (.lst ((List.replicate (stN W.ns W.ns.length) none).map oN)) ∧
  ∀ (H' : Hp) (ol : Addr) (O : List Nat) (ch : List (Option Nat)), Fr p cl H H' → H ol = none → H' ol = some (lN O) → H' cl = some (.lst (ch.map oN)) → H' p = some (.ins C dx (putF "order" (.ref ol) fs)) →
    FinI (stN W.ns W.ns.length) (gesOf W) (endsOf W) O ch → (∀ x, x ∈ O ↔ Fn (gesOf W) (endsOf W) x) → Q .non H'
theorem ixN_at {n j : Nat} (hj : j < n) : ixN n (j : Int) = some j := by
  unfold ixN
  rw [if_pos (Int.natCast_nonneg _), if_pos (by omega), Int.toNat_natCast]
theorem set_map {α β : Type} (f : α → β) (l : List α) (j : Nat) (x : α) : (l.map f).set j (f x) = (l.set j x).map f := List.map_set.symm
structure FiD (H : Hp) (C p dx cl wl ml ol : Addr) (as : List Addr) (fs : List (Str × V)) (l : List V) : Prop where
  hp : H p = some (.ins C dx fs)
  hc : H cl = some (.lst l)
  nw : H wl = none
  na : ∀ a ∈ as, H a = none
  nm : H ml = none
  no : H ol = none
  mw : ml ≠ wl
  ma : ml ∉ as
  ow : ol ≠ wl
  oa : ol ∉ as
  om : ol ≠ ml
structure FiH (H H' : Hp) (C p dx cl wl ml ol : Addr) (as : List Addr) (ws : List (List Nat)) (fs : List (Str × V)) (O : List Nat) (ch : List (Option Nat)) (ms : List Int) : Prop where
  fr : Fr p cl H H'
  ll : LL H H' wl as ws
  em : H' ml = some (.lst (ms.map V.int))
  eo : H' ol = some (lN O)
  ec : H' cl = some (.lst (ch.map oN))
  ep : H' p = some (.ins C dx fs)
section
variable {H H' : Hp} {C p dx cl wl ml ol : Addr} {as : List Addr} {ws : List (List Nat)} {fs fs0 : List (Str × V)} {l : List V} {O O' : List Nat} {ch ch' : List (Option Nat)} {ms ms' : List Int}
theorem FiH.putM (h : FiH H H' C p dx cl wl ml ol as ws fs O ch ms) (D : FiD H C p dx cl wl ml ol as fs0 l) : FiH H (upd H' ml (.lst (ms'.map V.int))) C p dx cl wl ml ol as ws fs O ch ms' := by
  refine ⟨fun b o e h1 h2 => ?_, h.ll.keep fun b o hb e => ?_, upd_same, ?_, ?_, ?_⟩
  · rw [upd_ne (ne_of_none e D.nm)]
    exact h.fr b o e h1 h2
  · rw [upd_ne (by rintro rfl; rcases hb with hb | hb; exact D.mw hb; exact D.ma hb)]
    exact e
  · rw [upd_ne D.om]
    exact h.eo
  · rw [upd_ne (ne_of_none D.hc D.nm)]
    exact h.ec
  · rw [upd_ne (ne_of_none D.hp D.nm)]
    exact h.ep
theorem FiH.putO (h : FiH H H' C p dx cl wl ml ol as ws fs O ch ms) (D : FiD H C p dx cl wl ml ol as fs0 l) : FiH H (upd H' ol (lN O')) C p dx cl wl ml ol as ws fs O' ch ms := by
  refine ⟨fun b o e h1 h2 => ?_, h.ll.keep fun b o hb e => ?_, ?_, upd_same, ?_, ?_⟩
  · rw [upd_ne (ne_of_none e D.no)]
    exact h.fr b o e h1 h2
  · rw [upd_ne (by rintro rfl; rcases hb with hb | hb; exact D.ow hb; exact D.oa hb)]
    exact e
  · rw [upd_ne D.om.symm]
    exact h.em
  · rw [upd_ne (ne_of_none D.hc D.no)]
    exact h.ec
  · rw [upd_ne (ne_of_none D.hp D.no)]
    exact h.ep
theorem FiH.putC (h : FiH H H' C p dx cl wl ml ol as ws fs O ch ms) (D : FiD H C p dx cl wl ml ol as fs0 l) : FiH H (upd H' cl (.lst (ch'.map oN))) C p dx cl wl ml ol as ws fs O ch' ms := by
  refine ⟨fun b o e h1 h2 => ?_, h.ll.keep fun b o hb e => ?_, ?_, ?_, upd_same, ?_⟩
  · rw [upd_ne h2]
    exact h.fr b o e h1 h2
  · rw [upd_ne]
    · exact e
    · rintro rfl
      rcases hb with rfl | hb
      · exact absurd D.hc (by rw [D.nw]; intro z; cases z)
      · exact absurd D.hc (by rw [D.na _ hb]; intro z; cases z)
  · rw [upd_ne (ne_of_none D.hc D.nm).symm]
    exact h.em
  · rw [upd_ne (ne_of_none D.hc D.no).symm]
    exact h.eo
  · rw [upd_ne]
    · exact h.ep
    · rintro rfl
      exact absurd D.hc (by rw [D.hp]; intro z; cases z)
end
section
variable {X : Cx}
theorem get_pos : PGet X (fun o i H Q => ∃ (p : Addr) (xs : List V) (k : Int) (z : V), o = .ref p ∧ i = .int k ∧ 0 ≤ k ∧ SqL X.K H p xs ∧ atI xs k = some z ∧ Q z H) := by
  intro pins s σ H o i ov iv Q I ro ri h
  obtain ⟨p, xs, k, z, rfl, rfl, h0, hq, he, q⟩ := h
  cases ro
  obtain ⟨t, rfl⟩ := ri
  obtain ⟨its, r, pl, hz⟩ := I.list hq
  obtain ⟨j, h1, h2, h3, h4, h5⟩ := atI_get he
  obtain ⟨w, ew, rw'⟩ := r.get h2
  have hl := r.length
  have hn := line63
  have hj : k.toNat = j := by
    rw [seqIndex_of h0 h5] at h1
    exact Option.some.inj h1
  exact wpAny_getItem_list pl.isList h0 (by omega) (by rw [hj]; simpa using ew) ⟨z, H, I, rw', q⟩
end
section
variable {P : Program} {w : World} {K : PySem.W.Frag} {mg : Str → Option Value} {base : Heap}
theorem scFi : FnScope ["self", "waits", "missing", "at", "edge", "spot", "done", "finished", "_"] ["self"] (defScope sFi) := ⟨rfl, rfl, rfl, by decide +kernel, rfl, by decide +kernel, by decide +kernel⟩
theorem ok_fi {f C CE fIU fIF fIO fFi fRe fSN : Addr} {fd fdSN : FuncData} (F : Fun K "finish" "Chart.finish" sFi f fd) (T : Bn mg) (CC : ChK K C fIU fIF fIO fFi fRe) (EE : ClA K CE eNames) (mSN : Meth K CE "spots_needed" fSN)
    (GSN : FnOk P w K mg base CX0 1 fSN fdSN ["self"] (spSN CE)) (bSN : L2.Binds K fdSN ["self"] []) : FnOk P w K mg base CX0 2 f fd ["self"] (spFi C CE) := by
  refine F.ok scFi (fun vs H Q E h => ?_) (fun cdv A outer s H vs Q E hr h => ?_)
  · obtain ⟨a1, a2, a3, a4, a5, a6, a7, a8, rfl, _⟩ := h
    rfl
  · obtain ⟨p, dx, cl, el, dl, xs, fs, W, rfl, B, okw, hcl, kq⟩ := h
    have na := fun (f : Str) (h : f ∈ cNames) => CC.a.na f h
    have hn := st_le okw
    have hgl := ges_len okw
    have hxl : xs.length = (gesOf W).length := B.hx.1.trans ex_len
    refine ⟨_, (pss_cons (ps_setLc (i := 1) (own := [("_", 8)]) (g := gName 8) (tt := tYes) (by rfl) scFi.nd rfl rfl (sw_true rfl rfl rfl (by decide +kernel)) (pi_range1 (by rfl) T.rng (pa_cons (pe_fld (pv 0) rfl) pa_nil)) (blkOk_by (own := [("_", 8)]) (N := ["self", "waits", "missing", "at", "edge", "spot", "done", "finished", "_"]) (sc := defScope sFi) (by decide +kernel)) (fun _ _ _ _ _ => (pg_name (i := 8) scFi.nd rfl (Or.inl rfl))) (fun _ _ _ _ _ => pts_nil) (fun _ _ _ _ _ => (pe_lst pa_nil)))
      (pss_cons (ps_set (i := 2) scFi.nd rfl (Or.inl rfl) (pe_lst pa_nil))
      (pss_cons (ps_for PassesOwn.never rfl (pi_enum (by rfl) T.enu (pa_cons (pe_fld (pv 0) rfl) pa_nil)) (pg_tup (by rfl) (pgs_cons (pg_name (i := 3) scFi.nd rfl (Or.inl rfl)) (pgs_cons (pg_name (i := 4) scFi.nd rfl (Or.inl rfl)) pgs_nil)))
          (pss_cons (ps_expr (qApp (pv 2) (pe_callB call_len_seq (by rfl) T.len PySem.boot_len (pa_cons (pe_meth0 (pv 4) EE.cl mSN GSN hr bSN .nil pass0) pa_nil))))
          (pss_one (ps_for PassesOwn.never rfl (pi_list (pe_meth0 (pv 4) EE.cl mSN GSN hr bSN .nil pass0)) (pg_name (i := 5) scFi.nd rfl (Or.inl rfl))
              (pss_one (ps_expr (qApp (pe_ix ix_list (pv 1) (pv 5) (fun _ _ => rfl)) (pv 3))))))))
      (pss_cons (ps_fld (pv 0) (pe_callTy call_list_of (by rfl) T.lst (by decide +kernel) (pa_cons (pe_fld (pv 0) rfl) pa_nil)) rfl)
      (pss_cons (ps_set (i := 6) scFi.nd rfl (Or.inl rfl) pe_int)
      (pss_one (ps_while PassesOwn.never (pt_cmpR op_lt (pv 6) (pe_callB call_len_seq (by rfl) T.len PySem.boot_len (pa_cons (pe_fld (pv 0) rfl) pa_nil)) (nomark _))
          (pss_cons (ps_set (i := 7) scFi.nd rfl (Or.inl rfl) (pe_ix ix_list (pe_fld (pv 0) rfl) (pv 6) (fun _ _ => rfl)))
          (pss_cons (ps_for PassesOwn.never rfl (pi_list (pe_ix ix_list (pv 1) (pv 7) (fun _ _ => rfl))) (pg_name (i := 3) scFi.nd rfl (Or.inl rfl))
              (pss_cons (ps_augS (pv 2) (pv 3) get_pos pe_int ip_sub set_list)
              (pss_cons (ps_set (i := 5) scFi.nd rfl (Or.inl rfl) (pe_fld (pe_ix ix_list (pe_fld (pv 0) rfl) (pv 3) (fun _ _ => rfl)) rfl))
              (pss_one (ps_if (PW.pt (pw_and (pt_cmpR op_eq (pe_ix ix_list (pv 2) (pv 3) (fun _ _ => rfl)) pe_int (nomark _)) (pw_and1 (pt_cmpR op_isN (pe_ix ix_list (pe_fld (pv 0) rfl) (pv 5) (fun _ _ => rfl)) pe_non (nomark _))))) (pss_cons (ps_asg (pv 3) (pg_sub (pe_fld (pv 0) rfl) (pv 5) set_list))
                  (pss_one (ps_expr (qApp (pe_fld (pv 0) rfl) (pv 5))))) pss_nil)))))
          (pss_one (ps_aug (i := 6) scFi.nd rfl (Or.inl rfl) pe_int ip_add))))))))))), ?_⟩
    -- waits
    refine ⟨_, rfl, p, C, dx, fs, _, rfl, B.hp, CC.a.cl, na "spot_count" (by decide +kernel), B.sc, _, rfl, by omega, by omega, fun wl hwl => ?_⟩
    rw [Int.toNat_natCast]
    refine lc_it (walk_range (lo := 0) (n := stN W.ns W.ns.length)) (fun i H' => ∃ as, LL H H' wl as (List.replicate i []) ∧ Same H H') ⟨[], ⟨upd_same, hwl, by simp, List.nodup_nil, (fun a h => by cases h), rfl, fun x a l h => by cases h⟩, same_new hwl⟩ (fun _ _ _ _ => trivial) ?_ ?_
    · rintro i x H2 H2z hi ⟨as, L, s2⟩ ⟨rfl, rfl⟩
      refine ⟨(by rfl), Nat.zero_le _, fun t ht => ⟨as.map V.ref, ?_, ?_, as ++ [t], L.snoc ht (no_of s2 ht), ?_⟩⟩
      · rw [upd_ne (ne_of_none L.w ht)]
        exact L.w
      · rw [List.length_map, L.ln, List.length_replicate, sizeLine_eq]
        omega
      · intro b o eb
        rw [upd_ne (ne_of_none eb hwl), upd_ne (ne_of_none (s2 _ _ eb) ht)]
        exact s2 _ _ eb
    rintro H1 ⟨as, L1, s1⟩
    refine ⟨Nat.zero_le _, fun ml hml => ?_⟩
    generalize hH2 : upd H1 ml _ = H2
    obtain ⟨sml, eml⟩ := freshF hml hH2
    have L2 := L1.same sml
    have hml0 := no_of s1 hml
    have s2 := s1.trans sml
    obtain ⟨hmw, hma⟩ := L1.free hml
    refine ⟨_, rfl, p, C, dx, fs, _, rfl, s2 _ _ B.hp, CC.a.cl, na "edges" (by decide +kernel), B.ed, el, xs, rfl, SqL.of (s2 _ _ B.he), ?_⟩
    refine for_it (walk_enum (K := K) (a := el) (xs := xs)) (fun i σ H' => ∃ (ws : List (List Nat)) (v3 v4 v5 v6 v7 v8 : Option V), σ = [some (.ref p), some (.ref wl), some (.ref ml), v3, v4, v5, v6, v7, v8] ∧ Same H H' ∧ LL H H' wl as ws ∧ WF (stN W.ns W.ns.length) (upN (nds (gesOf W)) i 0) ws ∧ (∀ l ∈ ws, l.length ≤ 2 * i) ∧ H' ml = some (.lst ((((gesOf W).take i).map fun e => ((needs e).length : Int)).map V.int)))
      ⟨List.replicate (stN W.ns W.ns.length) [], _, _, _, _, _, _, rfl, s2, L2, WF.nil upN_zero, (fun l hl => by rw [(List.mem_replicate.mp hl).2]; exact Nat.zero_le _), eml⟩ (fun i σ H' _ ⟨_, _, _, _, _, _, _, _, s, _⟩ => SqL.of (s _ _ B.he)) ?_ ?_
    · rintro i x σ H3 H3z hi ⟨ws, v3, v4, v5, v6, v7, v8, rfl, s3, L3, wf3, wl3, em3⟩ ⟨T0, x', y, rfl, hT, hH3, hx, hy⟩
      obtain rfl := Option.some.inj hx
      obtain ⟨sT, eT⟩ := freshF hT hH3.symm
      have hil : i < (exOf W).length := by rw [← B.hx.1]; exact hi
      obtain ⟨q, hq, ⟨dq, fq, hq1, hq2⟩⟩ := B.hx.2 i _ (List.getElem?_eq_getElem hil)
      obtain rfl := Option.some.inj (hq.symm.trans hy)
      have hge := ex_ge (List.getElem?_eq_getElem hil)
      generalize hye : (exOf W)[i] = ye at hge hq2
      have hym : ye ∈ exOf W := by rw [← hye]; exact List.getElem_mem hil
      have s3z := s3.trans sT
      have eob : ∀ {H'}, Same H H' → EOb CE H' W q ye.1 ye.2.1 ye.2.2 := fun {H'} s => EOb.kx ⟨dq, fq, hq1, hq2⟩ (Kx.of s)
      have nl : (needs (geX W ye)).length ≤ 2 := by
        unfold needs
        cases (geX W ye).c <;> simp
      have hnds : nds (gesOf W) i = needs (geX W ye) := by
        unfold nds
        rw [hge]
        rfl
      refine ⟨T0, _, rfl, SqT.of eT, (by rfl), _, _, rfl, _, _, rfl, rfl, ?_⟩
      refine ⟨_, rfl, .inl ⟨rfl, _, SqL.of (sT _ _ em3)⟩, _, rfl, q, dq, fq, rfl, s3z _ _ hq1, hq2.no, q, W, ye.1, ye.2.1, ye.2.2, rfl, eob s3z, fun D H4 s4 hD eD => ⟨D, _, rfl, .inl (SqL.of eD), ?_⟩⟩
      refine ⟨ml, _, _, rfl, rfl, s4 _ _ (sT _ _ em3), ?_, ?_⟩
      · rw [List.length_map, List.length_map, List.length_take, sizeLine_eq]
        omega
      have s04 := s3z.trans s4
      have L4 := L3.same (sT.trans s4)
      have em5 : (upd H4 ml (.lst ((((gesOf W).take i).map fun e => ((needs e).length : Int)).map V.int ++ [.int ((((needs (geOf W ye.1 ye.2.2)).map fun n => V.int (n : Nat)).length : Nat) : Int)]))) ml = some (.lst ((((gesOf W).take (i + 1)).map fun e => ((needs e).length : Int)).map V.int)) := by
        rw [upd_same, List.take_succ, hge, List.map_append, List.map_append, List.length_map]
        rfl
      have s05 : Same H (upd H4 ml (.lst ((((gesOf W).take i).map fun e => ((needs e).length : Int)).map V.int ++ [.int ((((needs (geOf W ye.1 ye.2.2)).map fun n => V.int (n : Nat)).length : Nat) : Int)]))) := fun b o eb => by
        rw [upd_ne (ne_of_none eb hml0)]
        exact s04 _ _ eb
      have L5 : LL H (upd H4 ml (.lst ((((gesOf W).take i).map fun e => ((needs e).length : Int)).map V.int ++ [.int ((((needs (geOf W ye.1 ye.2.2)).map fun n => V.int (n : Nat)).length : Nat) : Int)]))) wl as ws := L4.keep fun b o h eb => by
        rw [upd_ne (by rintro rfl; rcases h with h | h; exact hmw h; exact hma h)]
        exact eb
      generalize upd H4 ml _ = H5 at em5 s05 L5 ⊢
      refine ⟨_, rfl, q, dq, fq, rfl, s05 _ _ hq1, hq2.no, q, W, ye.1, ye.2.1, ye.2.2, rfl, eob s05, fun D2 H6 s6 hD2 eD2 => ⟨D2, rfl, ⟨_, SqL.of eD2⟩, ?_⟩⟩
      refine for_it (walk_list (K := K) (a := D2) (xs := (needs (geX W ye)).map fun n => V.int (n : Nat))) (fun j σ H' => ∃ (ws : List (List Nat)) (v5 : Option V), σ = [some (.ref p), some (.ref wl), some (.ref ml), some (.int (i : Nat)), some (.ref q), v5, v6, v7, v8] ∧ Same H H' ∧ H' D2 = some (.lst ((needs (geX W ye)).map fun n => V.int (n : Nat))) ∧ LL H H' wl as ws ∧ WF (stN W.ns W.ns.length) (upN (nds (gesOf W)) i j) ws ∧ (∀ l ∈ ws, l.length ≤ 2 * i + j) ∧ H' ml = some (.lst ((((gesOf W).take (i + 1)).map fun e => ((needs e).length : Int)).map V.int)))
        ⟨ws, _, rfl, s05.trans s6, eD2, L5.same s6, wf3, wl3, s6 _ _ em5⟩ (fun j σ H' _ ⟨_, _, _, _, h, _⟩ => SqL.of h) ?_ ?_
      rotate_left
      · rintro σ H' ⟨ws, v5, rfl, s7, eD, L7, wf7, wl7, em7⟩
        rw [List.length_map] at wf7 wl7
        refine ⟨ws, _, _, _, _, _, _, rfl, s7, L7, wf7.cong fun a => ?_, fun l hl => ?_, em7⟩
        · rw [← upN_next, hnds]
        · have := wl7 l hl
          omega
      obtain ⟨hD2w, hD2a⟩ := L5.free hD2
      clear wf3 wl3 L3 L4 L5 em5 eD2 s6 s05 v5
      rintro j x σ H7 H7z hj ⟨ws, v5, rfl, s7, eD7, L7, wf7, wl7, em7⟩ ⟨rfl, hx⟩
      rw [List.length_map] at hj
      rw [List.getElem?_map] at hx
      cases hz : (needs (geX W ye))[j]? with
      | none => rw [hz] at hx; cases hx
      | some z =>
      rw [hz] at hx
      obtain rfl := Option.some.inj hx
      have hzl := needs_lt okw hym z (List.mem_of_getElem? hz)
      have hwsz : ws[z]? = some (ws[z]'(by rw [wf7.1]; exact hzl)) := List.getElem?_eq_getElem _
      have hasz : as[z]? = some (as[z]'(by rw [L7.ln, wf7.1]; exact hzl)) := List.getElem?_eq_getElem _
      generalize ws[z]'_ = l at hwsz
      generalize as[z]'_ = a at hasz
      have hel := L7.it z a l hasz hwsz
      have hll := wl7 l (List.mem_of_getElem? hwsz)
      have ham := List.mem_of_getElem? hasz
      refine ⟨_, rfl, _, rfl, wl, _, (z : Nat), .ref a, rfl, rfl, SqL.of L7.w, atI_nat (by rw [List.getElem?_map, hasz]; rfl), .inl ⟨rfl, _, SqL.of hel⟩, _, rfl, a, _, _, rfl, rfl, hel, ?_, ?_⟩
      · rw [List.length_map, sizeLine_eq]
        omega
      have eL : (HO.lst (l.map (fun n => V.int (n : Nat)) ++ [V.int (i : Nat)])) = lN (l ++ [i]) := by
        unfold lN
        rw [List.map_append]
        rfl
      rw [eL]
      refine ⟨ws.set z (l ++ [i]), _, rfl, fun b o eb => ?_, ?_, L7.put hasz, (wf7.step hwsz).cong fun b => upN_step (by rw [hnds]; exact hz) b, fun m hm => ?_, ?_⟩
      · rw [upd_ne (ne_of_none eb (L7.an a ham))]
        exact s7 _ _ eb
      · rw [upd_ne]
        · exact eD7
        · rintro rfl
          exact hD2a ham
      · rcases List.mem_or_eq_of_mem_set hm with hm | rfl
        · have := wl7 m hm
          omega
        · rw [List.length_append]
          show l.length + 1 ≤ _
          omega
      · rw [upd_ne (by rintro rfl; exact hma ham)]
        exact em7
    rintro σ H3 ⟨ws, v3, v4, v5, v6, v7, v8, rfl, s3, L3, wf3, wl3, em3⟩
    rw [hxl] at wf3 em3
    have wok := (wf3.cong upN_all).done
    rw [List.take_length] at em3
    have hml3 : H3 ml ≠ none := by rw [em3]; intro z; cases z
    -- order
    refine ⟨_, rfl, p, C, dx, fs, _, rfl, s3 _ _ B.hp, CC.a.cl, na "ends" (by decide +kernel), B.en, dl, _, rfl, .inl (SqL.of (s3 _ _ B.hd)), fun ol hol => ?_⟩
    generalize hH4 : upd H3 ol _ = H4
    obtain ⟨sol, eol⟩ := freshF hol hH4
    have s4 := s3.trans sol
    have hol0 := no_of s3 hol
    obtain ⟨how, hoa⟩ := L3.free hol
    have hom : ol ≠ ml := fun e => hml3 (by rw [← e]; exact hol)
    have D : FiD H C p dx cl wl ml ol as fs _ := ⟨B.hp, hcl, hwl, L3.an, hml0, hol0, hmw, hma, how, hoa, hom⟩
    have hpl := B.ln
    refine ⟨_, rfl, p, C, dx, fs, rfl, s4 _ _ B.hp, CC.a.cl, na "order" (by decide +kernel), by omega, ?_⟩
    have fo : (putF "order" (.ref ol) fs).lookup ("order" : Str) = some (.ref ol) := by rw [lookup_putF, if_pos rfl]
    have fc : (putF "order" (.ref ol) fs).lookup ("choice" : Str) = some (.ref cl) := by rw [lookup_putF, if_neg (by decide +kernel)]; exact B.ch
    have fe : (putF "order" (.ref ol) fs).lookup ("edges" : Str) = some (.ref el) := by rw [lookup_putF, if_neg (by decide +kernel)]; exact B.ed
    have G0 : FiH H (upd H4 p (.ins C dx (putF "order" (.ref ol) fs))) C p dx cl wl ml ol as ws (putF "order" (.ref ol) fs) (endsOf W) (List.replicate (stN W.ns W.ns.length) none) ((gesOf W).map fun e => ((needs e).length : Int)) := by
      refine ⟨fun b o e h1 h2 => ?_, (L3.same sol).keep fun b o hb e => ?_, ?_, ?_, ?_, upd_same⟩
      · rw [upd_ne h1]
        exact s4 _ _ e
      · rw [upd_ne]
        · exact e
        · rintro rfl
          rcases hb with rfl | hb
          · exact absurd B.hp (by rw [hwl]; intro z; cases z)
          · exact absurd B.hp (by rw [L3.an _ hb]; intro z; cases z)
      · rw [upd_ne (ne_of_none B.hp hml0).symm]
        exact sol _ _ em3
      · rw [upd_ne (ne_of_none B.hp hol0).symm]
        exact eol
      · rw [upd_ne]
        · exact s4 _ _ hcl
        · rintro rfl
          exact absurd hcl (by rw [B.hp]; intro z; cases z)
    generalize hfs' : putF "order" (.ref ol) fs = fs' at fo fc fe G0
    generalize upd H4 p _ = H5 at G0 ⊢
    have hxs : ∀ {H'}, Fr p cl H H' → EdL CE H' W xs (exOf W) := fun {H'} fr => B.hx.kx (fr.kx B.hp hcl B.ep)
    have hel : ∀ {H'}, Fr p cl H H' → H' el = some (.lst xs) := fun {H'} fr => fr _ _ B.he (by rintro rfl; exact absurd B.hp (by rw [B.he]; intro z; cases z)) B.ec
    refine while_m (fun m σ H' => ∃ (O : List Nat) (d : Nat) (ch : List (Option Nat)) (ms : List Int) (v3 v4 v5 v7 v8 : Option V), σ = [some (.ref p), some (.ref wl), some (.ref ml), v3, v4, v5, some (.int (d : Nat)), v7, v8] ∧ m = stN W.ns W.ns.length - d ∧ d ≤ O.length ∧ FiH H H' C p dx cl wl ml ol as ws fs' O ch ms ∧ FinI (stN W.ns W.ns.length) (gesOf W) (endsOf W) O ch ∧ MsF (gesOf W) (O.take d) [] ms ∧ CmF (gesOf W) O ms) (stN W.ns W.ns.length)
      ⟨endsOf W, 0, _, _, _, _, _, _, _, rfl, rfl, Nat.zero_le _, G0, fin_begin (ends_nd okw) (ends_lt okw), ms_begin, ms_begin0⟩ ?_
    clear G0 H5
    rintro m σ H5 ⟨O, d, ch, ms, v3, v4, v5, v7, v8, rfl, hm, hd, G, I, M, Cm⟩
    refine ⟨_, rfl, _, rfl, p, C, dx, fs', _, rfl, G.ep, CC.a.cl, na "order" (by decide +kernel), fo, ol, _, rfl, .inl (SqL.of G.eo), _, _, rfl, rfl, _, rfl, ?_⟩
    rw [List.length_map]
    by_cases hlt : d < O.length
    rotate_left
    · refine ifF (decide_eq_false (by omega)) ?_
      have hdl : d = O.length := by omega
      subst hdl
      rw [List.take_length] at M
      refine kq H5 ol O ch G.fr hol0 G.eo G.ec (by rw [hfs']; exact G.ep) I (I.done M Cm)
    refine ifT (decide_eq_true (by omega)) ?_
    refine ⟨fun σ' H' => ∃ m', m' < m ∧ ∃ (O : List Nat) (d : Nat) (ch : List (Option Nat)) (ms : List Int) (v3 v4 v5 v7 v8 : Option V), σ' = [some (.ref p), some (.ref wl), some (.ref ml), v3, v4, v5, some (.int (d : Nat)), v7, v8] ∧ m' = stN W.ns W.ns.length - d ∧ d ≤ O.length ∧ FiH H H' C p dx cl wl ml ol as ws fs' O ch ms ∧ FinI (stN W.ns W.ns.length) (gesOf W) (endsOf W) O ch ∧ MsF (gesOf W) (O.take d) [] ms ∧ CmF (gesOf W) O ms, fun σ' H' z => z, ?_⟩
    have hof : O[d]? = some (O[d]'hlt) := List.getElem?_eq_getElem hlt
    generalize O[d]'hlt = fi at hof
    have hfin := I.lt fi (List.mem_of_getElem? hof)
    have hOn := nodup_lt I.nd I.lt
    refine ⟨_, rfl, p, C, dx, fs', _, rfl, G.ep, CC.a.cl, na "order" (by decide +kernel), fo, _, rfl, ol, _, (d : Nat), .int (fi : Nat), rfl, rfl, SqL.of G.eo, atI_nat (by rw [List.getElem?_map, hof]; rfl), ?_⟩
    have hwf : ws[fi]? = some (ws[fi]'(by rw [wok.1]; exact hfin)) := List.getElem?_eq_getElem _
    have haf : as[fi]? = some (as[fi]'(by rw [L3.ln, wok.1]; exact hfin)) := List.getElem?_eq_getElem _
    generalize ws[fi]'_ = w5 at hwf
    generalize as[fi]'_ = a5 at haf
    have ha5 := fun {H'} (h : LL H H' wl as ws) => h.it fi a5 w5 haf hwf
    refine ⟨_, rfl, _, rfl, wl, _, (fi : Nat), .ref a5, rfl, rfl, SqL.of G.ll.w, atI_nat (by rw [List.getElem?_map, haf]; rfl), a5, rfl, ⟨_, SqL.of (ha5 G.ll)⟩, ?_⟩
    have hfP : fi ∉ O.take d := fun hm => by
      obtain ⟨j, hj⟩ := List.getElem?_of_mem hm
      have hjl := (List.getElem?_eq_some_iff.mp hj).1
      rw [List.length_take] at hjl
      rw [List.getElem?_take_of_lt (by omega)] at hj
      have := nodup_at I.nd hj hof
      omega
    have hPf : O.take d ++ [fi] = O.take (d + 1) := by
      rw [List.take_succ, hof]
      rfl
    refine for_it (walk_list (K := K) (a := a5) (xs := w5.map fun n => V.int (n : Nat))) (fun j σ H' => ∃ (O' : List Nat) (ch : List (Option Nat)) (ms : List Int) (v3 v5 : Option V), σ = [some (.ref p), some (.ref wl), some (.ref ml), v3, v4, v5, some (.int (d : Nat)), some (.int (fi : Nat)), v8] ∧ FiH H H' C p dx cl wl ml ol as ws fs' O' ch ms ∧ FinI (stN W.ns W.ns.length) (gesOf W) (endsOf W) O' ch ∧ MsF (gesOf W) (O.take d) (w5.take j) ms ∧ CmF (gesOf W) O' ms ∧ O'.take (d + 1) = O.take (d + 1) ∧ d < O'.length)
      ⟨O, ch, ms, _, _, rfl, G, I, M, Cm, rfl, hlt⟩ (fun j σ H' _ ⟨_, _, _, _, _, _, h, _⟩ => SqL.of (ha5 h.ll)) ?_ ?_
    rotate_left
    · rintro σ H' ⟨O', ch', ms', v3, v5, rfl, G', I', M', C', ht, hl⟩
      rw [List.length_map, List.take_length] at M'
      refine ⟨_, rfl, _, _, rfl, rfl, stN W.ns W.ns.length - (d + 1), by omega, O', d + 1, ch', ms', _, _, _, _, _, rfl, rfl, hl, G', I', ?_, C'⟩
      rw [ht, ← hPf]
      exact ms_end wok hwf hfP M'
    clear G I M Cm ch ms v3 v5 hOn
    rintro j x σ H6 H6z hj ⟨O', ch, ms, v3, v5, rfl, G, I, M, Cm, ht, hl⟩ ⟨rfl, hx⟩
    rw [List.length_map] at hj
    rw [List.getElem?_map] at hx
    cases hwj : w5[j]? with
    | none => rw [hwj] at hx; cases hx
    | some a =>
    rw [hwj] at hx
    obtain rfl := Option.some.inj hx
    have hal := (wok.2 fi w5 hwf).1 a (List.mem_of_getElem? hwj)
    have hax : a < (exOf W).length := by rw [ex_len]; exact hal
    obtain ⟨q, hq, ⟨dq, fq, hq1, hq2⟩⟩ := (hxs G.fr).2 a _ (List.getElem?_eq_getElem hax)
    have hge := ex_ge (List.getElem?_eq_getElem hax)
    generalize hye : (exOf W)[a] = ye at hge hq2
    have hym : ye ∈ exOf W := by rw [← hye]; exact List.getElem_mem hax
    have hml : a < ms.length := by rw [M.1]; exact hal
    have hma2 : ms[a]? = some (ms[a]'hml) := List.getElem?_eq_getElem hml
    generalize ms[a]'hml = mv at hma2
    refine ⟨_, rfl, _, rfl, ml, _, (a : Nat), .int mv, rfl, rfl, Int.natCast_nonneg _, SqL.of G.em, atI_nat (by rw [List.getElem?_map, hma2]; rfl), _, _, rfl, rfl, ml, _, (a : Nat), a, rfl, rfl, G.em, ixN_at (by rw [List.length_map]; exact hml), ?_⟩
    rw [set_map V.int]
    have G1 := G.putM (ms' := ms.set a (mv - 1)) D
    generalize upd H6z ml _ = H7 at G1 ⊢
    have hsn := s_lt okw hym
    obtain ⟨M1, hy1, hn1⟩ := fin_step I wok hwf hfP (fun y hy => by rw [hPf, ← ht] at hy; exact List.mem_of_mem_take hy) M Cm hwj hge hma2 hsn (s_end okw hym)
    obtain ⟨q', hq', ⟨dq', fq', hq1', hq2'⟩⟩ := (hxs G1.fr).2 a _ (List.getElem?_eq_getElem hax)
    obtain rfl := V.ref.inj (Option.some.inj (hq.symm.trans hq'))
    rw [hye] at hq2'
    refine ⟨_, rfl, p, C, dx, fs', _, rfl, G1.ep, CC.a.cl, na "edges" (by decide +kernel), fe, _, rfl, el, xs, (a : Nat), .ref q, rfl, rfl, SqL.of (hel G1.fr), atI_nat hq, q, CE, dq', fq', _, rfl, hq1', EE.cl, EE.na "spot" (by decide +kernel), hq2'.spot, ?_⟩
    have hml2 : a < (ms.set a (mv - 1)).length := by rw [List.length_set]; exact hml
    refine ⟨_, rfl, _, rfl, ml, _, (a : Nat), .int (mv - 1), rfl, rfl, SqL.of G1.em, atI_nat (by rw [List.getElem?_map, List.getElem?_set_self hml]; rfl), rfl, _, rfl, ?_⟩
    have stay : ¬ (mv - 1 = 0 ∧ ch[(geX W ye).s]? = some none) → ∃ (O' : List Nat) (ch' : List (Option Nat)) (ms' : List Int) (v3 v5 : Option V), ([some (.ref p), some (.ref wl), some (.ref ml), some (.int (a : Nat)), v4, some (.int ((geX W ye).s : Nat)), some (.int (d : Nat)), some (.int (fi : Nat)), v8] : _root_.L2.St) = [some (.ref p), some (.ref wl), some (.ref ml), v3, v4, v5, some (.int (d : Nat)), some (.int (fi : Nat)), v8] ∧ FiH H H7 C p dx cl wl ml ol as ws fs' O' ch' ms' ∧ FinI (stN W.ns W.ns.length) (gesOf W) (endsOf W) O' ch' ∧ MsF (gesOf W) (O.take d) (w5.take (j + 1)) ms' ∧ CmF (gesOf W) O' ms' ∧ O'.take (d + 1) = O.take (d + 1) ∧ d < O'.length :=
      fun h => ⟨O', ch, _, _, _, rfl, G1, I, M1, hn1 h, ht, hl⟩
    by_cases h0 : mv - 1 = 0
    rotate_left
    · refine ifF (decide_eq_false fun e => h0 (V.int.inj e)) (ifF rfl (stay fun h => h0 h.1))
    refine ifT (decide_eq_true (by rw [h0])) ?_
    have hcl2 : (geX W ye).s < ch.length := by rw [I.cl]; exact hsn
    have hcs : ch[(geX W ye).s]? = some (ch[(geX W ye).s]'hcl2) := List.getElem?_eq_getElem hcl2
    generalize ch[(geX W ye).s]'hcl2 = c0 at hcs
    refine ⟨_, rfl, p, C, dx, fs', _, rfl, G1.ep, CC.a.cl, na "choice" (by decide +kernel), fc, _, rfl, cl, _, ((geX W ye).s : Nat), oN c0, rfl, rfl, SqL.of G1.ec, atI_nat (by rw [List.getElem?_map, hcs]; rfl), rfl, _, rfl, ?_⟩
    cases c0 with
    | some b => exact ifF rfl (stay fun h => by have := h.2; rw [hcs] at this; cases this)
    | none =>
    obtain ⟨I2, C2⟩ := hy1 h0 hcs
    refine ifT rfl ?_
    refine ⟨_, rfl, _, rfl, p, C, dx, fs', _, rfl, G1.ep, CC.a.cl, na "choice" (by decide +kernel), fc, _, rfl, cl, _, ((geX W ye).s : Nat), (geX W ye).s, rfl, rfl, G1.ec, ixN_at (by rw [List.length_map]; exact hcl2), ?_⟩
    have eC : upd H7 cl (.lst ((ch.map oN).set (geX W ye).s (V.int ((a : Nat) : Int)))) = upd H7 cl (.lst ((ch.set (geX W ye).s (some a)).map oN)) := by
      rw [show V.int ((a : Nat) : Int) = oN (some a) from rfl, set_map oN]
    rw [eC]
    have G2 := G1.putC (ch' := ch.set (geX W ye).s (some a)) D
    generalize upd H7 cl _ = H8 at G2 ⊢
    have hO2 := nodup_lt I.nd I.lt
    refine ⟨_, rfl, p, C, dx, fs', _, rfl, G2.ep, CC.a.cl, na "order" (by decide +kernel), fo, .inl ⟨rfl, _, SqL.of G2.eo⟩, _, rfl, ol, _, _, rfl, rfl, G2.eo, ?_, ?_⟩
    · rw [List.length_map, sizeLine_eq]
      omega
    have eL : (HO.lst (O'.map (fun n => V.int (n : Nat)) ++ [V.int ((geX W ye).s : Nat)])) = lN (O' ++ [(geX W ye).s]) := by
      unfold lN
      rw [List.map_append]
      rfl
    have G3 := G2.putO (O' := O' ++ [(geX W ye).s]) D
    rw [← eL] at G3
    refine ⟨_, _, _, _, _, rfl, G3, I2, M1, C2, ?_, ?_⟩
    · rw [List.take_append_of_le_length (by omega)]
      exact ht
    · rw [List.length_append]
      omega
end
end K65

set_option Elab.async false
set_option linter.all false
set_option pp.maxSteps 900
set_option maxRecDepth 100000
set_option maxHeartbeats 4000000
namespace K65
open PySem PySem.Spec PyProof.Rows L2
open TL (tl)
/-! ### what is reached -/
/-- which edges lead on from a spot, as far as the first i of them -/
def LdF (es : List GE) (ends : List Nat) (n i : Nat) (ls : List (List Nat)) : Prop := ls.length = n ∧ ∀ (x : Nat) (l : List Nat), ls[x]? = some l → ∀ a, a ∈ l ↔ a < i ∧ ∃ e, es[a]? = some e ∧ e.s = x ∧ Op es ends e
theorem LdF.nil {es : List GE} {ends : List Nat} {n : Nat} : LdF es ends n 0 (List.replicate n []) := by
  refine ⟨List.length_replicate, fun x l hl a => ?_⟩
  rw [List.getElem?_replicate] at hl
  split at hl
  · obtain rfl := Option.some.inj hl
    constructor
    · intro h
      cases h
    · rintro ⟨h, _⟩
      exact absurd h (Nat.not_lt_zero _)
  · cases hl
theorem LdF.stay {es : List GE} {ends : List Nat} {n i : Nat} {ls : List (List Nat)} {e : GE} (h : LdF es ends n i ls) (he : es[i]? = some e) (ho : ¬ Op es ends e) : LdF es ends n (i + 1) ls := by
  refine ⟨h.1, fun x l hl a => ?_⟩
  rw [h.2 x l hl a]
  constructor
  · rintro ⟨h1, h2⟩
    exact ⟨by omega, h2⟩
  · rintro ⟨h1, e', h2, h3, h4⟩
    refine ⟨?_, e', h2, h3, h4⟩
    by_cases ha : a = i
    · subst ha
      obtain rfl := Option.some.inj (he.symm.trans h2)
      exact absurd h4 ho
    · omega
theorem LdF.step {es : List GE} {ends : List Nat} {n i : Nat} {ls : List (List Nat)} {e : GE} {l : List Nat} (h : LdF es ends n i ls) (he : es[i]? = some e) (ho : Op es ends e) (hl : ls[e.s]? = some l) : LdF es ends n (i + 1) (ls.set e.s (l ++ [i])) := by
  refine ⟨by rw [List.length_set]; exact h.1, fun x m hm a => ?_⟩
  have other : a ≠ i → (a < i ∧ (∃ e', es[a]? = some e' ∧ e'.s = x ∧ Op es ends e') ↔ a < i + 1 ∧ ∃ e', es[a]? = some e' ∧ e'.s = x ∧ Op es ends e') := fun ha => by
    constructor
    · rintro ⟨h1, h2⟩
      exact ⟨by omega, h2⟩
    · rintro ⟨h1, h2⟩
      exact ⟨by omega, h2⟩
  by_cases hx : e.s = x
  · subst hx
    rw [List.getElem?_set_self (List.getElem?_eq_some_iff.mp hl).1] at hm
    obtain rfl := Option.some.inj hm
    rw [List.mem_append, List.mem_singleton, h.2 _ l hl a]
    by_cases ha : a = i
    · subst ha
      constructor
      · intro _
        exact ⟨by omega, e, he, rfl, ho⟩
      · intro _
        exact .inr rfl
    · rw [← other ha]
      constructor
      · rintro (h | h)
        · exact h
        · exact absurd h ha
      · exact .inl
  · rw [List.getElem?_set_ne hx] at hm
    rw [h.2 x m hm a]
    by_cases ha : a = i
    · subst ha
      constructor
      · rintro ⟨h1, _⟩
        omega
      · rintro ⟨_, e', h2, h3, _⟩
        obtain rfl := Option.some.inj (he.symm.trans h2)
        exact absurd h3 hx
    · exact other ha
/-- what is among the first of the leads has been followed -/
structure ReJ (es : List GE) (ends : List Nat) (s0 : Nat) (st : Nat → Nat) (Wl : List Nat) (d f j : Nat) (l : List Nat) (cam cal : Nat → Prop) : Prop where
  re : ReI es ends s0 st Wl d cam cal
  at_ : Wl[d]? = some f
  go : ∀ a ∈ l.take j, ∀ e, es[a]? = some e → e.g ∈ Wl ∧ ∀ q, e.q = some q → cal q
theorem ReJ.begin {es : List GE} {ends : List Nat} {s0 : Nat} {st : Nat → Nat} {Wl : List Nat} {d f : Nat} {l : List Nat} {cam cal : Nat → Prop} (h : ReI es ends s0 st Wl d cam cal) (hf : Wl[d]? = some f) : ReJ es ends s0 st Wl d f 0 l cam cal := ⟨h, hf, fun a ha => by rw [List.take_zero] at ha; cases ha⟩
theorem ReJ.end_ {es : List GE} {ends : List Nat} {s0 n : Nat} {st : Nat → Nat} {Wl : List Nat} {d f : Nat} {l : List Nat} {ls : List (List Nat)} {cam cal : Nat → Prop} (h : ReJ es ends s0 st Wl d f l.length l cam cal) (hd : LdF es ends n es.length ls) (hl : ls[f]? = some l) : ReI es ends s0 st Wl (d + 1) cam cal := by
  refine { h.re with dn := fun x hx e he hs ho => ?_ }
  rw [List.take_succ, h.at_] at hx
  rcases List.mem_append.mp hx with hx | hx
  · exact h.re.dn x hx e he hs ho
  · have hx : x = f := List.mem_singleton.mp hx
    obtain ⟨a, ha⟩ := List.getElem?_of_mem he
    refine h.go a ?_ e ha
    rw [List.take_length]
    exact (hd.2 f l hl a).mpr ⟨(List.getElem?_eq_some_iff.mp ha).1, e, ha, by rw [hs, hx], ho⟩
/-- more is reached -/
theorem ReJ.add {es : List GE} {ends : List Nat} {s0 : Nat} {st : Nat → Nat} {Wl : List Nat} {d f j : Nat} {l : List Nat} {cam cal cam' cal' : Nat → Prop} {y : Nat} (h : ReJ es ends s0 st Wl d f j l cam cal) (hu : Us es ends s0 y) (hc : ∀ x, cam' x ↔ cam x ∨ x = y) (hk : ∀ q, cal q → cal' q) (hk' : ∀ q, cal' q → cal q ∨ st q = y) : ReJ es ends s0 st (Wl ++ [y]) d f j l cam' cal' := by
  have hdl := (List.getElem?_eq_some_iff.mp h.at_).1
  refine ⟨⟨List.mem_append_left _ h.re.bs, fun x => ?_, fun x hx => ?_, fun q hq => ?_, fun x hx e he hs ho => ?_⟩, ?_, fun a ha e he => ?_⟩
  · rw [List.mem_append, List.mem_singleton, hc, h.re.cm]
  · rcases List.mem_append.mp hx with hx | hx
    · exact h.re.us x hx
    · rw [List.mem_singleton.mp hx]
      exact hu
  · rcases hk' q hq with hq | hq
    · exact List.mem_append_left _ (h.re.cl q hq)
    · exact List.mem_append_right _ (List.mem_singleton.mpr hq)
  · rw [List.take_append_of_le_length (by omega)] at hx
    obtain ⟨h1, h2⟩ := h.re.dn x hx e he hs ho
    exact ⟨List.mem_append_left _ h1, fun q hq => hk q (h2 q hq)⟩
  · rw [List.getElem?_append_left hdl]
    exact h.at_
  · obtain ⟨h1, h2⟩ := h.go a ha e he
    exact ⟨List.mem_append_left _ h1, fun q hq => hk q (h2 q hq)⟩
theorem ReJ.next {es : List GE} {ends : List Nat} {s0 : Nat} {st : Nat → Nat} {Wl : List Nat} {d f j a : Nat} {l : List Nat} {cam cal : Nat → Prop} {e : GE} (h : ReJ es ends s0 st Wl d f j l cam cal) (hj : l[j]? = some a) (he : es[a]? = some e) (hg : e.g ∈ Wl) (hq : ∀ q, e.q = some q → cal q) : ReJ es ends s0 st Wl d f (j + 1) l cam cal := by
  refine ⟨h.re, h.at_, fun b hb e' he' => ?_⟩
  rw [List.take_succ, hj] at hb
  rcases List.mem_append.mp hb with hb | hb
  · exact h.go b hb e' he'
  · have hb : b = a := List.mem_singleton.mp hb
    subst hb
    obtain rfl := Option.some.inj (he.symm.trans he')
    exact ⟨hg, hq⟩
def kN (x : Nat) : Key := Sum.inl ((x : Nat) : Int)
def Has (kvs : List (Key × V)) (x : Nat) : Prop := (valV kvs (kN x)).isSome = true
theorem has_put {kvs : List (Key × V)} {y : Nat} {v : V} (x : Nat) : Has (putK kvs (kN y) v) x ↔ Has kvs x ∨ x = y := by
  unfold Has
  rw [valV_put]
  by_cases h : x = y
  · subst h
    rw [if_pos rfl]
    simp
  · rw [if_neg (show ¬ kN x = kN y from fun e => h (by have := Sum.inl.inj e; omega))]
    simp [h]
theorem us_lt {W : Web} (o : OkW W) {x : Nat} (h : Us (gesOf W) (endsOf W) 0 x) : x < stN W.ns W.ns.length := by
  cases h with
  | base h => exact sp_lt (pl_0 o)
  | @goal e h hs ho =>
    obtain ⟨a, nt, ed, hl, h1, h2, rfl⟩ := ges_mem.mp h
    exact sp_lt (pl_t o h1 h2)
  | @call e c h hs ho hc =>
    obtain ⟨a, nt, ed, hl, h1, h2, rfl⟩ := ges_mem.mp h
    have hc : (ed.c.map fun c => stN W.ns c.toNat) = some x := hc
    cases hce : ed.c with
    | none => rw [hce] at hc; cases hc
    | some z =>
      rw [hce] at hc
      obtain rfl := Option.some.inj hc
      exact sp_lt (pl_c o h1 h2 hce)
structure ReB (n m : Nat) (Wl gs cs : List Nat) (kvs cvs : List (Key × V)) : Prop where
  gn : gs.Nodup
  gl : ∀ x ∈ gs, x < n ∧ Has kvs x
  cn : cs.Nodup
  cl : ∀ x ∈ cs, x < m ∧ Has cvs x
  wl : Wl.length = 1 + gs.length + cs.length
  kl : kvs.length ≤ Wl.length
  cvl : cvs.length ≤ 1 + cs.length
theorem ReB.le {n m : Nat} {Wl gs cs : List Nat} {kvs cvs : List (Key × V)} (h : ReB n m Wl gs cs kvs cvs) : Wl.length ≤ 1 + n + m := by
  have h1 := nodup_lt h.gn fun x hx => (h.gl x hx).1
  have h2 := nodup_lt h.cn fun x hx => (h.cl x hx).1
  have := h.wl
  omega
theorem snoc_nd {l : List Nat} {y : Nat} (h : l.Nodup) (hy : y ∉ l) : (l ++ [y]).Nodup := by
  rw [List.nodup_append]
  exact ⟨h, by simp, fun x hx z hz => by rw [List.mem_singleton.mp hz]; exact fun e => hy (e ▸ hx)⟩
theorem ReB.goal {n m y : Nat} {Wl gs cs : List Nat} {kvs cvs : List (Key × V)} {v : V} (h : ReB n m Wl gs cs kvs cvs) (hy : y < n) (hn : ¬ Has kvs y) : ReB n m (Wl ++ [y]) (gs ++ [y]) cs (putK kvs (kN y) v) cvs := by
  refine ⟨snoc_nd h.gn fun z => hn (h.gl y z).2, fun x hx => ?_, h.cn, h.cl, ?_, ?_, h.cvl⟩
  · rcases List.mem_append.mp hx with hx | hx
    · exact ⟨(h.gl x hx).1, (has_put x).mpr (.inl (h.gl x hx).2)⟩
    · rw [List.mem_singleton.mp hx]
      exact ⟨hy, (has_put y).mpr (.inr rfl)⟩
  · rw [List.length_append, List.length_append, h.wl]
    show _ + 1 = 1 + (_ + 1) + _
    omega
  · have := putK_le kvs (kN y) v
    have := h.kl
    rw [List.length_append]
    show _ ≤ _ + 1
    omega
theorem ReB.call {n m y c : Nat} {Wl gs cs : List Nat} {kvs cvs : List (Key × V)} {v v' : V} (h : ReB n m Wl gs cs kvs cvs) (hc : c < m) (hn : ¬ Has cvs c) : ReB n m (Wl ++ [y]) gs (cs ++ [c]) (putK kvs (kN y) v) (putK cvs (kN c) v') := by
  refine ⟨h.gn, fun x hx => ⟨(h.gl x hx).1, (has_put x).mpr (.inl (h.gl x hx).2)⟩, snoc_nd h.cn fun z => hn (h.cl c z).2, fun x hx => ?_, ?_, ?_, ?_⟩
  · rcases List.mem_append.mp hx with hx | hx
    · exact ⟨(h.cl x hx).1, (has_put x).mpr (.inl (h.cl x hx).2)⟩
    · rw [List.mem_singleton.mp hx]
      exact ⟨hc, (has_put c).mpr (.inr rfl)⟩
  · rw [List.length_append, List.length_append, h.wl]
    show _ + 1 = 1 + _ + (_ + 1)
    omega
  · have := putK_le kvs (kN y) v
    have := h.kl
    rw [List.length_append]
    show _ ≤ _ + 1
    omega
  · have := putK_le cvs (kN c) v'
    have := h.cvl
    rw [List.length_append]
    show _ ≤ 1 + (_ + 1)
    omega
structure ReH (H H' : Hp) (ll wl ca cr : Addr) (as : List Addr) (ls : List (List Nat)) (Wl : List Nat) (kvs cvs : List (Key × V)) : Prop where
  fr : Fr ca cr H H'
  ll_ : LL H H' ll as ls
  ew : H' wl = some (lN Wl)
  ea : H' ca = some (.dK kvs)
  er : H' cr = some (.dK cvs)
structure ReD (H : Hp) (ll wl ca cr : Addr) (as : List Addr) (k0 c0 : List (Key × V)) : Prop where
  ha : H ca = some (.dK k0)
  hr : H cr = some (.dK c0)
  nl : H ll = none
  na : ∀ a ∈ as, H a = none
  nw : H wl = none
  wl_ : wl ≠ ll
  wa : wl ∉ as
  ac : ca ≠ cr
section
variable {H H' : Hp} {ll wl ca cr : Addr} {as : List Addr} {ls : List (List Nat)} {Wl Wl' : List Nat} {kvs cvs k0 c0 kvs' cvs' : List (Key × V)}
theorem ReH.putW (h : ReH H H' ll wl ca cr as ls Wl kvs cvs) (D : ReD H ll wl ca cr as k0 c0) : ReH H (upd H' wl (lN Wl')) ll wl ca cr as ls Wl' kvs cvs := by
  refine ⟨fun b o e h1 h2 => ?_, h.ll_.keep fun b o hb e => ?_, upd_same, ?_, ?_⟩
  · rw [upd_ne (ne_of_none e D.nw)]
    exact h.fr b o e h1 h2
  · rw [upd_ne (by rintro rfl; rcases hb with hb | hb; exact D.wl_ hb; exact D.wa hb)]
    exact e
  · rw [upd_ne (ne_of_none D.ha D.nw)]
    exact h.ea
  · rw [upd_ne (ne_of_none D.hr D.nw)]
    exact h.er
theorem ReH.putA (h : ReH H H' ll wl ca cr as ls Wl kvs cvs) (D : ReD H ll wl ca cr as k0 c0) : ReH H (upd H' ca (.dK kvs')) ll wl ca cr as ls Wl kvs' cvs := by
  refine ⟨fun b o e h1 h2 => ?_, h.ll_.keep fun b o hb e => ?_, ?_, upd_same, ?_⟩
  · rw [upd_ne h1]
    exact h.fr b o e h1 h2
  · rw [upd_ne]
    · exact e
    · rintro rfl
      rcases hb with rfl | hb
      · exact absurd D.ha (by rw [D.nl]; intro z; cases z)
      · exact absurd D.ha (by rw [D.na _ hb]; intro z; cases z)
  · rw [upd_ne (ne_of_none D.ha D.nw).symm]
    exact h.ew
  · rw [upd_ne D.ac.symm]
    exact h.er
theorem ReH.putR (h : ReH H H' ll wl ca cr as ls Wl kvs cvs) (D : ReD H ll wl ca cr as k0 c0) : ReH H (upd H' cr (.dK cvs')) ll wl ca cr as ls Wl kvs cvs' := by
  refine ⟨fun b o e h1 h2 => ?_, h.ll_.keep fun b o hb e => ?_, ?_, ?_, upd_same⟩
  · rw [upd_ne h2]
    exact h.fr b o e h1 h2
  · rw [upd_ne]
    · exact e
    · rintro rfl
      rcases hb with rfl | hb
      · exact absurd D.hr (by rw [D.nl]; intro z; cases z)
      · exact absurd D.hr (by rw [D.na _ hb]; intro z; cases z)
  · rw [upd_ne (ne_of_none D.hr D.nw).symm]
    exact h.ew
  · rw [upd_ne D.ac]
    exact h.ea
end
theorem upd_none {H : Hp} {p q : Addr} {o : HO} (h : upd H p o q = none) : H q = none := by
  by_cases e : q = p
  · rw [e, upd_same] at h
    cases h
  · rw [upd_ne e] at h
    exact h
theorem Fr.kx2 {CE ca cr : Addr} {H H' : Hp} {k0 c0 : List (Key × V)} (f : Fr ca cr H H') (ha : H ca = some (.dK k0)) (hr : H cr = some (.dK c0)) : Kx CE H H' := by
  refine ⟨fun b xs e => f b _ e ?_ ?_, fun b dx' fs' e => f b _ e ?_ ?_⟩
  · rintro rfl
    rw [ha] at e
    cases e
  · rintro rfl
    rw [hr] at e
    cases e
  · rintro rfl
    rw [ha] at e
    cases e
  · rintro rfl
    rw [hr] at e
    cases e
theorem ges_q {W : Web} : ∀ e ∈ gesOf W, e.c = e.q.map (stN W.ns) := fun e h => by
  obtain ⟨a, nt, ed, hl, h1, h2, rfl⟩ := ges_mem.mp h
  show (ed.c.map fun c => stN W.ns c.toNat) = (ed.c.map Int.toNat).map (stN W.ns)
  cases ed.c <;> rfl
/-- a chart, as far as reach wants it -/
structure ChR (H : Hp) (C CE : Addr) (W : Web) (p dx cl da el sl ca cr : Addr) (ch : List (Option Nat)) (xs : List V) (fs : List (Str × V)) : Prop where
  hp : H p = some (.ins C dx fs)
  f : ChF H fs cl da ch (endsOf W)
  cl_ : ch.length = stN W.ns W.ns.length
  fin : ∀ x, x < stN W.ns W.ns.length → (finB ch (endsOf W) x = true ↔ Fn (gesOf W) (endsOf W) x)
  no : ∀ m, m ∉ cNames → fs.lookup m = none
  sc : fs.lookup ("spot_count" : Str) = some (.int (stN W.ns W.ns.length : Nat))
  ed : fs.lookup ("edges" : Str) = some (.ref el)
  st : fs.lookup ("starts" : Str) = some (.ref sl)
  ca_ : fs.lookup ("came" : Str) = some (.ref ca)
  cr_ : fs.lookup ("callers" : Str) = some (.ref cr)
  he : H el = some (.lst xs)
  hx : EdL CE H W xs (exOf W)
  hs : H sl = some (.lst (stsV W))
theorem ChR.op {H : Hp} {C CE : Addr} {W : Web} {p dx cl da el sl ca cr : Addr} {ch : List (Option Nat)} {xs : List V} {fs : List (Str × V)} (B : ChR H C CE W p dx cl da el sl ca cr ch xs fs) (o : OkW W) {y : Nat × Nat × Ed} (hy : y ∈ exOf W) :
    ((needs (geX W y)).all (finB ch (endsOf W)) = true ↔ Op (gesOf W) (endsOf W) (geX W y)) := by
  rw [List.all_eq_true]
  unfold Op
  constructor
  · intro h x hx
    exact (B.fin x (needs_lt o hy x hx)).mp (h x hx)
  · intro h x hx
    exact (B.fin x (needs_lt o hy x hx)).mpr (h x hx)
def spRe (C CE : Addr) : Sp := fun vs H Q _ => ∃ (p dx cl da el sl ca cr : Addr) (ch : List (Option Nat)) (xs : List V) (fs : List (Str × V)) (W : Web), vs = [.ref p] ∧ ChR H C CE W p dx cl da el sl ca cr ch xs fs ∧ OkW W ∧ H ca = some (.dK []) ∧ H cr = some (.dK []) ∧ ca ≠ cr ∧ ca ≠ da ∧ cr ≠ da ∧ Fn (gesOf W) (endsOf W) 0 ∧
  ∀ (H' : Hp) (kvs cvs : List (Key × V)), Fr ca cr H H' → H' ca = some (.dK kvs) → H' cr = some (.dK cvs) → (∀ x, Has kvs x ↔ Us (gesOf W) (endsOf W) 0 x) → Q .non H'
section
variable {P : Program} {w : World} {K : PySem.W.Frag} {mg : Str → Option Value} {base : Heap}
theorem scRe : FnScope ["self", "leads", "at", "edge", "waiting", "done", "reached", "_"] ["self"] (defScope sRe) := ⟨rfl, rfl, rfl, by decide +kernel, rfl, by decide +kernel, by decide +kernel⟩
theorem ok_re {f C CE fIU fIF fIO fFi fRe : Addr} {fd fdIO : FuncData} (F : Fun K "reach" "Chart.reach" sRe f fd) (T : Bn mg) (CC : ChK K C fIU fIF fIO fFi fRe) (EE : ClA K CE eNames)
    (GIO : FnOk P w K mg base CX0 2 fIO fdIO ["self", "edge"] (spIO C CE)) (bIO : L2.Binds K fdIO ["self", "edge"] []) : FnOk P w K mg base CX0 3 f fd ["self"] (spRe C CE) := by
  refine F.ok scRe (fun vs H Q E h => ?_) (fun cdv A outer s H vs Q E hr h => ?_)
  · obtain ⟨a1, a2, a3, a4, a5, a6, a7, a8, a9, b1, b2, b3, rfl, _⟩ := h
    rfl
  · obtain ⟨p, dx, cl, da, el, sl, ca, cr, ch, xs, fs, W, rfl, B, okw, hca, hcr, hac, had, hrd, hf0, kq⟩ := h
    have na := fun (f : Str) (h : f ∈ cNames) => CC.a.na f h
    have hu := hu_of hr
    have hn := st_le okw
    have hgl := ges_len okw
    have hxl : xs.length = (gesOf W).length := B.hx.1.trans ex_len
    have hn1 := okw.n1
    have hn4 := okw.n4
    refine ⟨_, (pss_cons (ps_setLc (i := 1) (own := [("_", 7)]) (g := gName 7) (tt := tYes) (by rfl) scRe.nd rfl rfl (sw_true rfl rfl rfl (by decide +kernel)) (pi_range1 (by rfl) T.rng (pa_cons (pe_fld (pv 0) rfl) pa_nil)) (blkOk_by (own := [("_", 7)]) (N := ["self", "leads", "at", "edge", "waiting", "done", "reached", "_"]) (sc := defScope sRe) (by decide +kernel)) (fun _ _ _ _ _ => (pg_name (i := 7) scRe.nd rfl (Or.inl rfl))) (fun _ _ _ _ _ => pts_nil) (fun _ _ _ _ _ => (pe_lst pa_nil)))
      (pss_cons (ps_for PassesOwn.never rfl (pi_enum (by rfl) T.enu (pa_cons (pe_fld (pv 0) rfl) pa_nil)) (pg_tup (by rfl) (pgs_cons (pg_name (i := 2) scRe.nd rfl (Or.inl rfl)) (pgs_cons (pg_name (i := 3) scRe.nd rfl (Or.inl rfl)) pgs_nil)))
          (pss_one (ps_if (pt_val (pe_meth (pv 0) CC.a.cl CC.mIO GIO hr bIO .nil pass0 (pa_cons (pv 3) pa_nil))) (pss_one (ps_expr (qApp (pe_ix ix_list (pv 1) (pe_fld (pv 3) rfl) (fun _ _ => rfl)) (pv 2)))) pss_nil)))
      (pss_cons (ps_dput hu (pe_fld (pv 0) rfl) (pe_ix ix_list (pe_fld (pv 0) rfl) pe_int (fun _ _ => rfl)) pe_non rfl)
      (pss_cons (ps_dput hu (pe_fld (pv 0) rfl) pe_int pe_non rfl)
      (pss_cons (ps_set (i := 4) scRe.nd rfl (Or.inl rfl) (pe_lst (pa_cons (pe_ix ix_list (pe_fld (pv 0) rfl) pe_int (fun _ _ => rfl)) pa_nil)))
      (pss_cons (ps_set (i := 5) scRe.nd rfl (Or.inl rfl) pe_int)
      (pss_one (ps_while PassesOwn.never (pt_cmpR op_lt (pv 5) (pe_callB call_len_seq (by rfl) T.len PySem.boot_len (pa_cons (pv 4) pa_nil)) (nomark _))
          (pss_cons (ps_set (i := 6) scRe.nd rfl (Or.inl rfl) (pe_ix ix_list (pv 4) (pv 5) (fun _ _ => rfl)))
          (pss_cons (ps_for PassesOwn.never rfl (pi_list (pe_ix ix_list (pv 1) (pv 6) (fun _ _ => rfl))) (pg_name (i := 2) scRe.nd rfl (Or.inl rfl))
              (pss_cons (ps_set (i := 3) scRe.nd rfl (Or.inl rfl) (pe_ix ix_list (pe_fld (pv 0) rfl) (pv 2) (fun _ _ => rfl)))
              (pss_mid (ps_if (pt_cmp (pc_dnotin hu (pe_fld (pv 3) rfl) (pe_fld (pv 0) rfl))) (pss_cons (ps_dput hu (pe_fld (pv 0) rfl) (pe_fld (pv 3) rfl) (pv 2) rfl)
                  (pss_one (ps_expr (qApp (pv 4) (pe_fld (pv 3) rfl))))) pss_nil)
              (pss_one (ps_if (PW.pt (pw_and (pt_cmpR op_notN (pe_fld (pv 3) rfl) pe_non (nomark _)) (pw_and1 (pt_cmp (pc_dnotin hu (pe_fld (pv 3) rfl) (pe_fld (pv 0) rfl)))))) (pss_cons (ps_dput hu (pe_fld (pv 0) rfl) (pe_fld (pv 3) rfl) (pv 2) rfl)
                  (pss_cons (ps_dput hu (pe_fld (pv 0) rfl) (pe_fld (pv 3) rfl) pe_non rfl)
                  (pss_one (ps_expr (qApp (pv 4) (pe_fld (pv 3) rfl)))))) pss_nil)))))
          (pss_one (ps_aug (i := 5) scRe.nd rfl (Or.inl rfl) pe_int ip_add)))))))))))), ?_⟩
    -- leads
    refine ⟨_, rfl, p, C, dx, fs, _, rfl, B.hp, CC.a.cl, na "spot_count" (by decide +kernel), B.sc, _, rfl, by omega, by omega, fun ll hll => ?_⟩
    rw [Int.toNat_natCast]
    refine lc_it (walk_range (lo := 0) (n := stN W.ns W.ns.length)) (fun i H' => ∃ as, LL H H' ll as (List.replicate i []) ∧ Same H H') ⟨[], ⟨upd_same, hll, by simp, List.nodup_nil, (fun a h => by cases h), rfl, fun x a l h => by cases h⟩, same_new hll⟩ (fun _ _ _ _ => trivial) ?_ ?_
    · rintro i x H2 H2z hi ⟨as, L, s2⟩ ⟨rfl, rfl⟩
      refine ⟨(by rfl), Nat.zero_le _, fun t ht => ⟨as.map V.ref, ?_, ?_, as ++ [t], L.snoc ht (no_of s2 ht), ?_⟩⟩
      · rw [upd_ne (ne_of_none L.w ht)]
        exact L.w
      · rw [List.length_map, L.ln, List.length_replicate, sizeLine_eq]
        omega
      · intro b o eb
        rw [upd_ne (ne_of_none eb hll), upd_ne (ne_of_none (s2 _ _ eb) ht)]
        exact s2 _ _ eb
    rintro H1 ⟨as, L1, s1⟩
    refine ⟨_, rfl, p, C, dx, fs, _, rfl, s1 _ _ B.hp, CC.a.cl, na "edges" (by decide +kernel), B.ed, el, xs, rfl, SqL.of (s1 _ _ B.he), ?_⟩
    refine for_it (walk_enum (K := K) (a := el) (xs := xs)) (fun i σ H' => ∃ (ls : List (List Nat)) (v2 v3 v4 v5 v6 v7 : Option V), σ = [some (.ref p), some (.ref ll), v2, v3, v4, v5, v6, v7] ∧ Same H H' ∧ LL H H' ll as ls ∧ LdF (gesOf W) (endsOf W) (stN W.ns W.ns.length) i ls ∧ (∀ l ∈ ls, l.length ≤ i))
      ⟨List.replicate (stN W.ns W.ns.length) [], _, _, _, _, _, _, rfl, s1, L1, LdF.nil, fun l hl => by rw [(List.mem_replicate.mp hl).2]; exact Nat.zero_le _⟩ (fun i σ H' _ ⟨_, _, _, _, _, _, _, _, s, _⟩ => SqL.of (s _ _ B.he)) ?_ ?_
    · rintro i x σ H3 H3z hi ⟨ls, v2, v3, v4, v5, v6, v7, rfl, s3, L3, ld3, wl3⟩ ⟨T0, x', y, rfl, hT, hH3, hx, hy⟩
      obtain rfl := Option.some.inj hx
      obtain ⟨sT, eT⟩ := freshF hT hH3.symm
      have hil : i < (exOf W).length := by rw [← B.hx.1]; exact hi
      obtain ⟨q, hq, ⟨dq, fq, hq1, hq2⟩⟩ := B.hx.2 i _ (List.getElem?_eq_getElem hil)
      obtain rfl := Option.some.inj (hq.symm.trans hy)
      have hge := ex_ge (List.getElem?_eq_getElem hil)
      generalize hye : (exOf W)[i] = ye at hge hq2
      have hym : ye ∈ exOf W := by rw [← hye]; exact List.getElem_mem hil
      have s3z := s3.trans sT
      have eob : ∀ {H'}, Same H H' → EOb CE H' W q ye.1 ye.2.1 ye.2.2 := fun {H'} s => EOb.kx ⟨dq, fq, hq1, hq2⟩ (Kx.of s)
      refine ⟨T0, _, rfl, SqT.of eT, (by rfl), _, _, rfl, _, _, rfl, rfl, ?_⟩
      refine ⟨_, rfl, p, dx, fs, rfl, s3z _ _ B.hp, B.no "is_open" (by decide +kernel), _, rfl, p, dx, cl, da, q, fs, ch, endsOf W, W, ye.1, ye.2.1, ye.2.2, rfl, s3z _ _ B.hp, ⟨B.f.choice, B.f.ends_at, s3z _ _ B.f.hc, s3z _ _ B.f.hd⟩, B.no, eob s3z, (fun z hz => by rw [B.cl_]; exact needs_lt okw hym z hz), fun H4 s4 => ⟨_, rfl, ?_⟩⟩
      have hop := B.op okw hym
      have s04 := s3z.trans s4
      have L4 := L3.same (sT.trans s4)
      by_cases ho : Op (gesOf W) (endsOf W) (geX W ye)
      rotate_left
      · refine ifF ?_ ⟨ls, _, _, _, _, _, _, rfl, s04, L4, ld3.stay hge ho, fun l hl => by have := wl3 l hl; omega⟩
        cases hb : (needs (geOf W ye.1 ye.2.2)).all (finB ch (endsOf W)) with
        | false => rfl
        | true => exact absurd (hop.mp hb) ho
      refine ifT (hop.mpr ho) ?_
      have hzl := s_lt okw hym
      have hwsz : ls[(geX W ye).s]? = some (ls[(geX W ye).s]'(by rw [ld3.1]; exact hzl)) := List.getElem?_eq_getElem _
      have hasz : as[(geX W ye).s]? = some (as[(geX W ye).s]'(by rw [L4.ln, ld3.1]; exact hzl)) := List.getElem?_eq_getElem _
      generalize ls[(geX W ye).s]'_ = l at hwsz
      generalize as[(geX W ye).s]'_ = a at hasz
      have hel := L4.it _ a l hasz hwsz
      have hll2 := wl3 l (List.mem_of_getElem? hwsz)
      have ham := List.mem_of_getElem? hasz
      obtain ⟨dq', fq', hq1', hq2'⟩ := eob s04
      refine ⟨_, rfl, _, rfl, q, CE, dq', fq', _, rfl, hq1', EE.cl, EE.na "spot" (by decide +kernel), hq2'.spot, ll, _, ((geX W ye).s : Nat), .ref a, rfl, rfl, SqL.of L4.w, atI_nat (by rw [List.getElem?_map, hasz]; rfl), .inl ⟨rfl, _, SqL.of hel⟩, _, rfl, a, _, _, rfl, rfl, hel, ?_, ?_⟩
      · rw [List.length_map, sizeLine_eq]
        omega
      have eL : (HO.lst (l.map (fun n => V.int (n : Nat)) ++ [V.int (i : Nat)])) = lN (l ++ [i]) := by
        unfold lN
        rw [List.map_append]
        rfl
      rw [eL]
      refine ⟨ls.set (geX W ye).s (l ++ [i]), _, _, _, _, _, _, rfl, fun b o eb => ?_, L4.put hasz, ld3.step hge ho hwsz, fun m hm => ?_⟩
      · rw [upd_ne (ne_of_none eb (L4.an a ham))]
        exact s04 _ _ eb
      · rcases List.mem_or_eq_of_mem_set hm with hm | rfl
        · have := wl3 m hm
          omega
        · rw [List.length_append]
          show l.length + 1 ≤ _
          omega
    rintro σ H3 ⟨ls, v2, v3, v4, v5, v6, v7, rfl, s3, L3, ld, wl3⟩
    rw [hxl] at ld
    -- what came first
    have h0 : (stsV W)[0]? = some (.int ((0 : Nat) : Int)) := sts_at (by omega)
    refine ⟨_, rfl, p, C, dx, fs, _, rfl, s3 _ _ B.hp, CC.a.cl, na "came" (by decide +kernel), B.ca_, _, rfl, p, C, dx, fs, _, rfl, s3 _ _ B.hp, CC.a.cl, na "starts" (by decide +kernel), B.st, sl, _, 0, .int ((0 : Nat) : Int), rfl, rfl, SqL.of (s3 _ _ B.hs), atI_nat (j := 0) h0, ca, _, rfl, DPut.k (k := kN 0) (s3 _ _ hca) (by rw [sizeLine_eq]; decide), ?_⟩
    have npa : p ≠ ca := by rintro rfl; exact absurd B.hp (by rw [hca]; intro z; cases z)
    have npr : p ≠ cr := by rintro rfl; exact absurd B.hp (by rw [hcr]; intro z; cases z)
    have nsa : sl ≠ ca := by rintro rfl; exact absurd B.hs (by rw [hca]; intro z; cases z)
    have nsr : sl ≠ cr := by rintro rfl; exact absurd B.hs (by rw [hcr]; intro z; cases z)
    refine ⟨_, rfl, p, C, dx, fs, _, rfl, by rw [upd_ne npa]; exact s3 _ _ B.hp, CC.a.cl, na "callers" (by decide +kernel), B.cr_, cr, _, rfl, DPut.k (k := kN 0) (by rw [upd_ne hac.symm]; exact s3 _ _ hcr) (by rw [sizeLine_eq]; decide), ?_⟩
    refine ⟨_, rfl, p, C, dx, fs, _, rfl, by rw [upd_ne npr, upd_ne npa]; exact s3 _ _ B.hp, CC.a.cl, na "starts" (by decide +kernel), B.st, sl, _, 0, .int ((0 : Nat) : Int), rfl, rfl, SqL.of (by rw [upd_ne nsr, upd_ne nsa]; exact s3 _ _ B.hs), atI_nat (j := 0) h0, (by show 1 ≤ sizeLine; decide), fun wl hwl => ?_⟩
    have hwl3 : H3 wl = none := upd_none (upd_none hwl)
    have hwl0 := no_of s3 hwl3
    obtain ⟨hwll, hwla⟩ := L3.free hwl3
    have D : ReD H ll wl ca cr as [] [] := ⟨hca, hcr, hll, L3.an, hwl0, hwll, hwla, hac⟩
    have nca : ca ≠ wl := ne_of_none hca hwl0
    have ncr : cr ≠ wl := ne_of_none hcr hwl0
    have G0 : ReH H (upd (upd (upd H3 ca (.dK (putK [] (kN 0) .non))) cr (.dK (putK [] (kN 0) .non))) wl (lN [0])) ll wl ca cr as ls [0] (putK [] (kN 0) .non) (putK [] (kN 0) .non) := by
      refine ⟨fun b o e h1 h2 => ?_, L3.keep fun b o hb e => ?_, upd_same, ?_, ?_⟩
      · rw [upd_ne (ne_of_none e hwl0), upd_ne h2, upd_ne h1]
        exact s3 _ _ e
      · have e1 : b ≠ wl := by rintro rfl; rcases hb with hb | hb; exact hwll hb; exact hwla hb
        have e2 : H b = none := by rcases hb with hb | hb; rw [hb]; exact hll; exact L3.an _ hb
        have e3 : b ≠ cr := (ne_of_none hcr e2).symm
        have e4 : b ≠ ca := (ne_of_none hca e2).symm
        rw [upd_ne e1, upd_ne e3, upd_ne e4]
        exact e
      · rw [upd_ne nca, upd_ne hac, upd_same]
      · rw [upd_ne ncr, upd_same]
    have one : ∀ x, Has (putK [] (kN 0) .non) x ↔ x = 0 := fun x => by
      rw [has_put]
      constructor
      · rintro (h | h)
        · cases h
        · exact h
      · exact .inr
    have R0 : ReI (gesOf W) (endsOf W) 0 (stN W.ns) [0] 0 (Has (putK [] (kN 0) .non)) (Has (putK [] (kN 0) .non)) := by
      refine ⟨List.mem_cons_self, fun x => ?_, fun x hx => ?_, fun q hq => ?_, fun x hx => by cases hx⟩
      · rw [one, List.mem_singleton]
      · rw [List.mem_singleton.mp hx]
        exact .base hf0
      · rw [(one q).mp hq]
        exact List.mem_cons_self
    have B0 : ReB (stN W.ns W.ns.length) W.ns.length [0] [] [] (putK [] (kN 0) .non) (putK [] (kN 0) .non) := ⟨List.nodup_nil, (fun x h => by cases h), List.nodup_nil, (fun x h => by cases h), rfl, Nat.le_refl _, Nat.le_refl _⟩
    change (fun H6 => _) (upd (upd (upd H3 ca (.dK (putK [] (kN 0) .non))) cr (.dK (putK [] (kN 0) .non))) wl (lN [0]))
    generalize upd (upd (upd H3 ca _) cr _) wl (lN [0]) = H6 at G0 ⊢
    generalize putK ([] : List (Key × V)) (kN 0) .non = kv0 at G0 R0 B0
    have hel : ∀ {H'}, Fr ca cr H H' → H' el = some (.lst xs) := fun {H'} fr => fr _ _ B.he (by rintro rfl; exact absurd B.he (by rw [hca]; intro z; cases z)) (by rintro rfl; exact absurd B.he (by rw [hcr]; intro z; cases z))
    have hpp : ∀ {H'}, Fr ca cr H H' → H' p = some (.ins C dx fs) := fun {H'} fr => fr _ _ B.hp npa npr
    refine while_m (fun m σ H' => ∃ (Wl gs cs : List Nat) (d : Nat) (kvs cvs : List (Key × V)) (v2 v3 v6 v7 : Option V), σ = [some (.ref p), some (.ref ll), v2, v3, some (.ref wl), some (.int (d : Nat)), v6, v7] ∧ m = 1 + stN W.ns W.ns.length + W.ns.length - d ∧ d ≤ Wl.length ∧ ReH H H' ll wl ca cr as ls Wl kvs cvs ∧ ReI (gesOf W) (endsOf W) 0 (stN W.ns) Wl d (Has kvs) (Has cvs) ∧ ReB (stN W.ns W.ns.length) W.ns.length Wl gs cs kvs cvs) (1 + stN W.ns W.ns.length + W.ns.length)
      ⟨[0], [], [], 0, kv0, kv0, _, _, _, _, rfl, rfl, Nat.zero_le _, G0, R0, B0⟩ ?_
    clear G0 R0 B0 H6
    rintro m σ H5 ⟨Wl, gs, cs, d, kvs, cvs, v2, v3, v6, v7, rfl, hm, hd, G, R, Bd⟩
    refine ⟨_, rfl, _, rfl, wl, _, rfl, .inl (SqL.of G.ew), _, _, rfl, rfl, _, rfl, ?_⟩
    rw [List.length_map]
    by_cases hlt : d < Wl.length
    rotate_left
    · refine ifF (decide_eq_false (by omega)) ?_
      have hdl : d = Wl.length := by omega
      subst hdl
      exact kq H5 kvs cvs G.fr G.ea G.er fun x => R.done ges_q x
    refine ifT (decide_eq_true (by omega)) ?_
    refine ⟨fun σ' H' => ∃ m', m' < m ∧ ∃ (Wl gs cs : List Nat) (d : Nat) (kvs cvs : List (Key × V)) (v2 v3 v6 v7 : Option V), σ' = [some (.ref p), some (.ref ll), v2, v3, some (.ref wl), some (.int (d : Nat)), v6, v7] ∧ m' = 1 + stN W.ns W.ns.length + W.ns.length - d ∧ d ≤ Wl.length ∧ ReH H H' ll wl ca cr as ls Wl kvs cvs ∧ ReI (gesOf W) (endsOf W) 0 (stN W.ns) Wl d (Has kvs) (Has cvs) ∧ ReB (stN W.ns W.ns.length) W.ns.length Wl gs cs kvs cvs, fun σ' H' z => z, ?_⟩
    have hof : Wl[d]? = some (Wl[d]'hlt) := List.getElem?_eq_getElem hlt
    generalize Wl[d]'hlt = fi at hof
    have hfin := us_lt okw (R.us fi (List.mem_of_getElem? hof))
    have hus := R.us fi (List.mem_of_getElem? hof)
    have hWl := Bd.le
    refine ⟨_, rfl, _, rfl, wl, _, (d : Nat), .int (fi : Nat), rfl, rfl, SqL.of G.ew, atI_nat (by rw [List.getElem?_map, hof]; rfl), ?_⟩
    have hwf : ls[fi]? = some (ls[fi]'(by rw [ld.1]; exact hfin)) := List.getElem?_eq_getElem _
    have haf : as[fi]? = some (as[fi]'(by rw [L3.ln, ld.1]; exact hfin)) := List.getElem?_eq_getElem _
    generalize ls[fi]'_ = w5 at hwf
    generalize as[fi]'_ = a5 at haf
    have ha5 := fun {H'} (h : LL H H' ll as ls) => h.it fi a5 w5 haf hwf
    refine ⟨_, rfl, _, rfl, ll, _, (fi : Nat), .ref a5, rfl, rfl, SqL.of G.ll_.w, atI_nat (by rw [List.getElem?_map, haf]; rfl), a5, rfl, ⟨_, SqL.of (ha5 G.ll_)⟩, ?_⟩
    refine for_it (walk_list (K := K) (a := a5) (xs := w5.map fun n => V.int (n : Nat))) (fun j σ H' => ∃ (Wl gs cs : List Nat) (kvs cvs : List (Key × V)) (v2 v3 : Option V), σ = [some (.ref p), some (.ref ll), v2, v3, some (.ref wl), some (.int (d : Nat)), some (.int (fi : Nat)), v7] ∧ ReH H H' ll wl ca cr as ls Wl kvs cvs ∧ ReJ (gesOf W) (endsOf W) 0 (stN W.ns) Wl d fi j w5 (Has kvs) (Has cvs) ∧ ReB (stN W.ns W.ns.length) W.ns.length Wl gs cs kvs cvs)
      ⟨Wl, gs, cs, kvs, cvs, _, _, rfl, G, ReJ.begin R hof, Bd⟩ (fun j σ H' _ ⟨_, _, _, _, _, _, _, _, h, _⟩ => SqL.of (ha5 h.ll_)) ?_ ?_
    rotate_left
    · rintro σ H' ⟨Wl', gs, cs, kvs, cvs, v2, v3, rfl, G', J', B'⟩
      rw [List.length_map] at J'
      have hdl := (List.getElem?_eq_some_iff.mp J'.at_).1
      have := B'.le
      refine ⟨_, rfl, _, _, rfl, rfl, 1 + stN W.ns W.ns.length + W.ns.length - (d + 1), by omega, Wl', gs, cs, d + 1, kvs, cvs, _, _, _, _, rfl, rfl, hdl, G', J'.end_ ld hwf, B'⟩
    clear G R Bd kvs cvs v2 v3 gs cs hlt hof hWl hd Wl
    rintro j x σ H6 H6z hj ⟨Wl, gs, cs, kvs, cvs, v2, v3, rfl, G, J, Bd⟩ ⟨rfl, hx⟩
    rw [List.length_map] at hj
    rw [List.getElem?_map] at hx
    cases hwj : w5[j]? with
    | none => rw [hwj] at hx; cases hx
    | some a =>
    rw [hwj] at hx
    obtain rfl := Option.some.inj hx
    obtain ⟨hal, e0, he0, hes, heo⟩ := (ld.2 fi w5 hwf a).mp (List.mem_of_getElem? hwj)
    have hax : a < (exOf W).length := by rw [ex_len]; exact hal
    obtain ⟨q, hq, ⟨dq, fq, hq1, hq2⟩⟩ := B.hx.2 a _ (List.getElem?_eq_getElem hax)
    have hge := ex_ge (List.getElem?_eq_getElem hax)
    generalize hye : (exOf W)[a] = ye at hge hq2
    have hym : ye ∈ exOf W := by rw [← hye]; exact List.getElem_mem hax
    obtain rfl := Option.some.inj (he0.symm.trans hge)
    have hem : geX W ye ∈ gesOf W := List.mem_of_getElem? hge
    have hqq : ∀ {H'}, Fr ca cr H H' → H' q = some (.ins CE dq fq) := fun {H'} fr => (fr.kx2 hca hcr).ins _ _ _ hq1
    have nap := fun (f : Str) (h : f ∈ eNames) => EE.na f h
    have hgn : (geX W ye).g < stN W.ns W.ns.length := needs_lt okw hym _ List.mem_cons_self
    refine ⟨_, rfl, p, C, dx, fs, _, rfl, hpp G.fr, CC.a.cl, na "edges" (by decide +kernel), B.ed, _, rfl, el, xs, (a : Nat), .ref q, rfl, rfl, SqL.of (hel G.fr), atI_nat hq, ?_⟩
    refine ⟨fun σ H' => ∃ (Wl gs cs : List Nat) (kvs cvs : List (Key × V)), σ = [some (.ref p), some (.ref ll), some (.int (a : Nat)), some (.ref q), some (.ref wl), some (.int (d : Nat)), some (.int (fi : Nat)), v7] ∧ ReH H H' ll wl ca cr as ls Wl kvs cvs ∧ ReJ (gesOf W) (endsOf W) 0 (stN W.ns) Wl d fi j w5 (Has kvs) (Has cvs) ∧ ReB (stN W.ns W.ns.length) W.ns.length Wl gs cs kvs cvs ∧ (geX W ye).g ∈ Wl, ?_, ?_⟩
    · refine ⟨_, rfl, q, CE, dq, fq, _, rfl, hqq G.fr, EE.cl, nap "goal" (by decide +kernel), hq2.goal, _, rfl, p, C, dx, fs, _, rfl, hpp G.fr, CC.a.cl, na "came" (by decide +kernel), B.ca_, ca, _, rfl, DGet.k (k := kN (geX W ye).g) G.ea, _, rfl, ?_⟩
      cases hb : (valV kvs (kN (geX W ye).g)).isSome with
      | true => exact ifF rfl ⟨Wl, gs, cs, kvs, cvs, rfl, G, J, Bd, (J.re.cm _).mpr hb⟩
      | false =>
        have hnb : ¬ Has kvs (geX W ye).g := by
          unfold Has
          rw [hb]
          intro z
          cases z
        have hle := Bd.le
        have hkl := Bd.kl
        refine ifT rfl ⟨_, rfl, _, rfl, p, C, dx, fs, _, rfl, hpp G.fr, CC.a.cl, na "came" (by decide +kernel), B.ca_, _, rfl, q, CE, dq, fq, _, rfl, hqq G.fr, EE.cl, nap "goal" (by decide +kernel), hq2.goal, ca, _, rfl, DPut.k (k := kN (geX W ye).g) G.ea (by rw [sizeLine_eq]; omega), ?_⟩
        have G1 := G.putA (kvs' := putK kvs (kN (geX W ye).g) (.int (a : Nat))) D
        have B1 := Bd.goal (v := .int (a : Nat)) hgn hnb
        have J1 := J.add (y := (geX W ye).g) (cam' := Has (putK kvs (kN (geX W ye).g) (.int (a : Nat)))) (.goal hem (by rw [hes]; exact hus) heo) has_put (fun q h => h) (fun q h => .inl h)
        change (fun H7 => _) (upd H6z ca (.dK (putK kvs (kN (geX W ye).g) (.int (a : Nat)))))
        generalize upd H6z ca _ = H7 at G1 ⊢
        refine ⟨_, rfl, .inl ⟨rfl, _, SqL.of G1.ew⟩, _, rfl, q, CE, dq, fq, _, rfl, hqq G1.fr, EE.cl, nap "goal" (by decide +kernel), hq2.goal, wl, _, _, rfl, rfl, G1.ew, ?_, ?_⟩
        · rw [List.length_map, sizeLine_eq]
          omega
        have eL : (HO.lst (Wl.map (fun n => V.int (n : Nat)) ++ [V.int (spN W ye.1 ye.2.2.t : Nat)])) = lN (Wl ++ [(geX W ye).g]) := by
          unfold lN
          rw [List.map_append]
          rfl
        rw [eL]
        exact ⟨_, _, _, _, _, rfl, G1.putW D, J1, B1, List.mem_append_right _ (List.mem_singleton.mpr rfl)⟩
    clear G J Bd kvs cvs gs cs Wl
    rintro σ H7 ⟨Wl, gs, cs, kvs, cvs, rfl, G, J, Bd, hgm⟩
    have hle := Bd.le
    have hkl := Bd.kl
    have hcl := Bd.cvl
    have hwl := Bd.wl
    refine ⟨_, rfl, q, CE, dq, fq, _, rfl, hqq G.fr, EE.cl, nap "called" (by decide +kernel), hq2.called, rfl, _, rfl, ?_⟩
    cases hce : ye.2.2.c with
    | none =>
      refine ifF rfl (ifF rfl ⟨Wl, gs, cs, kvs, cvs, _, _, rfl, G, J.next hwj hge hgm fun c hc => ?_, Bd⟩)
      have hc : ye.2.2.c.map Int.toNat = some c := hc
      rw [hce] at hc
      cases hc
    | some c =>
    obtain ⟨nt, hnt, hed, hyl⟩ := geX_mem hym
    have hoe := (okw.ed nt (List.mem_of_getElem? hnt) _ hed).c c hce
    obtain ⟨cn, rfl⟩ := Int.eq_ofNat_of_zero_le hoe.1
    have hcn : cn < W.ns.length := by omega
    have hqc : (geX W ye).q = some cn := by
      show ye.2.2.c.map Int.toNat = some cn
      rw [hce] <;> rfl
    have hcc : (geX W ye).c = some (stN W.ns cn) := by
      show (ye.2.2.c.map fun c => stN W.ns c.toNat) = _
      rw [hce] <;> rfl
    have hst := hq2.start
    have hca2 := hq2.called
    rw [hce] at hst hca2
    refine ifT rfl ⟨_, rfl, q, CE, dq, fq, _, rfl, hqq G.fr, EE.cl, nap "called" (by decide +kernel), hca2, _, rfl, p, C, dx, fs, _, rfl, hpp G.fr, CC.a.cl, na "callers" (by decide +kernel), B.cr_, cr, _, rfl, DGet.k (k := kN cn) G.er, _, rfl, ?_⟩
    cases hb : (valV cvs (kN cn)).isSome with
    | true =>
      refine ifF rfl ⟨Wl, gs, cs, kvs, cvs, _, _, rfl, G, J.next hwj hge hgm fun c' hc' => ?_, Bd⟩
      obtain rfl := Option.some.inj (hqc.symm.trans hc')
      exact hb
    | false =>
    have hnb : ¬ Has cvs cn := by
      unfold Has
      rw [hb]
      intro z
      cases z
    refine ifT rfl ⟨_, rfl, _, rfl, p, C, dx, fs, _, rfl, hpp G.fr, CC.a.cl, na "callers" (by decide +kernel), B.cr_, _, rfl, q, CE, dq, fq, _, rfl, hqq G.fr, EE.cl, nap "called" (by decide +kernel), hca2, cr, _, rfl, DPut.k (k := kN cn) G.er (by rw [sizeLine_eq]; omega), ?_⟩
    have G1 := G.putR (cvs' := putK cvs (kN cn) (.int (a : Nat))) D
    change (fun H8 => _) (upd H7 cr (.dK (putK cvs (kN cn) (.int (a : Nat)))))
    generalize upd H7 cr _ = H8 at G1 ⊢
    refine ⟨_, rfl, p, C, dx, fs, _, rfl, hpp G1.fr, CC.a.cl, na "came" (by decide +kernel), B.ca_, _, rfl, q, CE, dq, fq, _, rfl, hqq G1.fr, EE.cl, nap "start" (by decide +kernel), hst, ca, _, rfl, DPut.k (k := kN (stN W.ns cn)) G1.ea (by rw [sizeLine_eq]; omega), ?_⟩
    have G2 := G1.putA (kvs' := putK kvs (kN (stN W.ns cn)) .non) D
    change (fun H9 => _) (upd H8 ca (.dK (putK kvs (kN (stN W.ns cn)) .non)))
    generalize upd H8 ca _ = H9 at G2 ⊢
    refine ⟨_, rfl, .inl ⟨rfl, _, SqL.of G2.ew⟩, _, rfl, q, CE, dq, fq, _, rfl, hqq G2.fr, EE.cl, nap "start" (by decide +kernel), hst, wl, _, _, rfl, rfl, G2.ew, ?_, ?_⟩
    · rw [List.length_map, sizeLine_eq]
      omega
    have eL : (HO.lst (Wl.map (fun n => V.int (n : Nat)) ++ [V.int (stN W.ns cn : Nat)])) = lN (Wl ++ [stN W.ns cn]) := by
      unfold lN
      rw [List.map_append]
      rfl
    have B1 := Bd.call (y := stN W.ns cn) (v := .non) (v' := .int (a : Nat)) hcn hnb
    have J1 := J.add (y := stN W.ns cn) (cam' := Has (putK kvs (kN (stN W.ns cn)) .non)) (cal' := Has (putK cvs (kN cn) (.int (a : Nat)))) (.call hem (by rw [hes]; exact hus) heo hcc) has_put (fun q h => (has_put q).mpr (.inl h)) (fun q h => by
      rcases (has_put q).mp h with h | rfl
      · exact .inl h
      · exact .inr rfl)
    have G3 := G2.putW (Wl' := Wl ++ [stN W.ns cn]) D
    rw [← eL] at G3
    refine ⟨_, _, _, _, _, _, _, rfl, G3, J1.next hwj hge (List.mem_append_left _ hgm) fun c' hc' => ?_, B1⟩
    obtain rfl := Option.some.inj (hqc.symm.trans hc')
    exact (has_put cn).mpr (.inr rfl)
end
end K65

set_option Elab.async false
set_option linter.all false
set_option pp.maxSteps 900
set_option maxRecDepth 100000
set_option maxHeartbeats 4000000
namespace K65
open PySem PySem.Spec PyProof.Rows L2
open TL (tl)
section
variable {X : Cx} {o e : Expr} {te to : TE} {apos cpos : Pos}
theorem qExt (ho : PE X o to) (he : PE X e te) (hbase : attributeBase o "extend" X.env (eval o X.env) = eval o X.env := by rfl)
    (hfew : ((backTo cpos (starEach (e :: []) X.env)).all (fun x => !x.1) && (backToKw cpos (keywordEach [] X.env)).all (fun x => x.1.isSome)
      && decide ((e :: ([] : List Expr)).length + ([] : List Keyword).length + (if ([] : List Keyword).isEmpty then 0 else 1) < 30)) = true := by rfl)
    (hline : (apos.endLine == cpos.line) = true := by rfl) (hs : starEach (e :: []) X.env = (false, eval e X.env) :: starEach [] X.env := by rfl) (hplain : (backTo cpos (starEach [] X.env)).any (·.1) = false := by rfl) :
    PE X (.Call (.Attribute o "extend" apos) [e] [] cpos) (tBM X.K "list" rExtend to (tCons te tNil)) :=
  pe_bm PySem.F.plainAttrs_list PySem.F.slot_list_extend PySem.F.type_list_extend mt_extend ho (pa_cons he pa_nil hs) hbase hfew hline hs hplain
end
theorem dc_it {J : It} {n : Nat} {G : Hp → Prop} {Y : Nat → Hp → V → Hp → Prop} (w : Walk J n G Y) {g : TG} {tt : TT} {tk tv : TE} {vs : List Nat} {σ : L2.St} {H1 : Hp} {D : Addr} {Qd : Hp → Prop} (Pv : Nat → Hp → Prop) (h0 : Pv 0 (upd H1 D (.dK []))) (hG : ∀ i H, i ≤ n → Pv i H → G H)
    (hs : ∀ i x H H', i < n → Pv i H → Y i H x H' → g x (wipe σ vs) H' fun σ2 H2 => wipe σ2 vs = wipe σ vs ∧ tt σ2 H2 fun b H3 =>
      if b = true then tk σ2 H3 fun y H4 => tv σ2 H4 fun z H5 => ∃ kvs k, y = kV k ∧ H5 D = some (.dK kvs) ∧ kvs.length < sizeLine ∧ Pv (i + 1) (upd H5 D (.dK (putK kvs k z))) else Pv (i + 1) H3) (hd : ∀ H, Pv n H → Qd H) :
    ∃ W : Nat → Nat → Hp → Prop, (∃ m, W 0 m (upd H1 D (.dK []))) ∧ ∀ i m H, W i m H →
      (J.stop i H ∧ Qd H) ∨ (J.go i H ∧ ∃ Nx : Hp → Prop, (∀ H', Nx H' → ∃ m', m' < m ∧ W (i + 1) m' H') ∧ ∀ x H', J.yld i H x H' → g x (wipe σ vs) H' fun σ2 H2 => wipe σ2 vs = wipe σ vs ∧ tt σ2 H2 fun b H3 =>
        if b = true then tk σ2 H3 fun y H4 => tv σ2 H4 fun z H5 => ∃ kvs k, y = kV k ∧ H5 D = some (.dK kvs) ∧ kvs.length < sizeLine ∧ Nx (upd H5 D (.dK (putK kvs k z))) else Nx H3) := by
  refine ⟨fun i m H => m = n - i ∧ i ≤ n ∧ Pv i H, ⟨n, by simp, Nat.zero_le _, h0⟩, ?_⟩
  rintro i m H ⟨rfl, hi, p⟩
  have q := hG i H hi p
  by_cases hlt : i < n
  · refine .inr ⟨w.goes i H hlt q, Pv (i + 1), fun H' p' => ⟨n - (i + 1), by omega, rfl, hlt, p'⟩, fun x H' y => hs i x H H' hlt p (w.yields i H x H' hlt q y)⟩
  · have e : i = n := by omega
    subst e
    exact .inl ⟨w.stops H q, hd H p⟩
/-- all but p stays -/
def Fp (p : Addr) (H H' : Hp) : Prop := ∀ b o, H b = some o → b ≠ p → H' b = some o
theorem Fp.same {p : Addr} {H H' H'' : Hp} (f : Fp p H H') (s : Same H' H'') : Fp p H H'' := fun b o e n => s _ _ (f b o e n)
theorem Fp.set {p : Addr} {H H' : Hp} {o : HO} (f : Fp p H H') : Fp p H (upd H' p o) := fun b u e n => by
  rw [upd_ne n]
  exact f b u e n
theorem Fp.of {p : Addr} {H H' : Hp} (s : Same H H') : Fp p H H' := fun b o e _ => s b o e
theorem Fp.trans {p : Addr} {H H' H'' : Hp} (f : Fp p H H') (g : Fp p H' H'') : Fp p H H'' := fun b o e n => g _ _ (f _ _ e n) n
theorem Fp.kt {p C dx : Addr} {H H' : Hp} {fs : List (Str × V)} (f : Fp p H H') (hp : H p = some (.ins C dx fs)) : Kt H H' := fun b xs e => f b _ e (by rintro rfl; rw [hp] at e; cases e)
theorem Fp.no {p a : Addr} {H H' : Hp} {o : HO} (f : Fp p H H') (hp : H' p = some o) (h : H' a = none) : H a = none := by
  cases e : H a with
  | none => rfl
  | some u =>
    have n : a ≠ p := by
      rintro rfl
      rw [h] at hp
      cases hp
    rw [f _ _ e n] at h
    cases h
theorem exUp_succ (W : Web) (i : Nat) : exUp W (i + 1) = exUp W i ++ (edsN W i).zipIdx.map fun y => (i, y.2, y.1) := by
  unfold exUp
  rw [List.range_succ, List.map_append, List.flatten_append]
  simp
theorem exUp_le (W : Web) {i n : Nat} (h : i ≤ n) : (exUp W i).length ≤ (exUp W n).length := by
  induction h with
  | refl => exact Nat.le_refl _
  | @step m _ ih =>
    rw [exUp_succ, List.length_append]
    omega
theorem EdL.app {C : Addr} {H : Hp} {W : Web} {xs ys : List V} {i : Nat} (h : EdL C H W xs (exUp W i)) (hl : ys.length = (edsN W i).length) (hy : ∀ (k : Nat) (e : Ed), (edsN W i)[k]? = some e → ∃ q : Addr, ys[k]? = some (.ref q) ∧ EOb C H W q i k e) : EdL C H W (xs ++ ys) (exUp W (i + 1)) := by
  rw [exUp_succ]
  refine ⟨by rw [List.length_append, List.length_append, h.1, hl, List.length_map, List.length_zipIdx], fun t y ht => ?_⟩
  by_cases hlt : t < (exUp W i).length
  · rw [List.getElem?_append_left hlt] at ht
    obtain ⟨q, h1, h2⟩ := h.2 t y ht
    exact ⟨q, by rw [List.getElem?_append_left (by rw [h.1]; exact hlt)]; exact h1, h2⟩
  · rw [List.getElem?_append_right (by omega), List.getElem?_map, List.getElem?_zipIdx] at ht
    cases he : (edsN W i)[t - (exUp W i).length]? with
    | none => rw [he] at ht; cases ht
    | some e =>
      rw [he] at ht
      obtain rfl := Option.some.inj ht
      obtain ⟨q, h1, h2⟩ := hy _ e he
      refine ⟨q, by rw [List.getElem?_append_right (by rw [h.1]; omega), h.1]; exact h1, ?_⟩
      show EOb C H W q i (0 + (t - (exUp W i).length)) e
      rw [Nat.zero_add]
      exact h2
theorem stage {H : Hp} {p D C dx : Addr} {o : HO} {fs fs' : List (Str × V)} (hD : H D = none) (hp : H p = some (.ins C dx fs)) : Fp p H (upd (upd H D o) p (.ins C dx fs')) ∧ (upd (upd H D o) p (.ins C dx fs')) D = some o ∧ (upd (upd H D o) p (.ins C dx fs')) p = some (.ins C dx fs') :=
  ⟨(Fp.of (same_new hD)).set, by rw [upd_ne (ne_of_none hp hD).symm, upd_same], upd_same⟩
theorem Fp.kx {p C CE dx : Addr} {H H' : Hp} {fs : List (Str × V)} (f : Fp p H H') (hp : H p = some (.ins C dx fs)) (n : C ≠ CE) : Kx CE H H' := ⟨f.kt hp, fun b dx' fs' e => f b _ e (by rintro rfl; rw [hp] at e; injection e with e; injection e with e; exact n e)⟩
theorem us_fn {es : List GE} {ends : List Nat} {s0 x : Nat} (h : Us es ends s0 x) : Fn es ends s0 := by
  induction h with
  | base h => exact h
  | goal _ _ _ ih => exact ih
  | call _ _ _ _ ih => exact ih
theorem finB_iff {n : Nat} {es : List GE} {ends O : List Nat} {ch : List (Option Nat)} (I : FinI n es ends O ch) (x : Nat) : finB ch ends x = true ↔ x ∈ O := by
  rw [← I.fin]
  unfold finB
  rw [Bool.or_eq_true, decide_eq_true_iff]
  refine or_congr ?_ Iff.rfl
  cases ch[x]? with
  | none => simp
  | some c => cases c <;> simp
theorem ends_put {l : List Nat} {x : Nat} (h : x ∉ l) : putK (endsKv l) (kN x) (.bl true) = endsKv (l ++ [x]) := by
  have h1 := ends_val (l := l) (x := x)
  rw [decide_eq_false h] at h1
  have h2 : valV (endsKv l) (kN x) = none := by
    cases e : valV (endsKv l) (kN x) with
    | none => rfl
    | some v =>
      have e : valV (endsKv l) (Sum.inl ((x : Nat) : Int)) = some v := e
      rw [e] at h1
      cases h1
  rw [putK_new _ h2]
  unfold endsKv
  rw [List.map_append]
  rfl
theorem fs_no {fs : List (Str × V)} {f m : Str} {v : V} (h : fs.lookup m = none) (hf : f ∈ cNames) (hm : m ∉ cNames) : (putF f v fs).lookup m = none := by
  rw [lookup_putF, if_neg (by rintro rfl; exact hm hf)]
  exact h
def fsA (lb : Int) (sl dl : Addr) : List (Str × V) := putF "ends" (.ref dl) (putF "starts" (.ref sl) (putF "label_count" (.int lb) []))
def fsB (lb : Int) (sl dl el : Addr) (n : Nat) : List (Str × V) := putF "edges" (.ref el) (putF "spot_count" (.int (n : Nat)) (fsA lb sl dl))
def fsC (lb : Int) (sl dl el da cl ol : Addr) (n : Nat) : List (Str × V) := putF "order" (.ref ol) (putF "choice" (.ref cl) (putF "ends_at" (.ref da) (fsB lb sl dl el n)))
def fsD (lb : Int) (sl dl el da cl o0 ol ca cr : Addr) (n : Nat) : List (Str × V) := putF "callers" (.ref cr) (putF "came" (.ref ca) (putF "order" (.ref ol) (fsC lb sl dl el da cl o0 n)))
/-- a whole chart -/
structure ChO (H : Hp) (C CE : Addr) (W : Web) (p dx cl da el sl dl ol ca cr ul : Addr) (ch : List (Option Nat)) (O us : List Nat) (xs : List V) (kvs cvs : List (Key × V)) (fs : List (Str × V)) : Prop where
  r : ChR H C CE W p dx cl da el sl ca cr ch xs fs
  lb : fs.lookup ("label_count" : Str) = some (.int W.lb)
  od : fs.lookup ("order" : Str) = some (.ref ol)
  en : fs.lookup ("ends" : Str) = some (.ref dl)
  ud : fs.lookup ("used" : Str) = some (.ref ul)
  ho : H ol = some (lN O)
  hd : H dl = some (lN (endsOf W))
  ha : H ca = some (.dK kvs)
  hr : H cr = some (.dK cvs)
  hu : H ul = some (lN us)
  fi : FinI (stN W.ns W.ns.length) (gesOf W) (endsOf W) O ch
  fd : ∀ x, x ∈ O ↔ Fn (gesOf W) (endsOf W) x
  re : ∀ x, Has kvs x ↔ Us (gesOf W) (endsOf W) 0 x
  um : ∀ a, a ∈ us ↔ ∃ e, (gesOf W)[a]? = some e ∧ Us (gesOf W) (endsOf W) 0 e.s ∧ Op (gesOf W) (endsOf W) e
  up : us.Pairwise (· < ·)
def spCI (C CE : Addr) : Sp := fun vs H Q _ => ∃ (g p dx : Addr) (vw : V) (W : Web), vs = [.ref p, vw] ∧ H p = some (.ins C dx []) ∧ DV g H vw (wbD W) ∧ OkW W ∧ C ≠ CE ∧
  ∀ (H' : Hp) (cl da el sl dl ol ca cr ul : Addr) (ch : List (Option Nat)) (O us : List Nat) (xs : List V) (kvs cvs : List (Key × V)) (fs : List (Str × V)), Fp p H H' → ChO H' C CE W p dx cl da el sl dl ol ca cr ul ch O us xs kvs cvs fs → Q .non H'
section
variable {P : Program} {w : World} {K : PySem.W.Frag} {mg : Str → Option Value} {base : Heap}
theorem scCi : FnScope ["self", "web", "spots", "places", "_", "net", "told", "at", "edge", "spot"] ["self", "web"] (defScope sCI) := ⟨rfl, rfl, rfl, by decide +kernel, rfl, by decide +kernel, by decide +kernel⟩
theorem ok_ci {f C CE fIU fIF fIO fFi fRe fEI : Addr} {fd fdIF fdIO fdFi fdRe fdEI : FuncData} (F : Fun K "__init__" "Chart.__init__" sCI f fd) (T : Bn mg) (CC : ChK K C fIU fIF fIO fFi fRe) (EE : ClA K CE eNames) (mEd : mg "Edge" = some (.ref CE)) (ME : Mk K CE fEI)
    (GIO : FnOk P w K mg base CX0 2 fIO fdIO ["self", "edge"] (spIO C CE)) (bIO : L2.Binds K fdIO ["self", "edge"] []) (GIF : FnOk P w K mg base CX0 1 fIF fdIF ["self", "spot"] (spIF C)) (bIF : L2.Binds K fdIF ["self", "spot"] [])
    (GFi : FnOk P w K mg base CX0 2 fFi fdFi ["self"] (spFi C CE)) (bFi : L2.Binds K fdFi ["self"] []) (GRe : FnOk P w K mg base CX0 3 fRe fdRe ["self"] (spRe C CE)) (bRe : L2.Binds K fdRe ["self"] [])
    (GEI : FnOk P w K mg base CX0 1 fEI fdEI ["self", "net", "at", "told", "starts"] (spEI CE)) (bEI : L2.Binds K fdEI ["self", "net", "at", "told", "starts"] []) : FnOk P w K mg base CX0 4 f fd ["self", "web"] (spCI C CE) := by
  refine F.ok scCi (fun vs H Q E h => ?_) (fun cdv A outer s H vs Q E hr h => ?_)
  · obtain ⟨a1, a2, a3, a4, a5, rfl, _⟩ := h
    rfl
  · obtain ⟨g, p, dx, vw, W, rfl, hp, hw, okw, hCE, kq⟩ := h
    have na := fun (f : Str) (h : f ∈ cNames) => CC.a.na f h
    have hu := hu_of hr
    have hr2 := hr.mono (show 2 ≤ 3 by decide)
    have hr1 := hr.mono (show 1 ≤ 3 by decide)
    have hn := st_le okw
    have hgl := ges_len okw
    have hn1 := okw.n1
    have hn4 := okw.n4
    refine ⟨_, (pss_cons (ps_fld (pv 0) (pe_ix ix_tup (pv 1) pe_int (fun _ _ => rfl)) rfl)
      (pss_cons (ps_fld (pv 0) (pe_lst pa_nil) rfl)
      (pss_cons (ps_fld (pv 0) (pe_lst pa_nil) rfl)
      (pss_cons (ps_set (i := 2) scCi.nd rfl (Or.inl rfl) pe_int)
      (pss_cons (ps_for PassesOwn.never rfl (pi_tup (pe_ix ix_tup (pv 1) pe_int (fun _ _ => rfl))) (pg_tup (by rfl) (pgs_cons (pg_name (i := 3) scCi.nd rfl (Or.inl rfl)) (pgs_cons (pg_name (i := 4) scCi.nd rfl (Or.inl rfl)) pgs_nil)))
          (pss_cons (ps_expr (qApp (pe_fld (pv 0) rfl) (pv 2)))
          (pss_cons (ps_aug (i := 2) scCi.nd rfl (Or.inl rfl) (pv 3) ip_add)
          (pss_one (ps_expr (qApp (pe_fld (pv 0) rfl) (pe_op op_sub (pv 2) pe_int)))))))
      (pss_cons (ps_fld (pv 0) (pv 2) rfl)
      (pss_cons (ps_fld (pv 0) (pe_lst pa_nil) rfl)
      (pss_cons (ps_for PassesOwn.never rfl (pi_enumT (by rfl) T.enu (pa_cons (pe_ix ix_tup (pv 1) pe_int (fun _ _ => rfl)) pa_nil)) (pg_tup (by rfl) (pgs_cons (pg_name (i := 5) scCi.nd rfl (Or.inr rfl)) (pgs_cons (pg_tup (by rfl) (pgs_cons (pg_name (i := 4) scCi.nd rfl (Or.inl rfl)) (pgs_cons (pg_name (i := 6) scCi.nd rfl (Or.inl rfl)) pgs_nil))) pgs_nil)))
          (pss_one (ps_expr (qExt (pe_fld (pv 0) rfl) (pe_lc (own := [("at", 7), ("edge", 8)]) (g := gTup K 2 (gCons (gName 7) (gCons (gName 8) gNil))) (tt := tYes) (by rfl) scCi.nd (pi_enumT (by rfl) T.enu (pa_cons (pv 6) pa_nil)) (blkOk_by (own := [("at", 7), ("edge", 8)]) (N := ["self", "web", "spots", "places", "_", "net", "told", "at", "edge", "spot"]) (sc := defScope sCI) (by decide +kernel)) (fun _ _ _ _ _ => (pg_tup (by rfl) (pgs_cons (pg_name (i := 7) scCi.nd rfl (Or.inl rfl)) (pgs_cons (pg_name (i := 8) scCi.nd rfl (Or.inl rfl)) pgs_nil)))) (fun _ _ _ _ _ => pts_nil) (fun _ _ _ _ _ => (pe_make ME GEI hr2 (by rfl) mEd bEI .nil pass0 (pa_cons (pv 5) (pa_cons (pv 7) (pa_cons (pv 8) (pa_cons (show PE _ _ (tFld K _ _) from pe_fld (pv 0) rfl) pa_nil)))))))))))
      (pss_cons (ps_fld (pv 0) (pe_dc (own := [("spot", 9)]) (g := gName 9) (tt := tYes) (by rfl) scCi.nd (pi_list (pe_fld (pv 0) rfl)) (blkOk_by (own := [("spot", 9)]) (N := ["self", "web", "spots", "places", "_", "net", "told", "at", "edge", "spot"]) (sc := defScope sCI) (by decide +kernel)) (fun _ _ _ _ _ => (pg_name (i := 9) scCi.nd rfl (Or.inl rfl))) (fun _ _ _ _ _ => pts_nil) (fun _ _ _ _ _ => (pv 9)) (fun _ _ _ _ _ => pe_bl)) rfl)
      (pss_cons (ps_fld (pv 0) (pe_op op_rep (pe_lst (pa_cons pe_non pa_nil)) (pv 2)) rfl)
      (pss_cons (ps_fld (pv 0) (pe_lst pa_nil) rfl)
      (pss_cons (ps_expr (pe_meth0 (pv 0) CC.a.cl CC.mFi GFi hr2 bFi .nil pass0))
      (pss_cons (ps_fld (pv 0) pe_dnewK rfl)
      (pss_cons (ps_fld (pv 0) pe_dnewK rfl)
      (pss_mid (ps_if (pt_val (pe_meth (pv 0) CC.a.cl CC.mIF GIF hr1 bIF .nil pass0 (pa_cons (pe_ix ix_list (pe_fld (pv 0) rfl) pe_int (fun _ _ => rfl)) pa_nil))) (pss_one (ps_expr (pe_meth0 (pv 0) CC.a.cl CC.mRe GRe hr bRe .nil pass0))) pss_nil)
      (pss_one (ps_fld (pv 0) (pe_lc (own := [("at", 7), ("edge", 8)]) (g := gTup K 2 (gCons (gName 7) (gCons (gName 8) gNil))) (by rfl) scCi.nd (pi_enum (by rfl) T.enu (pa_cons (pe_fld (pv 0) rfl) pa_nil)) (blkOk_by (own := [("at", 7), ("edge", 8)]) (N := ["self", "web", "spots", "places", "_", "net", "told", "at", "edge", "spot"]) (sc := defScope sCI) (by decide +kernel)) (fun _ _ _ _ _ => (pg_tup (by rfl) (pgs_cons (pg_name (i := 7) scCi.nd rfl (Or.inl rfl)) (pgs_cons (pg_name (i := 8) scCi.nd rfl (Or.inl rfl)) pgs_nil)))) (fun _ _ _ _ _ => (pts_one (PW.pt (pw_and (pt_cmp (pc_din hu (show PE _ _ (tFld K _ _) from pe_fld (pv 8) rfl) (show PE _ _ (tFld K _ _) from pe_fld (pv 0) rfl))) (pw_and1 (pt_val (pe_meth (pv 0) CC.a.cl CC.mIO GIO hr2 bIO .nil pass0 (pa_cons (pv 8) pa_nil)))))))) (fun _ _ _ _ _ => (pv 7))) rfl))))))))))))))))), ?_⟩
    obtain ⟨b0, c0, xn, rfl, eb0, ec0, rn⟩ := wb_at hw
    have hnl : xn.length = W.ns.length := by rw [rn.len, List.length_map]
    have fb : ∀ {H'}, Fp p H H' → H' b0 = some (.tup [.int W.lb, .ref c0]) := fun {H'} f => f _ _ eb0 (by rintro rfl; rw [hp] at eb0; cases eb0)
    have fc : ∀ {H'}, Fp p H H' → H' c0 = some (.tup xn) := fun {H'} f => f _ _ ec0 (by rintro rfl; rw [hp] at ec0; cases ec0)
    -- label_count, starts, ends
    refine ⟨_, rfl, b0, _, 0, _, rfl, rfl, SqT.of eb0, atI_nat (j := 0) rfl, _, rfl, p, C, dx, [], rfl, hp, CC.a.cl, na "label_count" (by decide +kernel), by decide, ?_⟩
    have f1 : Fp p H (upd H p (.ins C dx (putF "label_count" (.int W.lb) []))) := (Fp.of (Same.refl H)).set
    have p1 : (upd H p (.ins C dx (putF "label_count" (.int W.lb) []))) p = some (.ins C dx (putF "label_count" (.int W.lb) [])) := upd_same
    generalize upd H p (.ins C dx (putF "label_count" (.int W.lb) [])) = H1 at f1 p1 ⊢
    refine ⟨Nat.zero_le _, fun sl hsl => ⟨_, rfl, p, C, dx, _, rfl, by rw [upd_ne (ne_of_none p1 hsl)]; exact p1, CC.a.cl, na "starts" (by decide +kernel), (by refine Nat.lt_of_le_of_lt (m := 40) ?_ (by decide); repeat (first | refine putF_le ?_ | exact Nat.zero_le _)), ?_⟩⟩
    have f2 := (f1.same (same_new (o := .lst []) hsl)).set (o := .ins C dx (putF "starts" (.ref sl) (putF "label_count" (.int W.lb) [])))
    have nsp : sl ≠ p := (ne_of_none p1 hsl).symm
    have sl2 : (upd (upd H1 sl (.lst [])) p (.ins C dx (putF "starts" (.ref sl) (putF "label_count" (.int W.lb) [])))) sl = some (.lst []) := by rw [upd_ne nsp, upd_same]
    have p2 : (upd (upd H1 sl (.lst [])) p (.ins C dx (putF "starts" (.ref sl) (putF "label_count" (.int W.lb) [])))) p = some (.ins C dx (putF "starts" (.ref sl) (putF "label_count" (.int W.lb) []))) := upd_same
    generalize upd (upd H1 sl (.lst [])) p (.ins C dx (putF "starts" (.ref sl) (putF "label_count" (.int W.lb) []))) = H2 at f2 sl2 p2 ⊢
    refine ⟨Nat.zero_le _, fun dl hdl => ⟨_, rfl, p, C, dx, _, rfl, by rw [upd_ne (ne_of_none p2 hdl)]; exact p2, CC.a.cl, na "ends" (by decide +kernel), (by refine Nat.lt_of_le_of_lt (m := 40) ?_ (by decide); repeat (first | refine putF_le ?_ | exact Nat.zero_le _)), ?_⟩⟩
    have nlp : dl ≠ p := (ne_of_none p2 hdl).symm
    have nls : dl ≠ sl := (ne_of_none sl2 hdl).symm
    have f3 := (f2.same (same_new (o := .lst []) hdl)).set (o := .ins C dx (fsA W.lb sl dl))
    have sl3 : (upd (upd H2 dl (.lst [])) p (.ins C dx (fsA W.lb sl dl))) sl = some (.lst []) := by rw [upd_ne nsp, upd_ne nls.symm]; exact sl2
    have dl3 : (upd (upd H2 dl (.lst [])) p (.ins C dx (fsA W.lb sl dl))) dl = some (.lst []) := by rw [upd_ne nlp, upd_same]
    have p3 : (upd (upd H2 dl (.lst [])) p (.ins C dx (fsA W.lb sl dl))) p = some (.ins C dx (fsA W.lb sl dl)) := upd_same
    have sl0 := f1.no p1 hsl
    have dl0 := f2.no p2 hdl
    change (fun H3 => _) (upd (upd H2 dl (.lst [])) p (.ins C dx (fsA W.lb sl dl)))
    generalize upd (upd H2 dl (.lst [])) p (.ins C dx (fsA W.lb sl dl)) = H3 at f3 sl3 dl3 p3 ⊢
    clear f1 f2 p1 p2 sl2 hsl hdl H1 H2
    refine ⟨_, rfl, b0, _, 1, _, rfl, rfl, SqT.of (fb f3), atI_nat (j := 1) rfl, c0, rfl, ⟨_, SqT.of (fc f3)⟩, ?_⟩
    have ls : (fsA W.lb sl dl).lookup ("starts" : Str) = some (.ref sl) := by unfold fsA; exact (by repeat (rw [lookup_putF]; first | rw [if_pos rfl] | rw [if_neg (by decide +kernel)]))
    have le : (fsA W.lb sl dl).lookup ("ends" : Str) = some (.ref dl) := by unfold fsA; exact (by repeat (rw [lookup_putF]; first | rw [if_pos rfl] | rw [if_neg (by decide +kernel)]))
    refine for_it (walk_tup (K := K) (a := c0) (xs := xn)) (fun i σ H' => ∃ v3 v4 v5 v6 v7 v8 v9 : Option V, σ = [some (.ref p), some (.ref b0), some (.int (stN W.ns i : Nat)), v3, v4, v5, v6, v7, v8, v9] ∧ Fp p H H' ∧ H' p = some (.ins C dx (fsA W.lb sl dl)) ∧ H' sl = some (lN ((List.range i).map (stN W.ns))) ∧ H' dl = some (lN ((List.range i).map fun a => stN W.ns (a + 1) - 1)))
      ⟨_, _, _, _, _, _, _, rfl, f3, p3, sl3, dl3⟩ (fun i σ H' _ ⟨_, _, _, _, _, _, _, _, f, _⟩ => SqT.of (fc f)) ?_ ?_
    · rintro i x σ H4z H4 hi ⟨v3, v4, v5, v6, v7, v8, v9, rfl, f4, p4, sl4, dl4⟩ ⟨rfl, hx⟩
      obtain ⟨dn, hdn, hxd⟩ := rn.at_ hx
      rw [List.getElem?_map] at hdn
      obtain ⟨nt, hnt, rfl⟩ := Option.map_eq_some_iff.mp hdn
      obtain ⟨b3, c3, xe, rfl, eb3, ec3, re⟩ := nt_at hxd
      have npos := okw.pos nt (List.mem_of_getElem? hnt)
      have hil : i < W.ns.length := by rw [← hnl]; exact hi
      have est := st_succ hnt
      have eq : ((stN W.ns i : Nat) : Int) + nt.1 = (stN W.ns (i + 1) : Nat) := by rw [est]; omega
      have eq2 : ((stN W.ns (i + 1) : Nat) : Int) - 1 = (stN W.ns (i + 1) - 1 : Nat) := by rw [est]; omega
      have eb3' := f4 _ _ eb3 (by rintro rfl; rw [hp] at eb3; cases eb3)
      refine ⟨b3, _, rfl, SqT.of eb3', (by rfl), _, _, rfl, _, _, rfl, rfl, ?_⟩
      refine ⟨_, rfl, p, C, dx, _, _, rfl, p4, CC.a.cl, na "starts" (by decide +kernel), ls, .inl ⟨rfl, _, SqL.of sl4⟩, _, rfl, sl, _, _, rfl, rfl, sl4, ?_, ?_⟩
      · rw [List.length_map, List.length_map, List.length_range, sizeLine_eq]
        omega
      have f5 : Fp p H (upd H4 sl (lN ((List.range (i + 1)).map (stN W.ns)))) := fun b o e n => by
        rw [upd_ne (ne_of_none e sl0)]
        exact f4 _ _ e n
      have p5 : (upd H4 sl (lN ((List.range (i + 1)).map (stN W.ns)))) p = some (.ins C dx (fsA W.lb sl dl)) := by rw [upd_ne nsp.symm]; exact p4
      have dl5 : (upd H4 sl (lN ((List.range (i + 1)).map (stN W.ns)))) dl = some (lN ((List.range i).map fun a => stN W.ns (a + 1) - 1)) := by rw [upd_ne nls]; exact dl4
      have sl5 : (upd H4 sl (lN ((List.range (i + 1)).map (stN W.ns)))) sl = some (lN ((List.range (i + 1)).map (stN W.ns))) := upd_same
      have eL : (HO.lst (((List.range i).map (stN W.ns)).map (fun n => V.int (n : Nat)) ++ [V.int (stN W.ns i : Nat)])) = lN ((List.range (i + 1)).map (stN W.ns)) := by
        unfold lN
        rw [List.range_succ, List.map_append, List.map_append]
        rfl
      rw [eL]
      generalize upd H4 sl _ = H5 at f5 p5 dl5 sl5 ⊢
      refine ⟨_, rfl, _, rfl, _, _, rfl, rfl, ?_⟩
      refine ⟨_, rfl, p, C, dx, _, _, rfl, p5, CC.a.cl, na "ends" (by decide +kernel), le, .inl ⟨rfl, _, SqL.of dl5⟩, _, rfl, _, _, rfl, rfl, dl, _, _, rfl, rfl, dl5, ?_, ?_⟩
      · rw [List.length_map, List.length_map, List.length_range, sizeLine_eq]
        omega
      have eL2 : (HO.lst (((List.range i).map fun a => stN W.ns (a + 1) - 1).map (fun n => V.int (n : Nat)) ++ [V.int (((stN W.ns i : Nat) : Int) + nt.1 - 1)])) = lN ((List.range (i + 1)).map fun a => stN W.ns (a + 1) - 1) := by
        rw [eq, eq2]
        unfold lN
        rw [List.range_succ, List.map_append, List.map_append]
        rfl
      generalize hH6 : upd H5 dl _ = H6
      have e6 : H6 = upd H5 dl (lN ((List.range (i + 1)).map fun a => stN W.ns (a + 1) - 1)) := by
        rw [← hH6]
        exact congrArg (fun o => upd H5 dl o) eL2
      refine ⟨some (.int nt.1), some (.ref c3), v5, v6, v7, v8, v9, ?_, ?_, ?_, ?_, ?_⟩
      · show [some (V.ref p), some (.ref b0), some (V.int (((stN W.ns i : Nat) : Int) + nt.1)), _, _, _, _, _, _, _] = _
        rw [eq]
      · rw [e6]
        intro b o e n
        rw [upd_ne (ne_of_none e dl0)]
        exact f5 _ _ e n
      · rw [e6, upd_ne nlp.symm]
        exact p5
      · rw [e6, upd_ne nls.symm]
        exact sl5
      · rw [e6, upd_same]
    rintro σ H4 ⟨v3, v4, v5, v6, v7, v8, v9, rfl, f4, p4, sl4, dl4⟩
    rw [hnl] at sl4 dl4 ⊢
    replace sl4 : H4 sl = some (.lst (stsV W)) := by
      rw [sl4]
      unfold lN stsV
      rw [List.map_map]
      rfl
    replace dl4 : H4 dl = some (lN (endsOf W)) := dl4
    clear f3 sl3 dl3 p3 H3
    refine ⟨_, rfl, _, rfl, p, C, dx, _, rfl, p4, CC.a.cl, na "spot_count" (by decide +kernel), (by refine Nat.lt_of_le_of_lt (m := 40) ?_ (by decide); repeat (first | refine putF_le ?_ | exact Nat.zero_le _)), ?_⟩
    have f5 := f4.set (o := .ins C dx (putF "spot_count" (.int (stN W.ns W.ns.length : Nat)) (fsA W.lb sl dl)))
    have p5 : (upd H4 p (.ins C dx (putF "spot_count" (.int (stN W.ns W.ns.length : Nat)) (fsA W.lb sl dl)))) p = some (.ins C dx (putF "spot_count" (.int (stN W.ns W.ns.length : Nat)) (fsA W.lb sl dl))) := upd_same
    have sl5 : (upd H4 p (.ins C dx (putF "spot_count" (.int (stN W.ns W.ns.length : Nat)) (fsA W.lb sl dl)))) sl = some (.lst (stsV W)) := by rw [upd_ne nsp]; exact sl4
    have dl5 : (upd H4 p (.ins C dx (putF "spot_count" (.int (stN W.ns W.ns.length : Nat)) (fsA W.lb sl dl)))) dl = some (lN (endsOf W)) := by rw [upd_ne nlp]; exact dl4
    change (fun H5 => _) (upd H4 p (.ins C dx (putF "spot_count" (.int (stN W.ns W.ns.length : Nat)) (fsA W.lb sl dl))))
    generalize upd H4 p _ = H5 at f5 p5 sl5 dl5 ⊢
    refine ⟨Nat.zero_le _, fun el hel => ⟨_, rfl, p, C, dx, _, rfl, by rw [upd_ne (ne_of_none p5 hel)]; exact p5, CC.a.cl, na "edges" (by decide +kernel), (by refine Nat.lt_of_le_of_lt (m := 40) ?_ (by decide); repeat (first | refine putF_le ?_ | exact Nat.zero_le _)), ?_⟩⟩
    have nep : el ≠ p := (ne_of_none p5 hel).symm
    have nes : el ≠ sl := (ne_of_none sl5 hel).symm
    have ned : el ≠ dl := (ne_of_none dl5 hel).symm
    have el0 := f5.no p5 hel
    have f6 := (f5.same (same_new (o := .lst []) hel)).set (o := .ins C dx (fsB W.lb sl dl el (stN W.ns W.ns.length)))
    have el6 : (upd (upd H5 el (.lst [])) p (.ins C dx (fsB W.lb sl dl el (stN W.ns W.ns.length)))) el = some (.lst []) := by rw [upd_ne nep, upd_same]
    have p6 : (upd (upd H5 el (.lst [])) p (.ins C dx (fsB W.lb sl dl el (stN W.ns W.ns.length)))) p = some (.ins C dx (fsB W.lb sl dl el (stN W.ns W.ns.length))) := upd_same
    have sl6 : (upd (upd H5 el (.lst [])) p (.ins C dx (fsB W.lb sl dl el (stN W.ns W.ns.length)))) sl = some (.lst (stsV W)) := by rw [upd_ne nsp, upd_ne nes.symm]; exact sl5
    have dl6 : (upd (upd H5 el (.lst [])) p (.ins C dx (fsB W.lb sl dl el (stN W.ns W.ns.length)))) dl = some (lN (endsOf W)) := by rw [upd_ne nlp, upd_ne ned.symm]; exact dl5
    change (fun H6 => _) (upd (upd H5 el (.lst [])) p (.ins C dx (fsB W.lb sl dl el (stN W.ns W.ns.length))))
    generalize upd (upd H5 el (.lst [])) p _ = H6 at f6 el6 p6 sl6 dl6 ⊢
    clear f5 p5 sl5 dl5 hel H5 f4 p4 sl4 dl4 H4
    have ls6 : (fsB W.lb sl dl el (stN W.ns W.ns.length)).lookup ("starts" : Str) = some (.ref sl) := by unfold fsB fsA; exact (by repeat (rw [lookup_putF]; first | rw [if_pos rfl] | rw [if_neg (by decide +kernel)]))
    have le6 : (fsB W.lb sl dl el (stN W.ns W.ns.length)).lookup ("edges" : Str) = some (.ref el) := by unfold fsB fsA; exact (by repeat (rw [lookup_putF]; first | rw [if_pos rfl] | rw [if_neg (by decide +kernel)]))
    have fw : ∀ {H'}, Fp el H6 H' → Fp p H H' := fun {H'} f b o e n => f b o (f6 b o e n) (ne_of_none e el0)
    have pw : ∀ {H'}, Fp el H6 H' → H' p = some (.ins C dx (fsB W.lb sl dl el (stN W.ns W.ns.length))) := fun {H'} f => f _ _ p6 nep.symm
    have hexl := ex_len (W := W)
    -- the edges
    refine ⟨_, rfl, b0, _, 1, _, rfl, rfl, SqT.of (fb f6), atI_nat (j := 1) rfl, c0, xn, rfl, SqT.of (fc f6), ?_⟩
    refine for_it (walk_enumT (K := K) (a := c0) (xs := xn)) (fun i σ H' => ∃ (xs : List V) (v3 v4 v5 v6 v7 v8 v9 : Option V), σ = [some (.ref p), some (.ref b0), some (.int (stN W.ns W.ns.length : Nat)), v3, v4, v5, v6, v7, v8, v9] ∧ Fp el H6 H' ∧ H' el = some (.lst xs) ∧ EdL CE H' W xs (exUp W i))
      ⟨[], _, _, _, _, _, _, _, rfl, Fp.of (Same.refl H6), el6, rfl, fun t y h => by cases h⟩ (fun i σ H' _ ⟨_, _, _, _, _, _, _, _, _, f, _⟩ => SqT.of (fc (fw f))) ?_ ?_
    · rintro i x σ H7 H7z hi ⟨xs, v3, v4, v5, v6, v7, v8, v9, rfl, f7, el7, ed7⟩ ⟨T0, x', y, rfl, hT, hH7, hx, hy⟩
      obtain rfl := Option.some.inj hx
      obtain ⟨sT, eT⟩ := freshF hT hH7.symm
      obtain ⟨dn, hdn, hyd⟩ := rn.at_ hy
      rw [List.getElem?_map] at hdn
      obtain ⟨nt, hnt, rfl⟩ := Option.map_eq_some_iff.mp hdn
      obtain ⟨b3, c3, xe, rfl, eb3, ec3, re⟩ := nt_at hyd
      have hil : i < W.ns.length := by rw [← hnl]; exact hi
      have f7z := f7.same sT
      have eb3' := fw f7z _ _ eb3 (by rintro rfl; rw [hp] at eb3; cases eb3)
      have ec3' := fw f7z _ _ ec3 (by rintro rfl; rw [hp] at ec3; cases ec3)
      have re' : ∀ {H'}, Kt H7z H' → DVs g H' xe (nt.2.map edD) := fun {H'} k => re.keepP (fun b xs e => k _ _ ((fw f7z).kt hp _ _ e)) (eds_pur nt.2)
      refine ⟨T0, _, rfl, SqT.of eT, (by rfl), _, _, rfl, _, _, rfl, b3, _, rfl, SqT.of eb3', (by rfl), _, _, rfl, _, _, rfl, rfl, rfl, ?_⟩
      refine ⟨_, rfl, p, C, dx, _, _, rfl, pw f7z, CC.a.cl, na "edges" (by decide +kernel), le6, .inl ⟨rfl, _, SqL.of (sT _ _ el7)⟩, ?_⟩
      refine ⟨_, rfl, c3, xe, rfl, SqT.of ec3', fun D hD => ?_⟩
      have hxe : xe.length = nt.2.length := by rw [re.len, List.length_map]
      have hedn : edsN W i = nt.2 := by
        unfold edsN
        rw [hnt]
        rfl
      have hedl : (exUp W i).length + nt.2.length ≤ 8000 := by
        have h1 := exUp_le W (show i + 1 ≤ W.ns.length by omega)
        rw [exUp_succ, List.length_append, List.length_map, List.length_zipIdx, hedn] at h1
        have : (exUp W W.ns.length).length = (gesOf W).length := hexl
        omega
      refine lc_it (walk_enumT (K := K) (a := c3) (xs := xe)) (fun j H' => ∃ ys : List V, H' D = some (.lst ys) ∧ Same H7z H' ∧ ys.length = j ∧ ∀ (k : Nat) (e : Ed), k < j → nt.2[k]? = some e → ∃ q : Addr, ys[k]? = some (.ref q) ∧ EOb CE H' W q i k e) ⟨[], upd_same, same_new hD, rfl, fun k e h => absurd h (Nat.not_lt_zero _)⟩ (fun j H' _ ⟨_, _, s', _⟩ => SqT.of (s' _ _ ec3')) ?_ ?_
      · rintro j x H8z H8 hj ⟨ys, e8, s8, hyl, hys⟩ ⟨T1, x', y, rfl, hT1, hH8, hx, hy⟩
        obtain rfl := Option.some.inj hx
        obtain ⟨sT1, eT1⟩ := freshF hT1 hH8.symm
        have s08 := s8.trans sT1
        obtain ⟨de, hde, hye⟩ := (re' (Kt.of s08)).at_ hy
        rw [List.getElem?_map] at hde
        obtain ⟨e, he, rfl⟩ := Option.map_eq_some_iff.mp hde
        refine ⟨T1, _, rfl, SqT.of eT1, (by rfl), _, _, rfl, _, _, rfl, rfl, (by rfl), ?_⟩
        refine ⟨_, rfl, _, rfl, _, rfl, _, rfl, p, C, dx, _, _, rfl, s08 _ _ (pw f7z), CC.a.cl, na "starts" (by decide +kernel), ls6, fun q dq hq hdq hne => ?_⟩
        have sq : Same H8 (upd (upd H8 dq (.own q)) q (.ins CE dq [])) := fun b o eb => by
          rw [upd_ne (ne_of_none eb hq), upd_ne (ne_of_none eb hdq)]
          exact eb
        refine ⟨g, q, dq, sl, _, W, i, j, nt, e, rfl, upd_same, hye.keepP (Kt.of sq) (ed_pur e), sq _ _ (s08 _ _ (f7z _ _ sl6 nes.symm)), hnt, List.mem_of_getElem? he, okw, fun H9 f9 ob => ⟨rfl, ys, ?_, ?_, ys ++ [.ref q], upd_same, ?_, ?_, ?_⟩⟩
        all_goals have s9 : Same H8 H9 := fun b o eb => f9 _ _ (sq _ _ eb) (ne_of_none eb hq)
        · exact s9 _ _ (sT1 _ _ e8)
        · rw [sizeLine_eq]
          omega
        · intro b o eb
          rw [upd_ne (ne_of_none eb hD)]
          exact s9 _ _ (s08 _ _ eb)
        · rw [List.length_append, hyl]
          rfl
        · have eD := s9 _ _ (sT1 _ _ e8)
          intro k e' hk he'
          by_cases hkj : k < j
          · obtain ⟨q', h1, h2⟩ := hys k e' hkj he'
            refine ⟨q', by rw [List.getElem?_append_left (by omega)]; exact h1, (h2.kx (Kx.of (sT1.trans s9))).kx (Kx.putL eD)⟩
          · have hkj : k = j := by omega
            subst hkj
            obtain rfl := Option.some.inj (he.symm.trans he')
            refine ⟨q, by rw [List.getElem?_append_right (by omega), hyl, Nat.sub_self]; rfl, ob.kx (Kx.putL eD)⟩
      rintro H8 ⟨ys, e8, s8, hyl, hys⟩
      rw [hxe] at hyl hys
      have el8 := s8 _ _ (sT _ _ el7)
      refine ⟨el, D, xs, ys, rfl, rfl, el8, e8, by rw [ed7.1, sizeLine_eq]; omega, ?_⟩
      refine ⟨xs ++ ys, _, _, _, _, _, _, _, rfl, (f7z.same s8).set, upd_same, ?_⟩
      have kx := Kx.putL (C := CE) (o := .lst (xs ++ ys)) el8
      refine EdL.app ((ed7.kx (Kx.of (sT.trans s8))).kx kx) (by rw [hyl, hedn]) fun k e he => ?_
      rw [hedn] at he
      obtain ⟨q, h1, h2⟩ := hys k e (List.getElem?_eq_some_iff.mp he).1 he
      exact ⟨q, h1, h2.kx kx⟩
    rintro σ H7 ⟨xs, v3, v4, v5, v6, v7, v8, v9, rfl, f7, el7, ed7⟩
    rw [hnl] at ed7
    have ed7 : EdL CE H7 W xs (exOf W) := ed7
    have p7 := pw f7
    have sl7 := f7 _ _ sl6 nes.symm
    have dl7 := f7 _ _ dl6 ned.symm
    have fw7 := fw f7
    clear f7 pw fw f6 el6 p6 sl6 dl6 H6
    have hxl : xs.length = (gesOf W).length := ed7.1.trans ex_len
    have hel8 : (endsOf W).length ≤ 400 := by
      unfold endsOf
      rw [List.length_map, List.length_range]
      exact hn4
    -- ends_at
    refine ⟨_, rfl, p, C, dx, _, _, rfl, p7, CC.a.cl, na "ends" (by decide +kernel), by unfold fsB fsA; exact (by repeat (rw [lookup_putF]; first | rw [if_pos rfl] | rw [if_neg (by decide +kernel)])), dl, rfl, ⟨_, SqL.of dl7⟩, fun da hda => ?_⟩
    refine dc_it (walk_list (K := K) (a := dl) (xs := (endsOf W).map fun n => V.int (n : Nat))) (fun i H' => H' da = some (.dK (endsKv ((endsOf W).take i))) ∧ Same H7 H') ⟨upd_same, same_new hda⟩ (fun _ _ _ h => SqL.of (h.2 _ _ dl7)) ?_ ?_
    · rintro i x H8z H8 hi ⟨e8, s8⟩ ⟨rfl, hx⟩
      rw [List.getElem?_map] at hx
      cases hy : (endsOf W)[i]? with
      | none => rw [hy] at hx; cases hx
      | some y =>
      rw [hy] at hx
      obtain rfl := Option.some.inj hx
      refine ⟨(by rfl), _, rfl, _, kN y, rfl, e8, ?_, ?_, ?_⟩
      · unfold endsKv
        rw [List.length_map, List.length_take, sizeLine_eq]
        omega
      · rw [upd_same]
        have : y ∉ (endsOf W).take i := fun hm => by
          obtain ⟨j, hj⟩ := List.getElem?_of_mem hm
          have hjl := (List.getElem?_eq_some_iff.mp hj).1
          rw [List.length_take] at hjl
          rw [List.getElem?_take_of_lt (by omega)] at hj
          have := nodup_at (ends_nd okw) hj hy
          omega
        rw [ends_put this, List.take_succ, hy]
        rfl
      · intro b o eb
        rw [upd_ne (ne_of_none eb hda)]
        exact s8 _ _ eb
    rintro H8z ⟨e8z, s8z⟩
    rw [List.length_map, List.take_length] at e8z
    refine ⟨_, rfl, p, C, dx, _, rfl, s8z _ _ p7, CC.a.cl, na "ends_at" (by decide +kernel), (by refine Nat.lt_of_le_of_lt (m := 40) ?_ (by decide); repeat (first | refine putF_le ?_ | exact Nat.zero_le _)), ?_⟩
    have f8 : Fp p H7 (upd H8z p (.ins C dx (putF "ends_at" (.ref da) (fsB W.lb sl dl el (stN W.ns W.ns.length))))) := (Fp.of s8z).set
    have da8 : (upd H8z p (.ins C dx (putF "ends_at" (.ref da) (fsB W.lb sl dl el (stN W.ns W.ns.length))))) da = some (.dK (endsKv (endsOf W))) := by rw [upd_ne (ne_of_none p7 hda).symm]; exact e8z
    have p8 : (upd H8z p (.ins C dx (putF "ends_at" (.ref da) (fsB W.lb sl dl el (stN W.ns W.ns.length))))) p = some (.ins C dx (putF "ends_at" (.ref da) (fsB W.lb sl dl el (stN W.ns W.ns.length)))) := upd_same
    change (fun H8 => _) (upd H8z p (.ins C dx (putF "ends_at" (.ref da) (fsB W.lb sl dl el (stN W.ns W.ns.length)))))
    generalize upd H8z p _ = H8 at f8 da8 p8 ⊢
    clear e8z s8z H8z
    -- choice
    refine ⟨(by show 1 ≤ sizeLine; decide), fun z1 hz1 => ?_⟩
    have s9z := same_new (o := .lst [.non]) hz1
    refine ⟨_, rfl, z1, ((stN W.ns W.ns.length : Nat) : Int), [.non], rfl, rfl, upd_same, by omega, by omega, by rw [Int.toNat_natCast, sizeLine_eq]; show 1 * _ ≤ _; omega, fun cl hcl => ?_⟩
    refine ⟨_, rfl, p, C, dx, _, rfl, by rw [upd_ne (ne_of_none (s9z _ _ p8) hcl)]; exact s9z _ _ p8, CC.a.cl, na "choice" (by decide +kernel), (by refine Nat.lt_of_le_of_lt (m := 40) ?_ (by decide); repeat (first | refine putF_le ?_ | exact Nat.zero_le _)), ?_⟩
    obtain ⟨f9, cl9, p9⟩ := stage (o := .lst (List.replicate ((stN W.ns W.ns.length : Nat) : Int).toNat [V.non]).flatten) (fs' := putF "choice" (.ref cl) (putF "ends_at" (.ref da) (fsB W.lb sl dl el (stN W.ns W.ns.length)))) hcl (s9z _ _ p8)
    change (fun H9 => _) (upd (upd (upd H8 z1 (.lst [.non])) cl (.lst (List.replicate ((stN W.ns W.ns.length : Nat) : Int).toNat [V.non]).flatten)) p (.ins C dx (putF "choice" (.ref cl) (putF "ends_at" (.ref da) (fsB W.lb sl dl el (stN W.ns W.ns.length))))))
    have ncl : ∀ {a : Addr} {o : HO}, H8 a = some o → a ≠ cl := fun {a o} e => ne_of_none (s9z _ _ e) hcl
    generalize upd (upd (upd H8 z1 _) cl _) p _ = H9 at f9 cl9 p9 ⊢
    have hrep : (List.replicate ((stN W.ns W.ns.length : Nat) : Int).toNat [V.non]).flatten = (List.replicate (stN W.ns W.ns.length) none).map oN := by
      rw [Int.toNat_natCast]
      generalize stN W.ns W.ns.length = m
      induction m with
      | zero => rfl
      | succ m ih => rw [List.replicate_succ, List.flatten_cons, ih, List.replicate_succ, List.map_cons]; rfl
    rw [hrep] at cl9
    have f9' : Fp p H8 H9 := fun b o e n => f9 b o (s9z _ _ e) n
    clear f9 hcl hz1 s9z
    -- order
    refine ⟨Nat.zero_le _, fun o0 ho0 => ⟨_, rfl, p, C, dx, _, rfl, by rw [upd_ne (ne_of_none p9 ho0)]; exact p9, CC.a.cl, na "order" (by decide +kernel), (by refine Nat.lt_of_le_of_lt (m := 40) ?_ (by decide); repeat (first | refine putF_le ?_ | exact Nat.zero_le _)), ?_⟩⟩
    obtain ⟨f10, -, p10⟩ := stage (o := .lst []) (fs' := fsC W.lb sl dl el da cl o0 (stN W.ns W.ns.length)) ho0 p9
    change (fun H10 => _) (upd (upd H9 o0 (.lst [])) p (.ins C dx (fsC W.lb sl dl el da cl o0 (stN W.ns W.ns.length))))
    generalize upd (upd H9 o0 _) p _ = H10 at f10 p10 ⊢
    have notp : ∀ {H' : Hp} {a : Addr} {o : HO} {fs : List (Str × V)}, H' p = some (.ins C dx fs) → H' a = some o → (∀ dx' fs', o ≠ .ins C dx' fs') → a ≠ p := fun hp' ha hn => by
      rintro rfl
      rw [hp'] at ha
      exact hn _ _ (Option.some.inj ha).symm
    have lnp : ∀ {H' : Hp} {a : Addr} {l : List V} {fs : List (Str × V)}, H' p = some (.ins C dx fs) → H' a = some (.lst l) → a ≠ p := fun hp' ha => notp hp' ha (fun _ _ z => by cases z)
    have f710 : Fp p H7 H10 := (f8.trans f9').trans f10
    have nep := lnp p7 el7
    have ndap := notp p8 da8 (fun _ _ z => by cases z)
    have nclp := lnp p9 cl9
    have el10 := f710 _ _ el7 nep
    have sl10 := f710 _ _ sl7 nsp
    have dl10 := f710 _ _ dl7 nlp
    have da10 := (f9'.trans f10) _ _ da8 ndap
    have cl10 := f10 _ _ cl9 nclp
    have ed10 := ed7.kx (f710.kx p7 hCE)
    have necl := ncl (f8 _ _ el7 nep)
    have ndcl := ncl (f8 _ _ dl7 nlp)
    have nscl := ncl (f8 _ _ sl7 nsp)
    have ndacl := ncl da8
    have cl0 : H cl = none := by
      have h1 := (fw7.trans f8)
      cases e : H cl with
      | none => rfl
      | some o => exact absurd rfl (ncl (h1 _ _ e nclp))
    have f010 : Fp p H H10 := fw7.trans f710
    clear f8 f9' f10 p8 p9 da8 cl9 ncl f710 ed7 el7 sl7 dl7 p7 fw7
    have hln : (fsC W.lb sl dl el da cl o0 (stN W.ns W.ns.length)).length < 900 := by unfold fsC fsB fsA; exact (by refine Nat.lt_of_le_of_lt (m := 40) ?_ (by decide); repeat (first | refine putF_le ?_ | exact Nat.zero_le _))
    have noC : ∀ m, m ∉ cNames → (fsC W.lb sl dl el da cl o0 (stN W.ns W.ns.length)).lookup m = none := fun m hm => by
      unfold fsC fsB fsA
      exact fs_no (fs_no (fs_no (fs_no (fs_no (fs_no (fs_no (fs_no rfl (by decide +kernel) hm) (by decide +kernel) hm) (by decide +kernel) hm) (by decide +kernel) hm) (by decide +kernel) hm) (by decide +kernel) hm) (by decide +kernel) hm) (by decide +kernel) hm
    -- finish
    refine ⟨_, rfl, p, dx, _, rfl, p10, noC "finish" (by decide +kernel), p, dx, cl, el, dl, xs, _, W, rfl, ⟨p10, by unfold fsC fsB fsA; exact (by repeat (rw [lookup_putF]; first | rw [if_pos rfl] | rw [if_neg (by decide +kernel)])), by unfold fsC fsB fsA; exact (by repeat (rw [lookup_putF]; first | rw [if_pos rfl] | rw [if_neg (by decide +kernel)])), by unfold fsC fsB fsA; exact (by repeat (rw [lookup_putF]; first | rw [if_pos rfl] | rw [if_neg (by decide +kernel)])), by unfold fsC fsB fsA; exact (by repeat (rw [lookup_putF]; first | rw [if_pos rfl] | rw [if_neg (by decide +kernel)])), el10, ed10, dl10, necl, ndcl, hCE, hln⟩, okw, cl10, fun H12 ol O ch fr12 hol ol12 cl12 p12 I12 fd12 => ?_⟩
    have el12 := fr12 _ _ el10 nep necl
    have sl12 := fr12 _ _ sl10 nsp nscl
    have dl12 := fr12 _ _ dl10 nlp ndcl
    have da12 := fr12 _ _ da10 ndap ndacl
    have ed12 := ed10.kx (fr12.kx p10 cl10 hCE)
    have f012 : Fp p H H12 := fun b o e n => fr12 b o (f010 b o e n) n (ne_of_none e cl0)
    clear fr12 el10 sl10 dl10 da10 ed10 f010 cl10 p10 cl0 hol ho0
    -- came, callers
    refine fun ca hca => ⟨_, rfl, p, C, dx, _, rfl, by rw [upd_ne (ne_of_none p12 hca)]; exact p12, CC.a.cl, na "came" (by decide +kernel), (by refine Nat.lt_of_le_of_lt (m := 40) ?_ (by decide); repeat (first | refine putF_le ?_ | exact Nat.zero_le _)), ?_⟩
    obtain ⟨f13, ca13, p13⟩ := stage (o := .dK []) (fs' := putF "came" (.ref ca) (putF "order" (.ref ol) (fsC W.lb sl dl el da cl o0 (stN W.ns W.ns.length)))) hca p12
    have had : ca ≠ da := (ne_of_none da12 hca).symm
    change (fun H13 => _) (upd (upd H12 ca (.dK [])) p (.ins C dx (putF "came" (.ref ca) (putF "order" (.ref ol) (fsC W.lb sl dl el da cl o0 (stN W.ns W.ns.length))))))
    generalize upd (upd H12 ca _) p _ = H13 at f13 ca13 p13 ⊢
    refine fun cr hcr => ⟨_, rfl, p, C, dx, _, rfl, by rw [upd_ne (ne_of_none p13 hcr)]; exact p13, CC.a.cl, na "callers" (by decide +kernel), (by refine Nat.lt_of_le_of_lt (m := 40) ?_ (by decide); repeat (first | refine putF_le ?_ | exact Nat.zero_le _)), ?_⟩
    obtain ⟨f14, cr14, p14⟩ := stage (o := .dK []) (fs' := fsD W.lb sl dl el da cl o0 ol ca cr (stN W.ns W.ns.length)) hcr p13
    have hac : ca ≠ cr := ne_of_none ca13 hcr
    have hrd : cr ≠ da := (ne_of_none (f13 _ _ da12 ndap) hcr).symm
    change (fun H14 => _) (upd (upd H13 cr (.dK [])) p (.ins C dx (fsD W.lb sl dl el da cl o0 ol ca cr (stN W.ns W.ns.length))))
    generalize upd (upd H13 cr _) p _ = H14 at f14 cr14 p14 ⊢
    have f1214 := f13.trans f14
    have ca14 := f14 _ _ ca13 (notp p13 ca13 (fun _ _ z => by cases z))
    have noD : ∀ m, m ∉ cNames → (fsD W.lb sl dl el da cl o0 ol ca cr (stN W.ns W.ns.length)).lookup m = none := fun m hm => by
      unfold fsD
      exact fs_no (fs_no (fs_no (noC m hm) (by decide +kernel) hm) (by decide +kernel) hm) (by decide +kernel) hm
    have R14 : ChR H14 C CE W p dx cl da el sl ca cr ch xs (fsD W.lb sl dl el da cl o0 ol ca cr (stN W.ns W.ns.length)) := by
      refine ⟨p14, ⟨by unfold fsD fsC fsB fsA; exact (by repeat (rw [lookup_putF]; first | rw [if_pos rfl] | rw [if_neg (by decide +kernel)])), by unfold fsD fsC fsB fsA; exact (by repeat (rw [lookup_putF]; first | rw [if_pos rfl] | rw [if_neg (by decide +kernel)])), f1214 _ _ cl12 nclp, f1214 _ _ da12 ndap⟩, I12.cl, fun x hx => ?_, noD, by unfold fsD fsC fsB fsA; exact (by repeat (rw [lookup_putF]; first | rw [if_pos rfl] | rw [if_neg (by decide +kernel)])), by unfold fsD fsC fsB fsA; exact (by repeat (rw [lookup_putF]; first | rw [if_pos rfl] | rw [if_neg (by decide +kernel)])), by unfold fsD fsC fsB fsA; exact (by repeat (rw [lookup_putF]; first | rw [if_pos rfl] | rw [if_neg (by decide +kernel)])), by unfold fsD fsC fsB fsA; exact (by repeat (rw [lookup_putF]; first | rw [if_pos rfl] | rw [if_neg (by decide +kernel)])), by unfold fsD fsC fsB fsA; exact (by repeat (rw [lookup_putF]; first | rw [if_pos rfl] | rw [if_neg (by decide +kernel)])), f1214 _ _ el12 nep, ed12.kx (f1214.kx p12 hCE), f1214 _ _ sl12 nsp⟩
      rw [finB_iff I12, fd12]
    have dl14 := f1214 _ _ dl12 nlp
    have ol14 := f1214 _ _ ol12 (notp p12 ol12 (fun _ _ z => by cases z))
    have f014 := f012.trans f1214
    have ca0 := f012.no p12 hca
    have cr0 := (f012.trans f13).no p13 hcr
    clear f1214 f012 f13 f14 el12 sl12 dl12 da12 ed12 cl12 ol12 p12 p13 ca13 hca hcr noC
    have h0 : (stsV W)[0]? = some (.int ((0 : Nat) : Int)) := sts_at (by omega)
    have hcl0 : 0 < ch.length := by
      rw [I12.cl]
      exact sp_lt (pl_0 okw)
    -- reach
    refine ⟨fun σ H' => ∃ (v3 v4 v5 v6 v7 v8 v9 : Option V) (kvs cvs : List (Key × V)), σ = [some (.ref p), some (.ref b0), some (.int (stN W.ns W.ns.length : Nat)), v3, v4, v5, v6, v7, v8, v9] ∧ Fr ca cr H14 H' ∧ H' ca = some (.dK kvs) ∧ H' cr = some (.dK cvs) ∧ ∀ x, Has kvs x ↔ Us (gesOf W) (endsOf W) 0 x, ?_, ?_⟩
    · refine ⟨_, rfl, p, dx, _, rfl, p14, noD "is_finished" (by decide +kernel), _, rfl, p, C, dx, _, _, rfl, p14, CC.a.cl, na "starts" (by decide +kernel), R14.st, sl, _, 0, .int ((0 : Nat) : Int), rfl, rfl, SqL.of R14.hs, atI_nat (j := 0) h0, p, dx, cl, da, _, ch, endsOf W, 0, rfl, p14, R14.f, hcl0, _, rfl, ?_⟩
      cases hb : finB ch (endsOf W) 0 with
      | false =>
        refine ifF rfl ⟨_, _, _, _, _, _, _, [], [], rfl, fun b o e _ _ => e, ca14, cr14, fun x => ⟨(fun h => by cases h), fun h => ?_⟩⟩
        have := (finB_iff I12 0).mpr ((fd12 0).mpr (us_fn h))
        rw [hb] at this
        cases this
      | true =>
        refine ifT rfl ⟨_, rfl, p, dx, _, rfl, p14, noD "reach" (by decide +kernel), p, dx, cl, da, el, sl, ca, cr, ch, xs, _, W, rfl, R14, okw, ca14, cr14, hac, had, hrd, (fd12 0).mp ((finB_iff I12 0).mp hb), fun H15 kvs cvs fr ea er hre => ?_⟩
        exact ⟨_, _, _, _, _, _, _, kvs, cvs, rfl, fr, ea, er, hre⟩
    rintro σ H15 ⟨v3, v4, v5, v6, v7, v8, v9, kvs, cvs, rfl, fr, ea, er, hre⟩
    have nn : ∀ {a : Addr} {o : HO}, H14 a = some o → (∀ l, o ≠ .dK l) → H15 a = some o := fun {a o} e h => fr _ _ e (by rintro rfl; rw [ca14] at e; exact h _ (Option.some.inj e).symm) (by rintro rfl; rw [cr14] at e; exact h _ (Option.some.inj e).symm)
    have R15 : ChR H15 C CE W p dx cl da el sl ca cr ch xs (fsD W.lb sl dl el da cl o0 ol ca cr (stN W.ns W.ns.length)) := { R14 with
      hp := nn p14 (fun _ z => by cases z)
      f := ⟨R14.f.choice, R14.f.ends_at, nn R14.f.hc (fun _ z => by cases z), fr _ _ R14.f.hd had.symm hrd.symm⟩
      he := nn R14.he (fun _ z => by cases z)
      hx := R14.hx.kx (fr.kx2 ca14 cr14)
      hs := nn R14.hs (fun _ z => by cases z) }
    have dl15 := nn dl14 (fun _ z => by cases z)
    have ol15 := nn ol14 (fun _ z => by cases z)
    have ncp := notp p14 ca14 (fun _ _ z => by cases z)
    have nrp := notp p14 cr14 (fun _ _ z => by cases z)
    have f015 : Fp p H H15 := fun b o e n => fr _ _ (f014 b o e n) (ne_of_none e ca0) (ne_of_none e cr0)
    clear fr R14 dl14 ol14 f014 ca14 cr14 p14
    -- used
    refine ⟨_, rfl, p, C, dx, _, _, rfl, R15.hp, CC.a.cl, na "edges" (by decide +kernel), R15.ed, el, xs, rfl, SqL.of R15.he, fun ul hul => ?_⟩
    refine lc_it (walk_enum (K := K) (a := el) (xs := xs)) (fun i H' => ∃ us : List Nat, H' ul = some (lN us) ∧ Same H15 H' ∧ us.length ≤ i ∧ (∀ a, a ∈ us ↔ a < i ∧ ∃ e, (gesOf W)[a]? = some e ∧ Us (gesOf W) (endsOf W) 0 e.s ∧ Op (gesOf W) (endsOf W) e) ∧ us.Pairwise (· < ·)) ⟨[], upd_same, same_new hul, Nat.le_refl _, (fun a => ⟨(fun h => by cases h), fun h => absurd h.1 (Nat.not_lt_zero _)⟩), .nil⟩ (fun i H' _ ⟨_, _, s', _⟩ => SqL.of (s' _ _ R15.he)) ?_ ?_
    · rintro i x H8z H8 hi ⟨us, e8, s8, hul8, hus, hpw⟩ ⟨T0, x', y, rfl, hT, hH8, hx, hy⟩
      obtain rfl := Option.some.inj hx
      obtain ⟨sT, eT⟩ := freshF hT hH8.symm
      have hil : i < (exOf W).length := by rw [← R15.hx.1]; exact hi
      obtain ⟨q, hq, ⟨dq, fq, hq1, hq2⟩⟩ := R15.hx.2 i _ (List.getElem?_eq_getElem hil)
      obtain rfl := Option.some.inj (hq.symm.trans hy)
      have hge := ex_ge (List.getElem?_eq_getElem hil)
      generalize hye : (exOf W)[i] = ye at hge hq2
      have hym : ye ∈ exOf W := by rw [← hye]; exact List.getElem_mem hil
      have s08 := s8.trans sT
      have stay : ¬ (Us (gesOf W) (endsOf W) 0 (geX W ye).s ∧ Op (gesOf W) (endsOf W) (geX W ye)) → ∀ H', Same H8 H' → ∃ us : List Nat, H' ul = some (lN us) ∧ Same H15 H' ∧ us.length ≤ i + 1 ∧ (∀ a, a ∈ us ↔ a < i + 1 ∧ ∃ e, (gesOf W)[a]? = some e ∧ Us (gesOf W) (endsOf W) 0 e.s ∧ Op (gesOf W) (endsOf W) e) ∧ us.Pairwise (· < ·) := fun hn H' s' => by
        refine ⟨us, s' _ _ (sT _ _ e8), s08.trans s', by omega, fun a => ?_, hpw⟩
        rw [hus a]
        constructor
        · rintro ⟨h1, h2⟩
          exact ⟨by omega, h2⟩
        · rintro ⟨h1, e, h2, h3⟩
          refine ⟨?_, e, h2, h3⟩
          by_cases hai : a = i
          · subst hai
            obtain rfl := Option.some.inj (hge.symm.trans h2)
            exact absurd h3 hn
          · omega
      refine ⟨T0, _, rfl, SqT.of eT, (by rfl), _, _, rfl, _, _, rfl, rfl, (by rfl), ?_⟩
      refine ⟨_, rfl, q, CE, dq, fq, _, rfl, s08 _ _ hq1, EE.cl, EE.na "spot" (by decide +kernel), hq2.spot, _, rfl, p, C, dx, _, _, rfl, s08 _ _ R15.hp, CC.a.cl, na "came" (by decide +kernel), R15.ca_, ca, _, rfl, DGet.k (k := kN (geX W ye).s) (s08 _ _ ea), _, rfl, ?_⟩
      cases hb : (valV kvs (kN (geX W ye).s)).isSome with
      | false =>
        refine ifF rfl (ifF rfl (stay (fun h => ?_) _ (Same.refl _)))
        have := (hre _).mpr h.1
        unfold Has at this
        rw [hb] at this
        cases this
      | true =>
      have hus0 := (hre _).mp hb
      refine ifT rfl ⟨_, rfl, p, dx, _, rfl, s08 _ _ R15.hp, noD "is_open" (by decide +kernel), _, rfl, p, dx, cl, da, q, _, ch, endsOf W, W, ye.1, ye.2.1, ye.2.2, rfl, s08 _ _ R15.hp, ⟨R15.f.choice, R15.f.ends_at, s08 _ _ R15.f.hc, s08 _ _ R15.f.hd⟩, noD, EOb.kx ⟨dq, fq, hq1, hq2⟩ (Kx.of s08), (fun z hz => by rw [I12.cl]; exact needs_lt okw hym z hz), fun H9 s9 => ⟨_, rfl, ?_⟩⟩
      have hop := R15.op okw hym
      by_cases ho : Op (gesOf W) (endsOf W) (geX W ye)
      rotate_left
      · refine ifF ?_ (stay (fun h => ho h.2) _ s9)
        cases hb2 : (needs (geOf W ye.1 ye.2.2)).all (finB ch (endsOf W)) with
        | false => rfl
        | true => exact absurd (hop.mp hb2) ho
      refine ifT (hop.mpr ho) ⟨_, rfl, us.map (fun n => V.int (n : Nat)), s9 _ _ (sT _ _ e8), by rw [List.length_map, sizeLine_eq]; omega, us ++ [i], ?_, ?_, ?_, fun a => ?_, ?_⟩
      · rw [upd_same]
        unfold lN
        rw [List.map_append]
        rfl
      · intro b o eb
        rw [upd_ne (ne_of_none eb hul)]
        exact s9 _ _ (s08 _ _ eb)
      · rw [List.length_append]
        show us.length + 1 ≤ _
        omega
      · rw [List.mem_append, List.mem_singleton, hus a]
        constructor
        · rintro (⟨h1, h2⟩ | rfl)
          · exact ⟨by omega, h2⟩
          · exact ⟨by omega, _, hge, hus0, ho⟩
        · rintro ⟨h1, h2⟩
          by_cases hai : a = i
          · exact .inr hai
          · exact .inl ⟨by omega, h2⟩
      · rw [List.pairwise_append]
        refine ⟨hpw, List.pairwise_singleton _ _, fun a ha b hb => ?_⟩
        rw [List.mem_singleton.mp hb]
        exact ((hus a).mp ha).1
    rintro H16 ⟨us, e16, s16, hul16, hus, hpw⟩
    refine ⟨_, rfl, p, C, dx, _, rfl, s16 _ _ R15.hp, CC.a.cl, na "used" (by decide +kernel), (by refine Nat.lt_of_le_of_lt (m := 40) ?_ (by decide); repeat (first | refine putF_le ?_ | exact Nat.zero_le _)), ?_⟩
    rw [hxl] at hus
    have f17 : Fp p H15 (upd H16 p (.ins C dx (putF "used" (.ref ul) (fsD W.lb sl dl el da cl o0 ol ca cr (stN W.ns W.ns.length))))) := (Fp.of s16).set
    have p17 : (upd H16 p (.ins C dx (putF "used" (.ref ul) (fsD W.lb sl dl el da cl o0 ol ca cr (stN W.ns W.ns.length))))) p = some (.ins C dx (putF "used" (.ref ul) (fsD W.lb sl dl el da cl o0 ol ca cr (stN W.ns W.ns.length)))) := upd_same
    have ul17 : (upd H16 p (.ins C dx (putF "used" (.ref ul) (fsD W.lb sl dl el da cl o0 ol ca cr (stN W.ns W.ns.length))))) ul = some (lN us) := by rw [upd_ne (ne_of_none R15.hp hul).symm]; exact e16
    change (fun H17 => _) (upd H16 p (.ins C dx (putF "used" (.ref ul) (fsD W.lb sl dl el da cl o0 ol ca cr (stN W.ns W.ns.length)))))
    generalize upd H16 p _ = H17 at f17 p17 ul17 ⊢
    have lk : ∀ {a : Addr} {l : List V}, H15 a = some (.lst l) → H17 a = some (.lst l) := fun {a l} e => f17 _ _ e (lnp R15.hp e)
    have dk : ∀ {a : Addr} {l : List (Key × V)}, H15 a = some (.dK l) → H17 a = some (.dK l) := fun {a l} e => f17 _ _ e (notp R15.hp e (fun _ _ z => by cases z))
    refine kq H17 cl da el sl dl ol ca cr ul ch O us xs kvs cvs _ (f015.trans f17) ⟨⟨p17, ⟨by unfold fsD fsC fsB fsA; exact (by repeat (rw [lookup_putF]; first | rw [if_pos rfl] | rw [if_neg (by decide +kernel)])), by unfold fsD fsC fsB fsA; exact (by repeat (rw [lookup_putF]; first | rw [if_pos rfl] | rw [if_neg (by decide +kernel)])), lk R15.f.hc, dk R15.f.hd⟩, I12.cl, R15.fin, fun m hm => fs_no (noD m hm) (by decide +kernel) hm, by unfold fsD fsC fsB fsA; exact (by repeat (rw [lookup_putF]; first | rw [if_pos rfl] | rw [if_neg (by decide +kernel)])), by unfold fsD fsC fsB fsA; exact (by repeat (rw [lookup_putF]; first | rw [if_pos rfl] | rw [if_neg (by decide +kernel)])), by unfold fsD fsC fsB fsA; exact (by repeat (rw [lookup_putF]; first | rw [if_pos rfl] | rw [if_neg (by decide +kernel)])), by unfold fsD fsC fsB fsA; exact (by repeat (rw [lookup_putF]; first | rw [if_pos rfl] | rw [if_neg (by decide +kernel)])), by unfold fsD fsC fsB fsA; exact (by repeat (rw [lookup_putF]; first | rw [if_pos rfl] | rw [if_neg (by decide +kernel)])), lk R15.he, R15.hx.kx (f17.kx R15.hp hCE), lk R15.hs⟩, by unfold fsD fsC fsB fsA; exact (by repeat (rw [lookup_putF]; first | rw [if_pos rfl] | rw [if_neg (by decide +kernel)])), by unfold fsD fsC fsB fsA; exact (by repeat (rw [lookup_putF]; first | rw [if_pos rfl] | rw [if_neg (by decide +kernel)])), by unfold fsD fsC fsB fsA; exact (by repeat (rw [lookup_putF]; first | rw [if_pos rfl] | rw [if_neg (by decide +kernel)])), by unfold fsD fsC fsB fsA; exact (by repeat (rw [lookup_putF]; first | rw [if_pos rfl] | rw [if_neg (by decide +kernel)])), lk ol15, lk dl15, dk ea, dk er, ul17, I12, fd12, hre, fun a => ?_, hpw⟩
    rw [hus a]
    constructor
    · exact fun h => h.2
    · rintro ⟨e, h1, h2⟩
      exact ⟨(List.getElem?_eq_some_iff.mp h1).1, e, h1, h2⟩
end
end K65

set_option Elab.async false
set_option linter.all false
set_option pp.maxSteps 900
set_option maxRecDepth 100000
set_option maxHeartbeats 4000000
namespace K65
open PySem PySem.Spec PyProof.Rows L2
open TL (tl)
abbrev sUs : Stmt := top 22
/-- the useful places of a net -/
noncomputable def usB (W : Web) (a : Nat) (p : Int) : Bool := @decide (UsP W a p) (Classical.propDecidable _)
theorem usB_iff {W : Web} {a : Nat} {p : Int} : usB W a p = true ↔ UsP W a p := by
  unfold usB
  exact @decide_eq_true_iff _ (Classical.propDecidable _)
noncomputable def usL (W : Web) (a : Nat) (n : Nat) : List Int := ((List.range n).map fun p => ((p : Nat) : Int)).filter (usB W a)
noncomputable def usN (W : Web) (a : Nat) : Dt := .tup ((usL W a ((W.ns[a]?.map fun n => n.1.toNat).getD 0)).map Dt.int)
noncomputable def usD (W : Web) : Dt := .tup ((List.range W.ns.length).map (usN W))
theorem usL_len (W : Web) (a n : Nat) : (usL W a n).length ≤ n := by
  refine Nat.le_trans (List.length_filter_le _ _) ?_
  rw [List.length_map, List.length_range]
  exact Nat.le_refl _
theorem usL_succ (W : Web) (a n : Nat) : usL W a (n + 1) = if usB W a ((n : Nat) : Int) = true then usL W a n ++ [((n : Nat) : Int)] else usL W a n := by
  unfold usL
  rw [List.range_succ, List.map_append, List.filter_append]
  show _ ++ [((n : Nat) : Int)].filter (usB W a) = _
  rw [List.filter_cons]
  split <;> simp
theorem ints_pur (l : List Int) : purs (l.map Dt.int) = true := purs_map fun _ _ => rfl
theorem usN_pur (W : Web) (a : Nat) : pur (usN W a) = true := ints_pur _
def spUs (C1 : Addr) : Sp := fun vs H Q Ex => ∃ (g : Addr) (vw : V) (dw : Dt), vs = [vw] ∧ DV g H vw dw ∧ (webB dw = false → ∀ H', Same H H' → Ex (.ref C1) none H') ∧
  (∀ W, dw = wbD W → OkW W → ∀ (D : Addr) (H' : Hp), Same H H' → (∀ g', DV g' H' (.ref D) (usD W)) → Q (.ref D) H')
section
variable {P : Program} {w : World} {K : PySem.W.Frag} {mg : Str → Option Value} {base : Heap}
theorem scUs : FnScope ["web", "chart", "found", "net", "places", "_", "place"] ["web"] (defScope sUs) := ⟨rfl, rfl, rfl, by decide +kernel, rfl, by decide +kernel, by decide +kernel⟩
theorem ok_us {f C1 C CE fIU fIF fIO fFi fRe fCI : Addr} {fd fdIU fdCI : FuncData} (F : Fun K "useful" "useful" sUs f fd) (T : Bn mg) (cNeed : ClX (L2.CX P w) P w K mg base "need_web" ["web"] 5 (spNeed C1)) (CC : ChK K C fIU fIF fIO fFi fRe) (hCE : C ≠ CE)
    (mCh : mg "Chart" = some (.ref C)) (MC : Mk K C fCI) (GCI : FnOk P w K mg base CX0 4 fCI fdCI ["self", "web"] (spCI C CE)) (bCI : L2.Binds K fdCI ["self", "web"] [])
    (GIU : FnOk P w K mg base CX0 1 fIU fdIU ["self", "spot"] (spIU C)) (bIU : L2.Binds K fdIU ["self", "spot"] []) : FnOk P w K mg base (L2.CX P w) 6 f fd ["web"] (spUs C1) := by
  obtain ⟨fNeed, fdNeed, GNeed, mNeed, kNeed, bNeed⟩ := cNeed
  refine F.okX scUs (fun vs H Q E h => ?_) (fun cdv A outer s H vs Q Ex hr h => ?_)
  · obtain ⟨g, a, b, rfl, _⟩ := h
    rfl
  · obtain ⟨g, vw, dw, rfl, hw, k1, k2⟩ := h
    have hr1 : Room 1 _ := hr.mono (by decide)
    have hr5 : Room 5 _ := hr.mono (by decide)
    refine ⟨_, (pss_cons (ps_expr (pe_call GNeed hr5 (by rfl) mNeed kNeed bNeed .nil (passes_call (takes_of rfl rfl rfl rfl) (fun _ _ _ _ h => h)) (pa_cons (pv 0) pa_nil)))
      (pss_cons (ps_set (i := 1) scUs.nd rfl (Or.inr rfl) (pe_make MC GCI hr5 (by rfl) mCh bCI .nil pass0 (pa_cons (pv 0) pa_nil)))
      (pss_cons (ps_set (i := 2) scUs.nd rfl (Or.inl rfl) (pe_lst pa_nil))
      (pss_cons (ps_for (passes_of rfl) rfl (pi_enumT (by rfl) T.enu (pa_cons (pe_ix ix_tup (pv 0) pe_int (fun _ _ => rfl)) pa_nil)) (pg_tup (by rfl) (pgs_cons (pg_name (i := 3) scUs.nd rfl (Or.inr rfl)) (pgs_cons (pg_tup (by rfl) (pgs_cons (pg_name (i := 4) scUs.nd rfl (Or.inl rfl)) (pgs_cons (pg_name (i := 5) scUs.nd rfl (Or.inl rfl)) pgs_nil))) pgs_nil)))
          (pss_one (ps_expr (qApp (pv 2) (pe_callTy call_tuple_of (by rfl) T.tpl (by decide +kernel) (pa_cons (pe_lc (own := [("place", 6)]) (g := gName 6) (by rfl) scUs.nd (pi_range1 (by rfl) T.rng (pa_cons (pv 4) pa_nil)) (blkOk_by (own := [("place", 6)]) (N := ["web", "chart", "found", "net", "places", "_", "place"]) (sc := defScope sUs) (by decide +kernel)) (fun _ _ _ _ _ => (pg_name (i := 6) scUs.nd rfl (Or.inl rfl))) (fun _ _ _ _ _ => (pts_one (pt_val (pe_meth (pv 1) CC.a.cl CC.mIU GIU hr1 bIU .nil pass0 (pa_cons (pe_op op_add (pe_ix (show IxR _ (rIxL K) from ix_list) (show PE _ _ (tFld K _ _) from pe_fld (pv 1) rfl) (pv 3) (fun _ _ => rfl)) (pv 6)) pa_nil))))) (fun _ _ _ _ _ => (pv 6))) pa_nil))))))
      (pss_one (ps_ret (pe_callTy call_tuple_of (by rfl) T.tpl (by decide +kernel) (pa_cons (pv 2) pa_nil)))))))), ?_⟩
    refine ⟨_, rfl, g, vw, dw, rfl, hw, fun hb H1 s1 => ?_, fun hb H1 s1 => k1 hb H1 s1⟩
    obtain ⟨W, rfl, okw⟩ := web_dec hb
    have hn4 := okw.n4
    have hst := st_le okw
    have hw1 := hw.keep (Kv.of s1)
    refine ⟨_, rfl, fun p dx hp hdx hne => ?_⟩
    have s2 : Same H1 (upd (upd H1 dx (.own p)) p (.ins C dx [])) := fun b o eb => by
      rw [upd_ne (ne_of_none eb hp), upd_ne (ne_of_none eb hdx)]
      exact eb
    refine ⟨g, p, dx, _, W, rfl, upd_same, hw1.keep (Kv.of s2), okw, hCE, fun H3 cl da el sl dl ol ca cr ul ch O us xs kvs cvs fs f3 R => ⟨rfl, ?_⟩⟩
    have s13 : Same H1 H3 := fun b o eb => f3 _ _ (s2 _ _ eb) (ne_of_none eb hp)
    have s03 := s1.trans s13
    have hw3 := hw.keep (Kv.of s03)
    obtain ⟨b0, c0, xn, rfl, eb0, ec0, rn⟩ := wb_at hw3
    have hnl : xn.length = W.ns.length := by rw [rn.len, List.length_map]
    refine ⟨Nat.zero_le _, fun F0 hF0 => ?_⟩
    generalize hH4 : upd H3 F0 _ = H4
    obtain ⟨sF0, eF0⟩ := freshF hF0 hH4
    refine ⟨_, rfl, b0, _, 1, _, rfl, rfl, SqT.of (sF0 _ _ eb0), atI_nat (j := 1) rfl, c0, xn, rfl, SqT.of (sF0 _ _ ec0), ?_⟩
    refine for_it (walk_enumT (K := K) (a := c0) (xs := xn)) (fun i σ H' => ∃ (ws : List V) (v3 v4 v5 v6 : Option V), σ = [some (.ref b0), some (.ref p), some (.ref F0), v3, v4, v5, v6] ∧ Same H3 H' ∧ H' F0 = some (.lst ws) ∧ ws.length = i ∧ ∀ g', DVs g' H' ws ((List.range i).map (usN W)))
      ⟨[], _, _, _, _, rfl, sF0, eF0, rfl, fun g' => .nil⟩ (fun i σ H' _ ⟨_, _, _, _, _, _, s, _⟩ => SqT.of (s _ _ ec0)) ?_ ?_
    · rintro i x σ H5z H5 hi ⟨ws, v3, v4, v5, v6, rfl, s5z, e5z, hwl, hws⟩ ⟨T0, x', y, rfl, hT, hH5, hx, hy⟩
      obtain rfl := Option.some.inj hx
      obtain ⟨sT, eT⟩ := freshF hT hH5.symm
      obtain ⟨dn, hdn, hyd⟩ := rn.at_ hy
      rw [List.getElem?_map] at hdn
      obtain ⟨nt, hnt, rfl⟩ := Option.map_eq_some_iff.mp hdn
      obtain ⟨b3, c3, xe, rfl, eb3, ec3, re⟩ := nt_at hyd
      have hil : i < W.ns.length := by rw [← hnl]; exact hi
      have s5 := s5z.trans sT
      have npl := okw.pl (List.mem_of_getElem? hnt)
      have npos := okw.pos nt (List.mem_of_getElem? hnt)
      refine ⟨T0, _, rfl, SqT.of eT, (by rfl), _, _, rfl, _, _, rfl, b3, _, rfl, SqT.of (s5 _ _ eb3), (by rfl), _, _, rfl, _, _, rfl, rfl, rfl, ?_⟩
      refine ⟨_, rfl, .inl ⟨rfl, _, SqL.of (sT _ _ e5z)⟩, _, rfl, _, rfl, by omega, by omega, fun D hD => ?_⟩
      refine lc_it (walk_range (lo := 0) (n := nt.1.toNat)) (fun j H' => H' D = some (.lst ((usL W i j).map V.int)) ∧ Same H5 H') ⟨upd_same, same_new hD⟩ (fun _ _ _ _ => trivial) ?_ ?_
      · rintro j x H6z H6 hj ⟨e6, s6⟩ ⟨rfl, rfl⟩
        refine ⟨(by rfl), ?_⟩
        have s36 := s5.trans s6
        have ej : (0 : Int) + (j : Nat) = (j : Nat) := Int.zero_add _
        have ex : ((stN W.ns i : Nat) : Int) + (0 + (j : Nat)) = (stN W.ns i + j : Nat) := by omega
        refine ⟨_, rfl, p, dx, fs, rfl, s36 _ _ R.r.hp, R.r.no "is_useful" (by decide +kernel), _, rfl, p, C, dx, fs, _, rfl, s36 _ _ R.r.hp, CC.a.cl, CC.a.na "starts" (by decide +kernel), R.r.st, _, rfl, sl, _, (i : Nat), .int (stN W.ns i : Nat), rfl, rfl, SqL.of (s36 _ _ R.r.hs), atI_nat (sts_at hil), _, rfl, _, _, rfl, rfl, p, dx, ca, fs, kvs, stN W.ns i + j, ?_, s36 _ _ R.r.hp, R.r.ca_, s36 _ _ R.ha, _, rfl, ?_⟩
        · show [V.ref p, V.int (((stN W.ns i : Nat) : Int) + (0 + (j : Nat)))] = _
          rw [ex]
        have hpl : Pl W i ((j : Nat) : Int) := ⟨nt, hnt, by omega, by omega⟩
        have hus : (valV kvs (kN (stN W.ns i + j))).isSome = true ↔ usB W i ((j : Nat) : Int) = true := by
          rw [usB_iff, ← us_iff okw hpl]
          exact R.re (stN W.ns i + j)
        cases hb : usB W i ((j : Nat) : Int) with
        | false =>
          refine ifF ?_ ⟨by rw [usL_succ, hb]; exact e6, s6⟩
          cases hv : (valV kvs (kN (stN W.ns i + j))).isSome with
          | false => exact hv
          | true =>
            have := hus.mp hv
            rw [hb] at this
            cases this
        | true =>
          refine ifT (hus.mpr hb) ⟨_, rfl, _, e6, ?_, ?_, ?_⟩
          · have := usL_len W i j
            rw [List.length_map, sizeLine_eq]
            omega
          · rw [upd_same, usL_succ, hb, if_pos rfl, List.map_append]
            show some (HO.lst (_ ++ [V.int (0 + (j : Nat))])) = _
            rw [ej]
            rfl
          · intro b o eb
            rw [upd_ne (ne_of_none eb hD)]
            exact s6 _ _ eb
      rintro H6 ⟨e6, s6⟩
      refine ⟨D, _, rfl, .inl ⟨SqL.of e6, fun t ht => ?_⟩⟩
      generalize hH7 : upd H6 t _ = H7
      obtain ⟨st, et⟩ := freshF ht hH7
      have s57 := s6.trans st
      have eF7 := s57 _ _ (sT _ _ e5z)
      refine ⟨F0, ws, _, rfl, rfl, eF7, by rw [hwl, sizeLine_eq]; omega, ws ++ [.ref t], _, _, _, _, rfl, fun b o eb => ?_, upd_same, by rw [List.length_append, hwl]; rfl, fun g' => ?_⟩
      · rw [upd_ne (ne_of_none eb hF0)]
        exact s57 _ _ (s5 _ _ eb)
      · rw [List.range_succ, List.map_append]
        have kt : Kt H7 (upd H7 F0 (.lst (ws ++ [.ref t]))) := Kt.put eF7
        refine (((hws g').keep (Kv.of (sT.trans s57))).keepP kt (purs_map fun a _ => usN_pur W a)).app (.cons (DV.keepP (g := g') kt (usN_pur W i) ?_) .nil)
        unfold usN
        rw [hnt]
        show DV g' H7 (.ref t) (.tup ((usL W i nt.1.toNat).map Dt.int))
        refine .tup et ?_ (dvs_ints _)
        have := usL_len W i nt.1.toNat
        rw [List.length_map]
        omega
    rintro σ H5 ⟨ws, v3, v4, v5, v6, rfl, s5, e5, hwl, hws⟩
    rw [hnl] at hws hwl
    refine ⟨_, rfl, F0, ws, rfl, .inl ⟨SqL.of e5, fun t ht => ?_⟩⟩
    generalize hH6 : upd H5 t _ = H6
    obtain ⟨st, et⟩ := freshF ht hH6
    refine k2 W rfl okw t H6 (s03.trans (s5.trans st)) fun g' => .tup et ?_ ((hws g').keep (Kv.of st))
    rw [List.length_map, List.length_range]
    omega
end
end K65

set_option Elab.async false
set_option linter.all false
set_option pp.maxSteps 900
set_option maxRecDepth 100000
set_option maxHeartbeats 4000000
namespace K65
open PySem PySem.Spec PyProof.Rows L2
open TL (tl)
abbrev sBe : Stmt := top 38
abbrev sER : Stmt := top 39
abbrev sWR : Stmt := top 40
def spER : Sp := fun vs H Q _ => ∃ (g : Addr) (v : V) (d : Dt) (labels nets places : Int), vs = [v, .int labels, .int nets, .int places] ∧ DV g H v d ∧ ∀ H', Same H H' → Q (.bl (edgeB places nets labels d)) H'
section
variable {P : Program} {w : World} {K : PySem.W.Frag} {mg : Str → Option Value} {base : Heap}
theorem scBe : FnScope ["value", "low", "high"] ["value", "low", "high"] (defScope sBe) := ⟨rfl, rfl, rfl, by decide +kernel, rfl, by decide +kernel, by decide +kernel⟩
theorem ok_be {f : Addr} {fd : FuncData} (F : Fun K "_law_between" "_law_between" sBe f fd) (T : Bn mg) : FnOk P w K mg base CX0 1 f fd ["value", "low", "high"] spWin := by
  refine F.ok scBe (fun vs H Q E h => ?_) (fun cdv A outer s H vs Q E hr h => ?_)
  · obtain ⟨g, v, d, lo, hi, rfl, _⟩ := h
    rfl
  · obtain ⟨g, v, d, lo, hi, rfl, hd, k⟩ := h
    obtain ⟨t, ht, k1, k2, k3, k4⟩ := hd.ty (K := K)
    refine ⟨_, (pss_one (ps_ret (pe_and (pe_callB call_isi (by rfl) T.isi (by decide +kernel) (pa_cons (pv 0) (pa_cons (pe_bltn (v := .ty "int") (by rfl) T.int boot_int rfl) pa_nil))) (pe_and (pe_not (pe_callB call_isi (by rfl) T.isi (by decide +kernel) (pa_cons (pv 0) (pa_cons (pe_bltn (v := .ty "bool") (by rfl) T.bol boot_bool rfl) pa_nil)))) (pe_one (pe_chain op_le op_le (pv 1) (pv 0) (pv 2))))))), ?_⟩
    refine ⟨_, rfl, _, _, _, _, _, rfl, .ty "int", ht, k4, _, rfl, ?_⟩
    cases d with
    | int i =>
      obtain rfl := hd.int_inv
      refine iteT ⟨_, rfl, _, _, _, _, _, rfl, .ty "bool", ht, k3, _, rfl, _, rfl, iteT ⟨_, rfl, _, rfl, _, _, rfl, rfl, _, rfl, ?_⟩⟩
      have e : intIn lo hi (.int i) = (decide (lo ≤ i) && decide (i ≤ hi)) := rfl
      have q := k H (Same.refl H)
      rw [e] at q
      by_cases h1 : lo ≤ i
      · rw [decide_eq_true h1] at q ⊢
        exact iteT ⟨_, rfl, _, _, rfl, rfl, q⟩
      · rw [decide_eq_false h1] at q ⊢
        exact iteF q
    | bl b => exact iteT ⟨_, rfl, _, _, _, _, _, rfl, .ty "bool", ht, k3, _, rfl, _, rfl, iteF (k H (Same.refl H))⟩
    | non => exact iteF (k H (Same.refl H))
    | str s => exact iteF (k H (Same.refl H))
    | lst l => exact iteF (k H (Same.refl H))
    | tup l => exact iteF (k H (Same.refl H))
    | dic => exact iteF (k H (Same.refl H))
theorem scEr : FnScope ["edge", "labels", "many", "places", "name"] ["edge", "labels", "many", "places"] (defScope sER) := ⟨rfl, rfl, rfl, by decide +kernel, rfl, by decide +kernel, by decide +kernel⟩
theorem ok_er {f : Addr} {fd : FuncData} (F : Fun K "_law_edge_right" "_law_edge_right" sER f fd) (T : Bn mg) (cBe : Cl P w K mg base "_law_between" ["value", "low", "high"] 1 spWin) : FnOk P w K mg base CX0 2 f fd ["edge", "labels", "many", "places"] spER := by
  obtain ⟨fBe, fdBe, GBe, mBe, kBe, bBe⟩ := cBe
  refine F.ok scEr (fun vs H Q E h => ?_) (fun cdv A outer s H vs Q E hr h => ?_)
  · obtain ⟨g, v, d, a, b, c, rfl, _⟩ := h
    rfl
  · obtain ⟨g, v, d, lb, nt, pl, rfl, hd, k⟩ := h
    obtain ⟨t0, ht0, k1, k2, k3, k4⟩ := hd.ty (K := K)
    refine ⟨_, (pss_cons (ps_if (PW.pt (pw_or (pt_not (pt_val (pe_callB call_isi (by rfl) T.isi (by decide +kernel) (pa_cons (pv 0) (pa_cons (pe_bltn (v := .ty "tuple") (by rfl) T.tpl boot_tuple rfl) pa_nil))))) (pw_or1 (pt_cmpR op_ne (pe_callB call_len_seq (by rfl) T.len PySem.boot_len (pa_cons (pv 0) pa_nil)) pe_int (nomark _))))) (pss_one (ps_ret pe_bl)) pss_nil)
      (pss_cons (ps_if (PW.pt (pw_or (pt_not (pt_val (pe_call GBe hr (by rfl) mBe kBe bBe .nil pass0 (pa_cons (pe_ix ix_tup (pv 0) pe_int (fun _ _ => rfl)) (pa_cons pe_int (pa_cons (pe_op op_sub (pv 3) pe_int) pa_nil)))))) (pw_or1 (pt_not (pt_val (pe_call GBe hr (by rfl) mBe kBe bBe .nil pass0 (pa_cons (pe_ix ix_tup (pv 0) pe_int (fun _ _ => rfl)) (pa_cons pe_int (pa_cons (pe_op op_sub (pv 3) pe_int) pa_nil))))))))) (pss_one (ps_ret pe_bl)) pss_nil)
      (pss_mid (ps_if (PW.pt (pw_and (pt_cmpR op_notN (pe_ix ix_tup (pv 0) pe_int (fun _ _ => rfl)) pe_non (nomark _)) (pw_and1 (pt_not (pt_val (pe_call GBe hr (by rfl) mBe kBe bBe .nil pass0 (pa_cons (pe_ix ix_tup (pv 0) pe_int (fun _ _ => rfl)) (pa_cons pe_int (pa_cons (pe_op op_sub (pv 2) pe_int) pa_nil))))))))) (pss_one (ps_ret pe_bl)) pss_nil)
      (pss_cons (ps_if (PW.pt (pw_or (pt_not (pt_val (pe_call GBe hr (by rfl) mBe kBe bBe .nil pass0 (pa_cons (pe_ix ix_tup (pv 0) pe_int (fun _ _ => rfl)) (pa_cons (pe_op op_sub pe_int (pe_op op_pow pe_int pe_int)) (pa_cons (pe_op op_pow pe_int pe_int) pa_nil)))))) (pw_or (pt_not (pt_val (pe_callB call_isi (by rfl) T.isi (by decide +kernel) (pa_cons (pe_ix ix_tup (pv 0) pe_int (fun _ _ => rfl)) (pa_cons (pe_bltn (v := .ty "tuple") (by rfl) T.tpl boot_tuple rfl) pa_nil))))) (pw_or1 (pt_cmpR op_gt (pe_callB call_len_seq (by rfl) T.len PySem.boot_len (pa_cons (pe_ix ix_tup (pv 0) pe_int (fun _ _ => rfl)) pa_nil)) pe_int (nomark _)))))) (pss_one (ps_ret pe_bl)) pss_nil)
      (pss_one (ps_ret (pe_cmpR (op_eqNil hr.units) (pe_lc (own := [("name", 4)]) (g := gName 4) (by rfl) scEr.nd (pi_tup (pe_ix ix_tup (pv 0) pe_int (fun _ _ => rfl))) (blkOk_by (own := [("name", 4)]) (N := ["edge", "labels", "many", "places", "name"]) (sc := defScope sER) (by decide +kernel)) (fun _ _ _ _ _ => (pg_name (i := 4) scEr.nd rfl (Or.inl rfl))) (fun _ _ _ _ _ => (pts_one (pt_not (pt_val (pe_call GBe hr (by rfl) mBe kBe bBe .nil pass0 (pa_cons (pv 4) (pa_cons pe_int (pa_cons (pe_op op_sub (pv 1) pe_int) pa_nil)))))))) (fun _ _ _ _ _ => (pv 4))) (pe_lst pa_nil) (nomark _)))))))), ?_⟩
    refine ⟨_, rfl, _, _, _, _, _, rfl, .ty "tuple", ht0, k2, _, rfl, ?_⟩
    have nt5 : (∀ l, d = .tup l → l.length ≠ 5) → Q (.bl false) H := fun hn => by
      have : lenIs 5 d = false := by
        cases d with
        | tup l => exact decide_eq_false (hn l rfl)
        | _ => rfl
      have q := k H (Same.refl H)
      rw [edge_no this] at q
      exact q
    cases hit : isTup d with
    | false => exact ifT rfl (ifT rfl (nt5 fun l e => by subst e; cases hit))
    | true =>
    refine ifF rfl ?_
    obtain ⟨l, rfl⟩ : ∃ l, d = .tup l := by
      cases d with
      | tup l => exact ⟨l, rfl⟩
      | _ => cases hit
    obtain ⟨b, xs, rfl, e, hl2, r⟩ := hd.tup_inv
    refine ⟨_, rfl, b, xs, rfl, .inr (SqT.of e), rfl, _, rfl, ?_⟩
    by_cases h5 : l.length = 5
    rotate_left
    · refine ifT ?_ (nt5 fun l' e' => by injection e' with e'; subst e'; exact h5)
      rw [decide_eq_false (fun z => h5 (by injection z with z; rw [r.len] at z; omega))] <;> rfl
    refine ifF (by rw [decide_eq_true (show V.int ((xs.length : Nat) : Int) = V.int 5 by rw [r.len, h5]; rfl)] <;> rfl) ?_
    obtain ⟨p, t, c, b5, l5, e5⟩ := len5 (d := .tup l) (decide_eq_true h5)
    injection e5 with e5
    subst e5
    obtain ⟨b', vp, vt, vc, vb, vl, eb0, eb, hp, ht, hc, hb, hl⟩ := hd.tup5
    obtain rfl := V.ref.inj eb0
    have e0 : edgeB pl nt lb (.tup [p, t, c, b5, l5]) = ((intIn 0 (pl - 2) p && intIn 0 (pl - 1) t) && ((callB nt c && intIn (-1000000000) 1000000000 b5) && toldB lb l5)) := rfl
    rw [e0] at k
    clear e0 nt5 e r xs
    refine ⟨_, rfl, b, _, 0, _, rfl, rfl, SqT.of eb, atI_nat (j := 0) rfl, _, rfl, _, _, rfl, rfl, g, vp, p, 0, pl - 2, rfl, hp, fun H1 s1 => ⟨_, rfl, ?_⟩⟩
    cases q1 : intIn 0 (pl - 2) p with
    | false =>
      rw [q1] at k
      exact ifT rfl (ifT rfl (k H1 s1))
    | true =>
    rw [q1] at k
    have eb1 := s1 _ _ eb
    refine ifF rfl ⟨_, rfl, b, _, 1, _, rfl, rfl, SqT.of eb1, atI_nat (j := 1) rfl, _, rfl, _, _, rfl, rfl, g, vt, t, 0, pl - 1, rfl, ht.keep (Kv.of s1), fun H2 s2 => ⟨_, rfl, ?_⟩⟩
    have s02 := s1.trans s2
    cases q2 : intIn 0 (pl - 1) t with
    | false =>
      rw [q2] at k
      exact ifT rfl (k H2 s02)
    | true =>
    rw [q2] at k
    have eb2 := s2 _ _ eb1
    refine ifF rfl ?_
    refine ⟨fun σ H' => σ = [some (.ref b), some (.int lb), some (.int nt), some (.int pl), none] ∧ Same H H' ∧ callB nt c = true, ?_, ?_⟩
    · refine ⟨_, rfl, b, _, 2, _, rfl, rfl, SqT.of eb2, atI_nat (j := 2) rfl, rfl, _, rfl, ?_⟩
      have hcc : (c = .non ∧ vc = .non) ∨ (decide (vc = V.non) = false ∧ callB nt c = intIn 0 (nt - 1) c) := by
        cases hc with
        | non => exact .inl ⟨rfl, rfl⟩
        | bl b => exact .inr ⟨decide_eq_false (fun z => by cases z), rfl⟩
        | int i => exact .inr ⟨decide_eq_false (fun z => by cases z), rfl⟩
        | str h => exact .inr ⟨decide_eq_false (fun z => by cases z), rfl⟩
        | lst _ _ _ _ => exact .inr ⟨decide_eq_false (fun z => by cases z), rfl⟩
        | tup _ _ _ => exact .inr ⟨decide_eq_false (fun z => by cases z), rfl⟩
        | dic _ => exact .inr ⟨decide_eq_false (fun z => by cases z), rfl⟩
      rcases hcc with ⟨rfl, rfl⟩ | ⟨h1, h2⟩
      · exact ifF rfl (ifF rfl ⟨rfl, s02, rfl⟩)
      · rw [h2] at k ⊢
        rw [h1]
        refine ifT rfl ⟨_, rfl, b, _, 2, _, rfl, rfl, SqT.of eb2, atI_nat (j := 2) rfl, _, rfl, _, _, rfl, rfl, g, vc, c, 0, nt - 1, rfl, hc.keep (Kv.of s02), fun H3 s3 => ⟨_, rfl, ?_⟩⟩
        cases q3 : intIn 0 (nt - 1) c with
        | false =>
          rw [q3] at k
          exact ifT rfl (k H3 (s02.trans s3))
        | true => exact ifF rfl ⟨rfl, s02.trans s3, rfl⟩
    rintro σ H3 ⟨rfl, s3, q3⟩
    rw [q3] at k
    have eb3 := s3 _ _ eb
    refine ⟨_, rfl, b, _, 3, _, rfl, rfl, SqT.of eb3, atI_nat (j := 3) rfl, _, _, rfl, rfl, by unfold CPow; decide, _, _, rfl, rfl, _, _, rfl, rfl, by unfold CPow; decide, g, vb, b5, _, _, rfl, hb.keep (Kv.of s3), fun H4 s4 => ⟨_, rfl, ?_⟩⟩
    have s04 := s3.trans s4
    have e9 : intIn (0 - 10 ^ (9 : Int).toNat) (10 ^ (9 : Int).toNat) b5 = intIn (-1000000000) 1000000000 b5 := rfl
    rw [← e9] at k
    cases q4 : intIn (0 - 10 ^ (9 : Int).toNat) (10 ^ (9 : Int).toNat) b5 with
    | false =>
      rw [q4] at k
      exact ifT rfl (ifT rfl (k H4 s04))
    | true =>
    rw [q4] at k
    refine ifF rfl ?_
    have eb4 := s04 _ _ eb
    have hl4 := hl.keep (Kv.of s04)
    obtain ⟨t1, ht1, k11, k12, k13, k14⟩ := hl4.ty (K := K)
    refine ⟨_, rfl, b, _, 4, _, rfl, rfl, SqT.of eb4, atI_nat (j := 4) rfl, _, _, _, _, _, rfl, .ty "tuple", ht1, k12, _, rfl, ?_⟩
    cases hit5 : isTup l5 with
    | false =>
      have : toldB lb l5 = false := by
        cases l5 with
        | tup l => cases hit5
        | _ => rfl
      rw [this] at k
      exact ifT rfl (ifT rfl (k H4 s04))
    | true =>
    obtain ⟨ks, rfl⟩ : ∃ l, l5 = .tup l := by
      cases l5 with
      | tup l => exact ⟨l, rfl⟩
      | _ => cases hit5
    obtain ⟨bl, xs, rfl, el, hkl, r⟩ := hl4.tup_inv
    refine ifF rfl ⟨_, rfl, b, _, 4, _, rfl, rfl, SqT.of eb4, atI_nat (j := 4) rfl, bl, xs, rfl, .inr (SqT.of el), _, _, rfl, rfl, _, rfl, ?_⟩
    have e8 : toldB lb (.tup ks) = (decide (ks.length ≤ 8) && ks.all (intIn 0 (lb - 1))) := rfl
    rw [e8] at k
    by_cases h8 : ks.length ≤ 8
    rotate_left
    · rw [decide_eq_false h8] at k
      exact ifT (decide_eq_true (by rw [r.len]; omega)) (k H4 s04)
    rw [decide_eq_true h8] at k
    refine ifF (decide_eq_false (by rw [r.len]; omega)) ?_
    refine ⟨_, rfl, b, _, 4, _, rfl, rfl, SqT.of eb4, atI_nat (j := 4) rfl, bl, rfl, ⟨_, SqT.of el⟩, fun D hD => ?_⟩
    refine lc_it (walk_tup (K := K) (a := bl) (xs := xs)) (fun i H' => ∃ ws : List V, H' D = some (.lst ws) ∧ ws.isEmpty = (ks.take i).all (intIn 0 (lb - 1)) ∧ ws.length ≤ i ∧ Same H4 H') ⟨[], upd_same, rfl, Nat.zero_le _, same_new hD⟩ (fun _ H' _ ⟨_, _, _, _, s1⟩ => SqT.of (s1 _ _ el)) ?_ ?_
    · rintro i x H5z H5 hi ⟨ws, e1, hemp, hwl, s5⟩ ⟨rfl, hx⟩
      obtain ⟨dd, hdd, hxd⟩ := r.at_ hx
      have htake : (ks.take (i + 1)).all (intIn 0 (lb - 1)) = ((ks.take i).all (intIn 0 (lb - 1)) && intIn 0 (lb - 1) dd) := by
        rw [List.take_succ, hdd, List.all_append]
        simp
      have hi8 : i < 8 := by
        rw [r.len] at hi
        omega
      refine ⟨(by rfl), _, rfl, _, rfl, _, _, rfl, rfl, g, x, dd, 0, lb - 1, rfl, hxd.keep (Kv.of s5), fun H6 s6 => ⟨_, rfl, ?_⟩⟩
      cases q5 : intIn 0 (lb - 1) dd with
      | true =>
        refine ifF rfl ⟨ws, s6 _ _ e1, ?_, by omega, s5.trans s6⟩
        rw [htake, q5, Bool.and_true]
        exact hemp
      | false =>
        refine ifT rfl ⟨_, rfl, ws, s6 _ _ e1, by rw [sizeLine_eq]; omega, ws ++ [x], upd_same, ?_, by rw [List.length_append]; show ws.length + 1 ≤ _; omega, fun b o eb => ?_⟩
        · rw [htake, q5, Bool.and_false]
          cases ws <;> rfl
        · rw [upd_ne (ne_of_none eb hD)]
          exact s6 _ _ (s5 _ _ eb)
    rintro H5 ⟨ws, e1, hemp, hwl, s5⟩
    rw [r.len, List.take_length] at hemp
    refine ⟨Nat.zero_le _, fun N hN => ?_⟩
    generalize hH6 : upd H5 N _ = H6
    obtain ⟨sN, eN⟩ := freshF hN hH6
    refine ⟨D, N, ws, rfl, rfl, SqL.of (sN _ _ e1), SqL.of eN, ?_⟩
    rw [hemp]
    exact k H6 (s04.trans (s5.trans sN))
end
end K65

set_option Elab.async false
set_option linter.all false
set_option pp.maxSteps 900
set_option maxRecDepth 100000
set_option maxHeartbeats 4000000
namespace K65
open PySem PySem.Spec PyProof.Rows L2
open TL (tl)
def netR (lb nn : Int) : Dt → Bool
  | .tup [a, .tup es] => intIn 1 4000 a && es.all (edgeB (intOf a) nn lb)
  | _ => false
theorem netR_of {lb nn : Int} {d : Dt} (h : netR lb nn d = true) : ∃ i es, d = .tup [.int i, .tup es] ∧ 1 ≤ i ∧ i ≤ 4000 ∧ es.all (edgeB i nn lb) = true := by
  cases d with
  | tup xs =>
    match xs, h with
    | [a, .tup es], h =>
      have h : (intIn 1 4000 a && es.all (edgeB (intOf a) nn lb)) = true := h
      rw [Bool.and_eq_true] at h
      obtain ⟨i, rfl, h1, h2⟩ := int_in.mp h.1
      exact ⟨i, es, rfl, h1, h2, h.2⟩
  | _ => cases h
theorem netR_int {lb nn i : Int} {es : List Dt} : netR lb nn (.tup [.int i, .tup es]) = (intIn 1 4000 (.int i) && es.all (edgeB i nn lb)) := rfl
theorem netR_no {lb nn : Int} {d : Dt} (h : lenIs 2 d = false) : netR lb nn d = false := by
  cases d with
  | tup xs =>
    match xs, h with
    | [_, _], h => cases h
    | [], _ | [_], _ => rfl
    | _ :: y :: _ :: _, _ => cases y <;> rfl
  | _ => rfl
theorem netR_no1 {lb nn : Int} {x y : Dt} (h : intIn 1 4000 x = false) : netR lb nn (.tup [x, y]) = false := by
  cases y with
  | tup es =>
    show (intIn 1 4000 x && _) = false
    rw [h]
    rfl
  | _ => rfl
theorem netR_no2 {lb nn : Int} {x y : Dt} (h : isTup y = false) : netR lb nn (.tup [x, y]) = false := by
  cases y with
  | tup es => cases h
  | _ => rfl
theorem nets_good {lb : Int} {ns : List Dt} (h : ∀ n ∈ ns, netR lb ns.length n = true) : netsB lb (.tup ns) = (lenIn 1 400 (.tup ns) && (decide ((ns.map net0).sum ≤ 4000) && decide ((ns.map fun n => ((netEs n).length : Int)).sum ≤ 8000))) := by
  have h1 : ns.all headB = true := List.all_eq_true.mpr fun n hn => by
    obtain ⟨i, es, rfl, a, b, c⟩ := netR_of (h n hn)
    show (decide (1 ≤ i) && true) = true
    rw [decide_eq_true a]
    rfl
  have h2 : (ns.all fun n => (netEs n).all (edgeB (net0 n) ns.length lb)) = true := List.all_eq_true.mpr fun n hn => by
    obtain ⟨i, es, rfl, a, b, c⟩ := netR_of (h n hn)
    exact c
  show ((lenIn 1 400 (.tup ns) && ns.all headB) && ((decide ((ns.map net0).sum ≤ 4000) && decide ((ns.map fun n => ((netEs n).length : Int)).sum ≤ 8000)) && ns.all fun n => (netEs n).all (edgeB (net0 n) ns.length lb))) = _
  rw [h1, h2, Bool.and_true, Bool.and_true]
theorem nets_bad {lb : Int} {ns : List Dt} {n : Dt} (hn : n ∈ ns) (h : netR lb ns.length n = false) : netsB lb (.tup ns) = false := by
  cases hb : netsB lb (.tup ns) with
  | false => rfl
  | true =>
    have hb : ((lenIn 1 400 (.tup ns) && ns.all headB) && ((decide ((ns.map net0).sum ≤ 4000) && decide ((ns.map fun n => ((netEs n).length : Int)).sum ≤ 8000)) && ns.all fun n => (netEs n).all (edgeB (net0 n) ns.length lb))) = true := hb
    rw [Bool.and_eq_true, Bool.and_eq_true, Bool.and_eq_true, Bool.and_eq_true] at hb
    obtain ⟨⟨_, h1⟩, ⟨h2, _⟩, h3⟩ := hb
    have hh := List.all_eq_true.mp h1
    obtain ⟨i, es, rfl, hi⟩ := head_of (hh n hn)
    have h4 := List.all_eq_true.mp h3 _ hn
    have h5 : i ≤ (ns.map net0).sum := sum_pos (fun y hy => by
      obtain ⟨m, hm, rfl⟩ := List.mem_map.mp hy
      obtain ⟨j, fs, rfl, hj⟩ := head_of (hh m hm)
      exact hj) (List.mem_map.mpr ⟨_, hn, rfl⟩)
    have h2 := of_decide_eq_true h2
    rw [netR_int, show intIn 1 4000 (.int i) = (decide (1 ≤ i) && decide (i ≤ 4000)) from rfl, decide_eq_true hi, decide_eq_true (by omega)] at h
    have h4 : es.all (edgeB i ns.length lb) = true := h4
    rw [h4] at h
    cases h
section
variable {P : Program} {w : World} {K : PySem.W.Frag} {mg : Str → Option Value} {base : Heap}
theorem scWr : FnScope ["web", "net", "edge"] ["web"] (defScope sWR) := ⟨rfl, rfl, rfl, by decide +kernel, rfl, by decide +kernel, by decide +kernel⟩
theorem ok_wr {f : Addr} {fd : FuncData} (F : Fun K "_law_web_right" "_law_web_right" sWR f fd) (T : Bn mg) (hsum : mg "sum" = none) (cBe : Cl P w K mg base "_law_between" ["value", "low", "high"] 1 spWin) (cER : Cl P w K mg base "_law_edge_right" ["edge", "labels", "many", "places"] 2 spER) : FnOk P w K mg base CX0 3 f fd ["web"] (spAsk webB) := by
  obtain ⟨fBe, fdBe, GBe, mBe, kBe, bBe⟩ := cBe
  obtain ⟨fER, fdER, GER, mER, kER, bER⟩ := cER
  refine F.ok scWr (fun vs H Q E h => ?_) (fun cdv A outer s H vs Q E hr h => ?_)
  · obtain ⟨g, v, d, rfl, _⟩ := h
    rfl
  · obtain ⟨g, v, d, rfl, hd, k⟩ := h
    have hr1 : Room 1 _ := hr.mono (by decide)
    obtain ⟨t0, ht0, k1, k2, k3, k4⟩ := hd.ty (K := K)
    refine ⟨_, (pss_cons (ps_if (PW.pt (pw_or (pt_not (pt_val (pe_callB call_isi (by rfl) T.isi (by decide +kernel) (pa_cons (pv 0) (pa_cons (pe_bltn (v := .ty "tuple") (by rfl) T.tpl boot_tuple rfl) pa_nil))))) (pw_or (pt_cmpR op_ne (pe_callB call_len_seq (by rfl) T.len PySem.boot_len (pa_cons (pv 0) pa_nil)) pe_int (nomark _)) (pw_or1 (pt_not (pt_val (pe_call GBe hr1 (by rfl) mBe kBe bBe .nil pass0 (pa_cons (pe_ix ix_tup (pv 0) pe_int (fun _ _ => rfl)) (pa_cons pe_int (pa_cons pe_int pa_nil)))))))))) (pss_one (ps_ret pe_bl)) pss_nil)
      (pss_cons (ps_if (PW.pt (pw_or (pt_not (pt_val (pe_callB call_isi (by rfl) T.isi (by decide +kernel) (pa_cons (pe_ix ix_tup (pv 0) pe_int (fun _ _ => rfl)) (pa_cons (pe_bltn (v := .ty "tuple") (by rfl) T.tpl boot_tuple rfl) pa_nil))))) (pw_or1 (pt_not (pt_chain op_le op_le pe_int (pe_callB call_len_seq (by rfl) T.len PySem.boot_len (pa_cons (pe_ix ix_tup (pv 0) pe_int (fun _ _ => rfl)) pa_nil)) pe_int))))) (pss_one (ps_ret pe_bl)) pss_nil)
      (pss_cons (ps_for PassesOwn.never rfl (pi_tup (pe_ix ix_tup (pv 0) pe_int (fun _ _ => rfl))) (pg_name (i := 1) scWr.nd rfl (Or.inl rfl))
          (pss_cons (ps_if (PW.pt (pw_or (pt_not (pt_val (pe_callB call_isi (by rfl) T.isi (by decide +kernel) (pa_cons (pv 1) (pa_cons (pe_bltn (v := .ty "tuple") (by rfl) T.tpl boot_tuple rfl) pa_nil))))) (pw_or (pt_cmpR op_ne (pe_callB call_len_seq (by rfl) T.len PySem.boot_len (pa_cons (pv 1) pa_nil)) pe_int (nomark _)) (pw_or1 (pt_not (pt_val (pe_call GBe hr1 (by rfl) mBe kBe bBe .nil pass0 (pa_cons (pe_ix ix_tup (pv 1) pe_int (fun _ _ => rfl)) (pa_cons pe_int (pa_cons pe_int pa_nil)))))))))) (pss_one (ps_ret pe_bl)) pss_nil)
          (pss_cons (ps_if (pt_not (pt_val (pe_callB call_isi (by rfl) T.isi (by decide +kernel) (pa_cons (pe_ix ix_tup (pv 1) pe_int (fun _ _ => rfl)) (pa_cons (pe_bltn (v := .ty "tuple") (by rfl) T.tpl boot_tuple rfl) pa_nil))))) (pss_one (ps_ret pe_bl)) pss_nil)
          (pss_one (ps_for PassesOwn.never rfl (pi_tup (pe_ix ix_tup (pv 1) pe_int (fun _ _ => rfl))) (pg_name (i := 2) scWr.nd rfl (Or.inl rfl))
              (pss_one (ps_if (pt_not (pt_val (pe_call GER hr (by rfl) mER kER bER .nil pass0 (pa_cons (pv 2) (pa_cons (pe_ix ix_tup (pv 0) pe_int (fun _ _ => rfl)) (pa_cons (pe_callB call_len_seq (by rfl) T.len PySem.boot_len (pa_cons (pe_ix ix_tup (pv 0) pe_int (fun _ _ => rfl)) pa_nil)) (pa_cons (pe_ix ix_tup (pv 1) pe_int (fun _ _ => rfl)) pa_nil))))))) (pss_one (ps_ret pe_bl)) pss_nil)))))))
      (pss_one (ps_ret (pe_and (pe_cmpR op_le (pe_callB (cr_sum rfl) (by rfl) hsum (by decide +kernel) (pa_cons (pe_lc (own := [("net", 1)]) (g := gName 1) (tt := tYes) (by rfl) scWr.nd (pi_tup (pe_ix ix_tup (pv 0) pe_int (fun _ _ => rfl))) (blkOk_by (own := [("net", 1)]) (N := ["web", "net", "edge"]) (sc := defScope sWR) (by decide +kernel)) (fun _ _ _ _ _ => (pg_name (i := 1) scWr.nd rfl (Or.inl rfl))) (fun _ _ _ _ _ => pts_nil) (fun _ _ _ _ _ => (pe_ix (show IxR _ (rIxT K) from ix_tup) (pv 1) pe_int (fun _ _ => rfl)))) pa_nil)) pe_int (nomark _)) (pe_one (pe_cmpR op_le (pe_callB (cr_sum rfl) (by rfl) hsum (by decide +kernel) (pa_cons (pe_lc (own := [("net", 1)]) (g := gName 1) (tt := tYes) (by rfl) scWr.nd (pi_tup (pe_ix ix_tup (pv 0) pe_int (fun _ _ => rfl))) (blkOk_by (own := [("net", 1)]) (N := ["web", "net", "edge"]) (sc := defScope sWR) (by decide +kernel)) (fun _ _ _ _ _ => (pg_name (i := 1) scWr.nd rfl (Or.inl rfl))) (fun _ _ _ _ _ => pts_nil) (fun _ _ _ _ _ => (pe_callB (show CallR _ _ (rLenQ K) from call_len_seq) (by rfl) T.len PySem.boot_len (pa_cons (pe_ix (show IxR _ (rIxT K) from ix_tup) (pv 1) pe_int (fun _ _ => rfl)) pa_nil)))) pa_nil)) pe_int (nomark _))))))))), ?_⟩
    have bad : webB d = false → ∀ H', Same H H' → Q (.bl false) H' := fun hb H' s' => by
      have := k H' s'
      rw [hb] at this
      exact this
    refine ⟨_, rfl, _, _, _, _, _, rfl, .ty "tuple", ht0, k2, _, rfl, ?_⟩
    cases hit : isTup d with
    | false => exact ifT rfl (ifT rfl (bad (web_no (by cases d <;> first | rfl | cases hit)) H (Same.refl H)))
    | true =>
    refine ifF rfl ?_
    obtain ⟨l, rfl⟩ : ∃ l, d = .tup l := by
      cases d with
      | tup l => exact ⟨l, rfl⟩
      | _ => cases hit
    obtain ⟨b, xs, rfl, e, hl2, r⟩ := hd.tup_inv
    refine ⟨_, rfl, b, xs, rfl, .inr (SqT.of e), rfl, _, rfl, ?_⟩
    by_cases h5 : l.length = 2
    rotate_left
    · refine ifT ?_ (ifT rfl (bad (web_no (decide_eq_false h5)) H (Same.refl H)))
      rw [decide_eq_false (fun z => h5 (by injection z with z; rw [r.len] at z; omega))] <;> rfl
    refine ifF (by rw [decide_eq_true (show V.int ((xs.length : Nat) : Int) = V.int 2 by rw [r.len, h5]; rfl)] <;> rfl) ?_
    obtain ⟨x, y, e5⟩ := len2 (d := .tup l) (decide_eq_true h5)
    injection e5 with e5
    subst e5
    obtain ⟨b', vx, vy, eb0, eb, hx, hy⟩ := hd.tup2
    obtain rfl := V.ref.inj eb0
    clear e r xs
    refine ⟨_, rfl, b, _, 0, _, rfl, rfl, SqT.of eb, atI_nat (j := 0) rfl, g, vx, x, 0, 4000, rfl, hx, fun H1 s1 => ⟨_, rfl, ?_⟩⟩
    have e0 : webB (.tup [x, y]) = (intIn 0 4000 x && netsB (intOf x) y) := rfl
    cases q1 : intIn 0 4000 x with
    | false =>
      rw [q1] at e0
      exact ifT rfl (bad e0 H1 s1)
    | true =>
    rw [q1] at e0
    refine ifF rfl ?_
    obtain ⟨lb, rfl⟩ : ∃ i, x = .int i := by
      cases x with
      | int i => exact ⟨i, rfl⟩
      | _ => cases q1
    obtain rfl := hx.int_inv
    replace e0 : webB (.tup [.int lb, y]) = netsB lb y := e0
    have hy1 := hy.keep (Kv.of s1)
    have eb1 := s1 _ _ eb
    obtain ⟨t1, ht1, k11, k12, k13, k14⟩ := hy1.ty (K := K)
    refine ⟨_, rfl, b, _, 1, _, rfl, rfl, SqT.of eb1, atI_nat (j := 1) rfl, _, _, _, _, _, rfl, .ty "tuple", ht1, k12, _, rfl, ?_⟩
    cases hit1 : isTup y with
    | false =>
      have : netsB lb y = false := by
        cases y with
        | tup l => cases hit1
        | _ => rfl
      exact ifT rfl (ifT rfl (bad (e0.trans this) H1 s1))
    | true =>
    refine ifF rfl ?_
    obtain ⟨ns, rfl⟩ : ∃ l, y = .tup l := by
      cases y with
      | tup l => exact ⟨l, rfl⟩
      | _ => cases hit1
    obtain ⟨c, xs, rfl, ec, hxl, rr⟩ := hy1.tup_inv
    have hlen := rr.len
    have e2 : lenIn 1 400 (.tup ns) = (decide (1 ≤ (ns.length : Int)) && decide ((ns.length : Int) ≤ 400)) := rfl
    have badl : lenIn 1 400 (.tup ns) = false → ∀ H', Same H H' → Q (.bl false) H' := fun h => bad (e0.trans (by
      show ((lenIn 1 400 (.tup ns) && _) && _) = false
      rw [h]
      rfl))
    refine ⟨_, rfl, b, _, 1, _, rfl, rfl, SqT.of eb1, atI_nat (j := 1) rfl, c, xs, rfl, .inr (SqT.of ec), _, _, rfl, rfl, _, rfl, ?_⟩
    by_cases l1 : 1 ≤ (ns.length : Int)
    rotate_left
    · rw [decide_eq_false l1] at e2
      refine ifF (decide_eq_false (by rw [hlen]; exact l1)) ⟨_, rfl, ifT rfl (badl e2 H1 s1)⟩
    refine ifT (decide_eq_true (by rw [hlen]; exact l1)) ⟨_, _, rfl, rfl, _, rfl, ?_⟩
    by_cases l4 : (ns.length : Int) ≤ 400
    rotate_left
    · rw [decide_eq_false l4, Bool.and_false] at e2
      rw [decide_eq_false (by rw [hlen]; exact l4)]
      exact ifT rfl (badl e2 H1 s1)
    rw [decide_eq_true l4, decide_eq_true l1] at e2
    rw [decide_eq_true (show ((xs.length : Nat) : Int) ≤ 400 by rw [hlen]; exact l4)]
    refine ifF rfl ?_
    clear badl
    -- each net
    refine ⟨_, rfl, b, _, 1, _, rfl, rfl, SqT.of eb1, atI_nat (j := 1) rfl, c, rfl, ⟨_, SqT.of ec⟩, ?_⟩
    refine for_it (walk_tup (K := K) (a := c) (xs := xs)) (fun i σ H' => ∃ v1 v2 : Option V, σ = [some (.ref b), v1, v2] ∧ Same H1 H' ∧ ∀ n ∈ ns.take i, netR lb ns.length n = true) ⟨_, _, rfl, Same.refl H1, fun n hn => by rw [List.take_zero] at hn; cases hn⟩ (fun i σ H' _ ⟨_, _, _, s', _⟩ => SqT.of (s' _ _ ec)) ?_ ?_
    · rintro i x σ H2z H2 hi ⟨v1, v2, rfl, s2, hok⟩ ⟨rfl, hx2⟩
      obtain ⟨d, hd2, hxd⟩ := rr.at_ hx2
      have hm := List.mem_of_getElem? hd2
      have badn : netR lb ns.length d = false → ∀ H', Same H1 H' → Q (.bl false) H' := fun h H' s' => bad (e0.trans (nets_bad hm h)) H' (s1.trans s')
      have hx2' := hxd.keep (Kv.of s2)
      obtain ⟨t3, ht3, k31, k32, k33, k34⟩ := hx2'.ty (K := K)
      refine ⟨_, rfl, _, _, _, _, _, rfl, .ty "tuple", ht3, k32, _, rfl, ?_⟩
      cases hit3 : isTup d with
      | false => exact ifT rfl (ifT rfl (badn (netR_no (by cases d <;> first | rfl | cases hit3)) H2 s2))
      | true =>
      refine ifF rfl ?_
      obtain ⟨l, rfl⟩ : ∃ l, d = .tup l := by
        cases d with
        | tup l => exact ⟨l, rfl⟩
        | _ => cases hit3
      obtain ⟨bn, xn, rfl, en, _, rn⟩ := hx2'.tup_inv
      refine ⟨_, rfl, bn, xn, rfl, .inr (SqT.of en), rfl, _, rfl, ?_⟩
      by_cases h6 : l.length = 2
      rotate_left
      · refine ifT ?_ (ifT rfl (badn (netR_no (decide_eq_false h6)) H2 s2))
        rw [decide_eq_false (fun z => h6 (by injection z with z; rw [rn.len] at z; omega))] <;> rfl
      refine ifF (by rw [decide_eq_true (show V.int ((xn.length : Nat) : Int) = V.int 2 by rw [rn.len, h6]; rfl)] <;> rfl) ?_
      obtain ⟨u, y2, e6⟩ := len2 (d := .tup l) (decide_eq_true h6)
      injection e6 with e6
      subst e6
      obtain ⟨bn', vu, vy2, en0, enb, hu2, hy2⟩ := hx2'.tup2
      obtain rfl := V.ref.inj en0
      clear en rn xn
      refine ⟨_, rfl, bn, _, 0, _, rfl, rfl, SqT.of enb, atI_nat (j := 0) rfl, g, vu, u, 1, 4000, rfl, hu2, fun H3 s3 => ⟨_, rfl, ?_⟩⟩
      cases q2 : intIn 1 4000 u with
      | false => exact ifT rfl (badn (netR_no1 q2) H3 (s2.trans s3))
      | true =>
      refine ifF rfl ?_
      obtain ⟨pl, rfl⟩ : ∃ i, u = .int i := by
        cases u with
        | int i => exact ⟨i, rfl⟩
        | _ => cases q2
      obtain rfl := hu2.int_inv
      have s13 := s2.trans s3
      have hy3 := hy2.keep (Kv.of s3)
      have enb3 := s3 _ _ enb
      obtain ⟨t4, ht4, k41, k42, k43, k44⟩ := hy3.ty (K := K)
      refine ⟨_, rfl, bn, _, 1, _, rfl, rfl, SqT.of enb3, atI_nat (j := 1) rfl, _, _, _, _, _, rfl, .ty "tuple", ht4, k42, _, rfl, ?_⟩
      cases hit4 : isTup y2 with
      | false => exact ifT rfl (badn (netR_no2 hit4) H3 s13)
      | true =>
      refine ifF rfl ?_
      obtain ⟨es, rfl⟩ : ∃ l, y2 = .tup l := by
        cases y2 with
        | tup l => exact ⟨l, rfl⟩
        | _ => cases hit4
      obtain ⟨ce, xe, rfl, ece, _, re⟩ := hy3.tup_inv
      refine ⟨_, rfl, bn, _, 1, _, rfl, rfl, SqT.of enb3, atI_nat (j := 1) rfl, ce, rfl, ⟨_, SqT.of ece⟩, ?_⟩
      have e7 : netR lb ns.length (.tup [.int pl, .tup es]) = (intIn 1 4000 (.int pl) && es.all (edgeB pl ns.length lb)) := rfl
      refine for_it (walk_tup (K := K) (a := ce) (xs := xe)) (fun j σ H' => ∃ v2 : Option V, σ = [some (.ref b), some (.ref bn), v2] ∧ Same H3 H' ∧ (es.take j).all (edgeB pl ns.length lb) = true) ⟨_, rfl, Same.refl H3, rfl⟩ (fun i σ H' _ ⟨_, _, s', _⟩ => SqT.of (s' _ _ ece)) ?_ ?_
      · rintro j y3 σ H4z H4 hj ⟨v2, rfl, s4, hall⟩ ⟨rfl, hy4⟩
        obtain ⟨de, hde, hyd⟩ := re.at_ hy4
        have s14 := s13.trans s4
        have eb4 := s14 _ _ eb1
        refine ⟨_, rfl, _, rfl, b, _, 0, _, rfl, rfl, SqT.of eb4, atI_nat (j := 0) rfl, _, rfl, b, _, 1, _, rfl, rfl, SqT.of eb4, atI_nat (j := 1) rfl, c, xs, rfl, .inr (SqT.of (s14 _ _ ec)), _, rfl, bn, _, 0, _, rfl, rfl, SqT.of (s4 _ _ enb3), atI_nat (j := 0) rfl, g, y3, de, lb, (xs.length : Nat), pl, rfl, hyd.keep (Kv.of s4), fun H5 s5 => ⟨_, rfl, ?_⟩⟩
        rw [hlen]
        cases q3 : edgeB pl (ns.length : Nat) lb de with
        | false =>
          refine ifT rfl (badn ?_ H5 (s14.trans s5))
          rw [e7, show es.all (edgeB pl ns.length lb) = false from ?_, Bool.and_false]
          cases h : es.all (edgeB pl ns.length lb) with
          | false => rfl
          | true =>
            have := List.all_eq_true.mp h de (List.mem_of_getElem? hde)
            rw [q3] at this
            cases this
        | true =>
          refine ifF rfl ⟨_, rfl, s4.trans s5, ?_⟩
          rw [List.take_succ, hde, List.all_append, hall]
          show (true && (edgeB pl ns.length lb de && true)) = true
          rw [q3]
          rfl
      rintro σ H4 ⟨v2, rfl, s4, hall⟩
      rw [re.len, List.take_length] at hall
      refine ⟨_, _, rfl, s13.trans s4, fun n hn => ?_⟩
      rw [List.take_succ, hd2] at hn
      rcases List.mem_append.mp hn with hn | hn
      · exact hok n hn
      · rw [List.mem_singleton.mp hn, e7, q2, hall]
        rfl
    rintro σ H2 ⟨v1, v2, rfl, s2, hok⟩
    rw [hlen, List.take_length] at hok
    have e9 := nets_good hok
    rw [e0, e9, e2] at k
    have k : ∀ H', Same H H' → Q (.bl (decide ((ns.map net0).sum ≤ 4000) && decide ((ns.map fun n => ((netEs n).length : Int)).sum ≤ 8000))) H' := k
    have s02 := s1.trans s2
    have ec2 := s2 _ _ ec
    have eb2 := s2 _ _ eb1
    have rr2 := rr.keep (Kv.of s2)
    refine ⟨_, rfl, b, _, 1, _, rfl, rfl, SqT.of eb2, atI_nat (j := 1) rfl, c, rfl, ⟨_, SqT.of ec2⟩, ?_⟩
    refine lc_tupG (K := K) (f := fun d => V.int (net0 d)) (i := 1) (vs := [1]) rr2 ec2 hxl (fun x => rfl) ?_ ?_
    · intro x d H2' R hm hx s2 hR
      obtain ⟨i, es, rfl, _⟩ := netR_of (hok d hm)
      obtain ⟨b', vx', vy', rfl, eb', hx', _⟩ := hx.tup2
      obtain rfl := hx'.int_inv
      exact ⟨_, rfl, b', _, 0, _, rfl, rfl, SqT.of eb', atI_nat (j := 0) rfl, hR _ (Same.refl _)⟩
    intro D5 H5 s5 _ hD5
    refine ⟨D5, ns.map net0, rfl, SqL.of (by rw [List.map_map]; exact hD5), _, _, rfl, rfl, _, rfl, ?_⟩
    have s05 := s02.trans s5
    by_cases h4 : (ns.map net0).sum ≤ 4000
    rotate_left
    · rw [decide_eq_false h4] at k ⊢
      exact iteF (k H5 s05)
    rw [decide_eq_true h4] at k ⊢
    have ec5 := s5 _ _ ec2
    have rr5 := rr2.keep (Kv.of s5)
    refine iteT ⟨_, rfl, b, _, 1, _, rfl, rfl, SqT.of (s5 _ _ eb2), atI_nat (j := 1) rfl, c, rfl, ⟨_, SqT.of ec5⟩, ?_⟩
    refine lc_tupG (K := K) (f := fun d => V.int ((netEs d).length : Int)) (i := 1) (vs := [1]) rr5 ec5 hxl (fun x => rfl) ?_ ?_
    · intro x d H2' R hm hx s2 hR
      obtain ⟨i, es, rfl, _⟩ := netR_of (hok d hm)
      obtain ⟨b', vx', vy', rfl, eb', _, hy'⟩ := hx.tup2
      obtain ⟨ce, xe, rfl, ece, _, re⟩ := hy'.tup_inv
      refine ⟨_, rfl, b', _, 1, _, rfl, rfl, SqT.of eb', atI_nat (j := 1) rfl, ce, xe, rfl, .inr (SqT.of ece), ?_⟩
      have := hR H2' (Same.refl _)
      rw [show (netEs (.tup [.int i, .tup es])) = es from rfl, ← re.len] at this
      exact this
    intro D6 H6 s6 _ hD6
    exact ⟨D6, ns.map fun n => ((netEs n).length : Int), rfl, SqL.of (by rw [List.map_map]; exact hD6), _, _, rfl, rfl, k H6 (s05.trans s6)⟩
end
end K65

set_option Elab.async false
set_option linter.all false
set_option pp.maxSteps 900
set_option maxRecDepth 100000
set_option maxHeartbeats 4000000
namespace K65
open PySem PySem.Spec PyProof.Rows L2
open TL (tl)
abbrev sGo : Stmt := top 37
def g1 (kvs : List (List Key × V)) (a : Nat) (p : Int) (e : Ed) : Bool := decide (e.p = p) && (valV kvs (pK (a : Nat) e.t)).isSome
def g2 (kvs : List (List Key × V)) (e : Ed) : Bool := match e.c with
  | none => true
  | some c => (valV kvs (pK c 0)).isSome
def goL (kvs : List (List Key × V)) (a : Nat) (p : Int) (es : List Ed) : List Ed := (es.filter (g1 kvs a p)).filter (g2 kvs)
def spGo : Sp := fun vs H Q _ => ∃ (g f t : Addr) (vw : V) (W : Web) (kvs : List (List Key × V)) (a : Nat) (p : Int) (nt : Int × List Ed), vs = [vw, .ref f, .ref t] ∧ DV g H vw (wbD W) ∧ OkW W ∧ H f = some (.dT kvs) ∧ H t = some (.tup [.int (a : Nat), .int p]) ∧ W.ns[a]? = some nt ∧
  ∀ (D : Addr) (H' : Hp) (ys : List V), Same H H' → H D = none → H' D = some (.lst ys) → (∀ g', DVs g' H' ys ((goL kvs a p nt.2).map edD)) → Q (.ref D) H'
theorem filter_take {α : Type} (f : α → Bool) {l : List α} {i : Nat} {x : α} (h : l[i]? = some x) : (l.take (i + 1)).filter f = if f x = true then (l.take i).filter f ++ [x] else (l.take i).filter f := by
  rw [List.take_succ, h, List.filter_append]
  show _ ++ [x].filter f = _
  rw [List.filter_cons]
  split <;> simp
section
variable {P : Program} {w : World} {K : PySem.W.Frag} {mg : Str → Option Value} {base : Heap}
theorem scGo : FnScope ["web", "roads", "pair", "some", "edge"] ["web", "roads", "pair"] (defScope sGo) := ⟨rfl, rfl, rfl, by decide +kernel, rfl, by decide +kernel, by decide +kernel⟩
theorem ok_go {f : Addr} {fd : FuncData} (F : Fun K "_law_wb_going" "_law_wb_going" sGo f fd) (T : Bn mg) : FnOk P w K mg base CX0 1 f fd ["web", "roads", "pair"] spGo := by
  refine F.ok scGo (fun vs H Q E h => ?_) (fun cdv A outer s H vs Q E hr h => ?_)
  · obtain ⟨g, a, b, c, d, e, i, j, k, rfl, _⟩ := h
    rfl
  · obtain ⟨g, fr, t, vw, W, kvs, a, p, nt, rfl, hw, okw, ef, et, hnt, k⟩ := h
    have hu := hu_of hr
    refine ⟨_, (pss_cons (ps_setLc (i := 3) (own := [("edge", 4)]) (g := gName 4) (by rfl) scGo.nd rfl rfl (sw_true rfl rfl rfl (by decide +kernel)) (pi_tup (pe_ix ix_tup (pe_ix ix_tup (pe_ix ix_tup (pv 0) pe_int (fun _ _ => rfl)) (pe_ix ix_tup (pv 2) pe_int (fun _ _ => rfl)) (fun _ _ => rfl)) pe_int (fun _ _ => rfl))) (blkOk_by (own := [("edge", 4)]) (N := ["web", "roads", "pair", "some", "edge"]) (sc := defScope sGo) (by decide +kernel)) (fun _ _ _ _ _ => (pg_name (i := 4) scGo.nd rfl (Or.inl rfl))) (fun _ _ _ _ _ => (pts_one (PW.pt (pw_and (pt_cmpR op_eq (pe_ix (show IxR _ (rIxT K) from ix_tup) (pv 4) pe_int (fun _ _ => rfl)) (pe_ix (show IxR _ (rIxT K) from ix_tup) (pv 2) pe_int (fun _ _ => rfl)) (nomark _)) (pw_and1 (pt_cmp (pc_din hu (pe_tup (pa_cons (pe_ix (show IxR _ (rIxT K) from ix_tup) (pv 2) pe_int (fun _ _ => rfl)) (pa_cons (pe_ix (show IxR _ (rIxT K) from ix_tup) (pv 4) pe_int (fun _ _ => rfl)) pa_nil))) (pv 1)))))))) (fun _ _ _ _ _ => (pv 4)))
      (pss_one (ps_ret (pe_lc (own := [("edge", 4)]) (g := gName 4) (by rfl) scGo.nd (pi_list (pv 3)) (blkOk_by (own := [("edge", 4)]) (N := ["web", "roads", "pair", "some", "edge"]) (sc := defScope sGo) (by decide +kernel)) (fun _ _ _ _ _ => (pg_name (i := 4) scGo.nd rfl (Or.inl rfl))) (fun _ _ _ _ _ => (pts_one (PW.pt (pw_or (pt_cmpR op_isN (pe_ix (show IxR _ (rIxT K) from ix_tup) (pv 4) pe_int (fun _ _ => rfl)) pe_non (nomark _)) (pw_or1 (pt_cmp (pc_din hu (pe_tup (pa_cons (pe_ix (show IxR _ (rIxT K) from ix_tup) (pv 4) pe_int (fun _ _ => rfl)) (pa_cons pe_int pa_nil))) (pv 1)))))))) (fun _ _ _ _ _ => (pv 4)))))), ?_⟩
    obtain ⟨b0, c0, xn, rfl, eb0, ec0, rn⟩ := wb_at hw
    have hal := (List.getElem?_eq_some_iff.mp hnt).1
    have hxl : a < xn.length := by rw [rn.len, List.length_map]; exact hal
    obtain ⟨dn, hdn, hxd⟩ := rn.at_ (List.getElem?_eq_getElem hxl)
    rw [List.getElem?_map, hnt] at hdn
    obtain rfl := Option.some.inj hdn
    have hxa : xn[a]? = some (xn[a]'hxl) := List.getElem?_eq_getElem hxl
    generalize xn[a]'hxl = vx at hxa hxd
    obtain ⟨b3, c3, xe, rfl, eb3, ec3, re⟩ := nt_at hxd
    have hxe : xe.length = nt.2.length := by rw [re.len, List.length_map]
    have hel : nt.2.length ≤ 8000 := by
      have h1 := exUp_le W (show a + 1 ≤ W.ns.length by omega)
      rw [exUp_succ, List.length_append, List.length_map, List.length_zipIdx] at h1
      have h2 : edsN W a = nt.2 := by
        unfold edsN
        rw [hnt]
        rfl
      rw [h2] at h1
      have h3 := ges_len okw
      have h4 := ex_len (W := W)
      have : (exUp W W.ns.length).length = (gesOf W).length := h4
      omega
    refine ⟨_, rfl, b0, _, 1, _, rfl, rfl, SqT.of eb0, atI_nat (j := 1) rfl, _, rfl, t, _, 0, _, rfl, rfl, SqT.of et, atI_nat (j := 0) rfl, c0, xn, (a : Nat), .ref b3, rfl, rfl, SqT.of ec0, atI_nat hxa, b3, _, 1, _, rfl, rfl, SqT.of eb3, atI_nat (j := 1) rfl, c3, rfl, ⟨_, SqT.of ec3⟩, fun D hD => ?_⟩
    refine lc_it (walk_tup (K := K) (a := c3) (xs := xe)) (fun i H' => ∃ ys : List V, H' D = some (.lst ys) ∧ ys.length ≤ i ∧ Same H H' ∧ ∀ g', DVs g' H' ys (((nt.2.take i).filter (g1 kvs a p)).map edD)) ⟨[], upd_same, Nat.zero_le _, same_new hD, fun g' => .nil⟩ (fun i H' _ ⟨_, _, _, s', _⟩ => SqT.of (s' _ _ ec3)) ?_ ?_
    · rintro i x H2z H2 hi ⟨ys, e2, hyl, s2, hys⟩ ⟨rfl, hx⟩
      obtain ⟨de, hde, hxd2⟩ := re.at_ hx
      rw [List.getElem?_map] at hde
      obtain ⟨e, he, rfl⟩ := Option.map_eq_some_iff.mp hde
      obtain ⟨be, ae, rfl, ebe, xl, eae, rl⟩ := ed_at hxd2
      refine ⟨(by rfl), ?_⟩
      refine ⟨_, rfl, be, _, 0, _, rfl, rfl, SqT.of (s2 _ _ ebe), atI_nat (j := 0) rfl, _, rfl, t, _, 1, _, rfl, rfl, SqT.of (s2 _ _ et), atI_nat (j := 1) rfl, rfl, _, rfl, ?_⟩
      have stay : g1 kvs a p e = false → ∀ H', Same H2 H' → ∃ ys : List V, H' D = some (.lst ys) ∧ ys.length ≤ i + 1 ∧ Same H H' ∧ ∀ g', DVs g' H' ys (((nt.2.take (i + 1)).filter (g1 kvs a p)).map edD) := fun hg H' s' => by
        refine ⟨ys, s' _ _ e2, by omega, s2.trans s', fun g' => ?_⟩
        rw [filter_take _ he, hg]
        exact (hys g').keep (Kv.of s')
      by_cases hp : e.p = p
      rotate_left
      · refine ifF (decide_eq_false fun z => hp (V.int.inj z)) (ifF rfl (stay ?_ H2 (Same.refl H2)))
        unfold g1
        rw [decide_eq_false hp]
        rfl
      refine ifT (decide_eq_true (by rw [hp])) ⟨_, rfl, t, _, 0, _, rfl, rfl, SqT.of (s2 _ _ et), atI_nat (j := 0) rfl, _, rfl, be, _, 1, _, rfl, rfl, SqT.of (s2 _ _ ebe), atI_nat (j := 1) rfl, (by show 2 ≤ sizeLine; decide), fun q hq => ?_⟩
      generalize hH3 : upd H2 q _ = H3
      obtain ⟨sq, eq⟩ := freshF hq hH3
      have s03 := s2.trans sq
      refine ⟨_, rfl, fr, _, rfl, DGet.t (k := pK (a : Nat) e.t) (s03 _ _ ef) eq, _, rfl, ?_⟩
      cases hv : (valV kvs (pK (a : Nat) e.t)).isSome with
      | false =>
        refine ifF rfl (stay ?_ H3 sq)
        unfold g1
        rw [hv, Bool.and_false]
      | true =>
        have hg : g1 kvs a p e = true := by
          unfold g1
          rw [hv, decide_eq_true hp]
          rfl
        refine ifT rfl ⟨_, rfl, ys, sq _ _ e2, by rw [sizeLine_eq]; omega, ys ++ [.ref be], upd_same, by rw [List.length_append]; show ys.length + 1 ≤ _; omega, fun b o eb => ?_, fun g' => ?_⟩
        · rw [upd_ne (ne_of_none eb hD)]
          exact s03 _ _ eb
        · rw [filter_take _ he, hg, if_pos rfl, List.map_append]
          have kt : Kt H3 (upd H3 D (.lst (ys ++ [.ref be]))) := Kt.put (sq _ _ e2)
          exact (((hys g').keep (Kv.of sq)).keepP kt (eds_pur _)).app (.cons (((DV.keepP (g' := g') (Kt.of s03) (ed_pur e) hxd2).keepP kt (ed_pur e))) .nil)
    rintro H2 ⟨ys, e2, hyl, s2, hys⟩
    rw [hxe] at hys hyl
    rw [List.take_length] at hys
    refine ⟨_, rfl, D, rfl, ⟨_, SqL.of e2⟩, fun D2 hD2 => ?_⟩
    have hfl : ys.length = (nt.2.filter (g1 kvs a p)).length := by
      have := (hys g).len
      rw [List.length_map] at this
      exact this
    refine lc_it (walk_list (K := K) (a := D) (xs := ys)) (fun i H' => ∃ zs : List V, H' D2 = some (.lst zs) ∧ zs.length ≤ i ∧ Same H2 H' ∧ ∀ g', DVs g' H' zs ((((nt.2.filter (g1 kvs a p)).take i).filter (g2 kvs)).map edD)) ⟨[], upd_same, Nat.zero_le _, same_new hD2, fun g' => .nil⟩ (fun i H' _ ⟨_, _, _, s', _⟩ => SqL.of (s' _ _ e2)) ?_ ?_
    · rintro i x H3z H3 hi ⟨zs, e3, hzl, s3, hzs⟩ ⟨rfl, hx⟩
      obtain ⟨de, hde, hxd2⟩ := (hys g).at_ hx
      rw [List.getElem?_map] at hde
      obtain ⟨e, he, rfl⟩ := Option.map_eq_some_iff.mp hde
      obtain ⟨be, ae, rfl, ebe, xl, eae, rl⟩ := ed_at hxd2
      refine ⟨(by rfl), ?_⟩
      refine ⟨_, rfl, be, _, 2, _, rfl, rfl, SqT.of (s3 _ _ ebe), atI_nat (j := 2) rfl, rfl, _, rfl, ?_⟩
      have take : ∀ H', Same H3 H' → g2 kvs e = true → ∃ acc : List V, H' D2 = some (.lst acc) ∧ acc.length < sizeLine ∧ ∃ zs : List V, (upd H' D2 (.lst (acc ++ [.ref be]))) D2 = some (.lst zs) ∧ zs.length ≤ i + 1 ∧ Same H2 (upd H' D2 (.lst (acc ++ [.ref be]))) ∧ ∀ g', DVs g' (upd H' D2 (.lst (acc ++ [.ref be]))) zs ((((nt.2.filter (g1 kvs a p)).take (i + 1)).filter (g2 kvs)).map edD) := fun H' s' hg => by
        refine ⟨zs, s' _ _ e3, by rw [sizeLine_eq]; omega, zs ++ [.ref be], upd_same, by rw [List.length_append]; show zs.length + 1 ≤ _; omega, fun b o eb => ?_, fun g' => ?_⟩
        · rw [upd_ne (ne_of_none eb hD2)]
          exact s' _ _ (s3 _ _ eb)
        · rw [filter_take _ he, hg, if_pos rfl, List.map_append]
          have kt : Kt H' (upd H' D2 (.lst (zs ++ [.ref be]))) := Kt.put (s' _ _ e3)
          exact (((hzs g').keep (Kv.of s')).keepP kt (eds_pur _)).app (.cons (((DV.keepP (g' := g') (Kt.of (s3.trans s')) (ed_pur e) hxd2).keepP kt (ed_pur e))) .nil)
      cases hc : e.c with
      | none =>
        have hg : g2 kvs e = true := by
          unfold g2
          rw [hc]
        exact ifT rfl (ifT rfl ⟨_, rfl, take H3 (Same.refl H3) hg⟩)
      | some c =>
        rw [hc] at ebe
        refine ifF rfl ⟨_, rfl, be, _, 2, _, rfl, rfl, SqT.of (s3 _ _ ebe), atI_nat (j := 2) rfl, (by show 2 ≤ sizeLine; decide), fun q hq => ?_⟩
        generalize hH4 : upd H3 q _ = H4
        obtain ⟨sq, eq⟩ := freshF hq hH4
        refine ⟨_, rfl, fr, _, rfl, DGet.t (k := pK c 0) (sq _ _ (s3 _ _ (s2 _ _ ef))) eq, _, rfl, ?_⟩
        have hg2 : g2 kvs e = (valV kvs (pK c 0)).isSome := by
          unfold g2
          rw [hc]
        cases hv : (valV kvs (pK c 0)).isSome with
        | true => exact ifT rfl ⟨_, rfl, take H4 sq (hg2.trans hv)⟩
        | false =>
          refine ifF rfl ⟨zs, sq _ _ e3, by omega, s3.trans sq, fun g' => ?_⟩
          rw [filter_take _ he, hg2.trans hv]
          exact (hzs g').keep (Kv.of sq)
    rintro H3 ⟨zs, e3, hzl, s3, hzs⟩
    rw [hfl, List.take_length] at hzs
    exact k D2 H3 zs (s2.trans s3) (no_of s2 hD2) e3 hzs
end
end K65

set_option Elab.async false
set_option linter.all false
set_option pp.maxSteps 900
set_option maxRecDepth 100000
set_option maxHeartbeats 4000000
namespace K65
open PySem PySem.Spec PyProof.Rows L2
open TL (tl)
abbrev sUd : Stmt := top 36
section
variable {X : Cx} {o : Expr} {to : TE} {apos cpos : Pos}
theorem qPop (ho : PE X o to) (hbase : attributeBase o "pop" X.env (eval o X.env) = eval o X.env := by rfl) (hline : (apos.endLine == cpos.line) = true := by rfl) : PE X (.Call (.Attribute o "pop" apos) [] [] cpos) (tBM0 X.K "list" rPop to) :=
  pe_bm0 PySem.F.plainAttrs_list PySem.F.slot_list_pop PySem.F.type_list_pop mt_pop ho hbase hline
end
theorem key_iff {W : Web} {kvs : List (List Key × V)} (F : RdF W kvs) {a : Nat} {p : Int} : (valV kvs (pK (a : Nat) p)).isSome = true ↔ FinP W a p := by
  constructor
  · intro h
    obtain ⟨v, hv⟩ := Option.isSome_iff_exists.mp h
    obtain ⟨a2, p2, e2, hf⟩ := F.so _ _ hv
    obtain ⟨h1, rfl⟩ := pK_inj e2
    obtain rfl : a = a2 := by omega
    exact hf
  · exact F.co a p
theorem go_iff {W : Web} {kvs : List (List Key × V)} (o : OkW W) (F : RdF W kvs) {a : Nat} {p : Int} {nt : Int × List Ed} (h : W.ns[a]? = some nt) (e : Ed) : e ∈ goL kvs a p nt.2 ↔ e ∈ nt.2 ∧ e.p = p ∧ OpP W a e := by
  unfold goL
  rw [List.mem_filter, List.mem_filter]
  have h2 : e ∈ nt.2 → (g2 kvs e = true ↔ ∀ c, e.c = some c → FinP W c.toNat 0) := fun he => by
    unfold g2
    cases hc : e.c with
    | none => exact ⟨fun _ c h => by (cases h), fun _ => rfl⟩
    | some c =>
      have h0 := (o.ed nt (List.mem_of_getElem? h) e he).c c hc
      have hk : (valV kvs (pK c 0)).isSome = true ↔ FinP W c.toNat 0 := by
        rw [← key_iff F, Int.toNat_of_nonneg h0.1]
      show (valV kvs (pK c 0)).isSome = true ↔ _
      rw [hk]
      exact ⟨fun h c' e' => by obtain rfl := Option.some.inj e'; exact h, fun h => h c rfl⟩
  have h1 : g1 kvs a p e = true ↔ e.p = p ∧ FinP W a e.t := by
    unfold g1
    rw [Bool.and_eq_true, decide_eq_true_iff, key_iff F]
  constructor
  · rintro ⟨⟨he, hg⟩, hg'⟩
    exact ⟨he, (h1.mp hg).1, (h1.mp hg).2, (h2 he).mp hg'⟩
  · rintro ⟨he, hp, ho1, ho2⟩
    exact ⟨⟨he, h1.mpr ⟨hp, ho1⟩⟩, (h2 he).mpr ho2⟩
def pushes (a : Nat) (e : Ed) : List (Nat × Int) := (a, e.t) :: (match e.c with
  | none => []
  | some c => [(c.toNat, 0)])
theorem pushes_len (a : Nat) (e : Ed) : (pushes a e).length ≤ 2 := by
  unfold pushes
  cases e.c <;> simp
def prD (x : Nat × Int) : Dt := .tup [.int (x.1 : Nat), .int x.2]
def fnd (kv : List (List Key × V)) (x : Nat × Int) : Bool := (valV kv (pK (x.1 : Nat) x.2)).isSome
def cntE (W : Web) (kv : List (List Key × V)) : Nat := (exOf W).countP fun y => !fnd kv (y.1, y.2.2.p)
theorem countP_add {α : Type} {p q r : α → Bool} : ∀ {l : List α}, (∀ x ∈ l, (p x).toNat + (q x).toNat ≤ (r x).toNat) → l.countP p + l.countP q ≤ l.countP r
  | [], _ => Nat.le_refl _
  | x :: l, h => by
    have ih := countP_add (l := l) fun y hy => h y (List.mem_cons_of_mem _ hy)
    have h0 := h x List.mem_cons_self
    rw [List.countP_cons, List.countP_cons, List.countP_cons]
    cases hp : p x <;> cases hq : q x <;> cases hr : r x <;> rw [hp, hq, hr] at h0 <;> simp at h0 ⊢ <;> omega
theorem fnd_put {kv : List (List Key × V)} {x y : Nat × Int} {v : V} : fnd (putK kv (pK (x.1 : Nat) x.2) v) y = (fnd kv y || decide (y = x)) := by
  unfold fnd
  rw [valV_put]
  by_cases h : y = x
  · subst h
    rw [if_pos rfl, decide_eq_true rfl, Bool.or_true]
    rfl
  · rw [if_neg (fun e => h (by obtain ⟨h1, h2⟩ := pK_inj e; exact Prod.ext (by omega) h2)), decide_eq_false h, Bool.or_false]
theorem cnt_step {W : Web} {kvs kv : List (List Key × V)} {x : Nat × Int} {v : V} {nt : Int × List Ed} (hx : fnd kv x = false) (hnt : W.ns[x.1]? = some nt) : cntE W (putK kv (pK (x.1 : Nat) x.2) v) + (goL kvs x.1 x.2 nt.2).length ≤ cntE W kv := by
  have h1 : (goL kvs x.1 x.2 nt.2).length ≤ (exOf W).countP fun y => decide ((y.1, y.2.2.p) = x) := by
    have e1 : edsN W x.1 = nt.2 := by
      unfold edsN
      rw [hnt]
      rfl
    have e2 : ((edsN W x.1).zipIdx.map fun y => (x.1, y.2, y.1)).countP (fun y => decide ((y.1, y.2.2.p) = x)) = nt.2.countP fun e => decide (e.p = x.2) := by
      rw [List.countP_map, e1]
      have : ((fun y : Nat × Nat × Ed => decide ((y.1, y.2.2.p) = x)) ∘ fun y : Ed × Nat => (x.1, y.2, y.1)) = (fun e : Ed => decide (e.p = x.2)) ∘ Prod.fst := by
        funext y
        show decide ((x.1, y.1.p) = x) = decide (y.1.p = x.2)
        rw [decide_eq_decide]
        constructor
        · intro h
          rw [← h]
        · intro h
          rw [h]
      rw [this, ← List.countP_map, List.zipIdx_map_fst]
    have e3 : (goL kvs x.1 x.2 nt.2).length ≤ nt.2.countP fun e => decide (e.p = x.2) := by
      unfold goL
      refine Nat.le_trans (List.length_filter_le _ _) ?_
      rw [List.countP_eq_length_filter]
      refine (List.Sublist.length_le ?_)
      have : nt.2.filter (g1 kvs x.1 x.2) = (nt.2.filter fun e => decide (e.p = x.2)).filter (fun e => (valV kvs (pK (x.1 : Nat) e.t)).isSome) := by
        rw [List.filter_filter]
        congr 1
        funext e
        unfold g1
        rw [Bool.and_comm]
      rw [this]
      exact List.filter_sublist
    refine Nat.le_trans e3 ?_
    rw [← e2]
    refine List.Sublist.countP_le ?_
    unfold exOf exUp
    exact List.sublist_flatten_of_mem (List.mem_map.mpr ⟨x.1, List.mem_range.mpr (List.getElem?_eq_some_iff.mp hnt).1, rfl⟩)
  refine Nat.le_trans (Nat.add_le_add_left h1 _) ?_
  refine countP_add fun y _ => ?_
  rw [fnd_put]
  by_cases hy : (y.1, y.2.2.p) = x
  · rw [hy, hx, decide_eq_true rfl]
    decide
  · rw [decide_eq_false hy]
    cases fnd kv (y.1, y.2.2.p) <;> decide
structure UdI (W : Web) (L : List (Nat × Int)) (kv : List (List Key × V)) : Prop where
  sl : ∀ x ∈ L, UsP W x.1 x.2
  sk : ∀ k v, valV kv k = some v → ∃ (a : Nat) (p : Int), k = pK (a : Nat) p ∧ UsP W a p
  bs : FinP W 0 0 → fnd kv (0, 0) = true ∨ (0, 0) ∈ L
  cl : ∀ (a : Nat) (p : Int) (nt : Int × List Ed) (e : Ed), fnd kv (a, p) = true → W.ns[a]? = some nt → e ∈ nt.2 → e.p = p → OpP W a e → ∀ x ∈ pushes a e, fnd kv x = true ∨ x ∈ L
  ln : kv.length + L.length + 2 * cntE W kv ≤ 16001
theorem UdI.pop {W : Web} {L : List (Nat × Int)} {x : Nat × Int} {kv : List (List Key × V)} (h : UdI W (L ++ [x]) kv) (hx : fnd kv x = true) : UdI W L kv := by
  have go : ∀ {y : Nat × Int}, fnd kv y = true ∨ y ∈ L ++ [x] → fnd kv y = true ∨ y ∈ L := fun {y} hy => by
    rcases hy with hy | hy
    · exact .inl hy
    · rcases List.mem_append.mp hy with hy | hy
      · exact .inr hy
      · rw [List.mem_singleton.mp hy]
        exact .inl hx
  refine ⟨fun y hy => h.sl y (List.mem_append_left _ hy), h.sk, fun hf => go (h.bs hf), fun a p nt e h1 h2 h3 h4 h5 y hy => go (h.cl a p nt e h1 h2 h3 h4 h5 y hy), ?_⟩
  have := h.ln
  rw [List.length_append] at this
  have this : kv.length + (L.length + 1) + 2 * cntE W kv ≤ 16001 := this
  omega
theorem flat_len {a : Nat} : ∀ l : List Ed, (l.flatMap (pushes a)).length ≤ 2 * l.length
  | [] => Nat.le_refl _
  | e :: l => by
    have := flat_len (a := a) l
    have := pushes_len a e
    rw [List.flatMap_cons, List.length_append, List.length_cons]
    omega
theorem UdI.new {W : Web} {L : List (Nat × Int)} {x : Nat × Int} {kvs kv : List (List Key × V)} {v : V} {nt : Int × List Ed} (o : OkW W) (F : RdF W kvs) (h : UdI W (L ++ [x]) kv) (hx : fnd kv x = false) (hnt : W.ns[x.1]? = some nt) : UdI W (L ++ (goL kvs x.1 x.2 nt.2).flatMap (pushes x.1)) (putK kv (pK (x.1 : Nat) x.2) v) := by
  have hux := h.sl x (List.mem_append_right _ (List.mem_singleton.mpr rfl))
  have go : ∀ {y : Nat × Int}, fnd kv y = true ∨ y ∈ L ++ [x] → fnd (putK kv (pK (x.1 : Nat) x.2) v) y = true ∨ y ∈ L ++ (goL kvs x.1 x.2 nt.2).flatMap (pushes x.1) := fun {y} hy => by
    rw [fnd_put]
    rcases hy with hy | hy
    · exact .inl (by rw [hy] <;> rfl)
    · rcases List.mem_append.mp hy with hy | hy
      · exact .inr (List.mem_append_left _ hy)
      · exact .inl (by rw [decide_eq_true (List.mem_singleton.mp hy), Bool.or_true])
  refine ⟨fun y hy => ?_, fun k u e => ?_, fun hf => go (h.bs hf), fun a p nt' e h1 h2 h3 h4 h5 y hy => ?_, ?_⟩
  · rcases List.mem_append.mp hy with hy | hy
    · exact h.sl y (List.mem_append_left _ hy)
    · obtain ⟨e, he, hy⟩ := List.mem_flatMap.mp hy
      obtain ⟨h1, h2, h3⟩ := (go_iff o F hnt e).mp he
      rw [← h2] at hux
      rcases List.mem_cons.mp (show y ∈ (x.1, e.t) :: (match e.c with | none => [] | some c => [(c.toNat, 0)]) from hy) with rfl | hy
      · exact .goal hnt h1 hux h3
      · cases hc : e.c with
        | none => rw [hc] at hy; cases hy
        | some c =>
          rw [hc] at hy
          rw [List.mem_singleton.mp hy]
          exact .call hnt h1 hux h3 hc
  · rw [valV_put] at e
    by_cases ek : k = pK (x.1 : Nat) x.2
    · exact ⟨x.1, x.2, ek, hux⟩
    · rw [if_neg ek] at e
      exact h.sk k u e
  · rw [fnd_put] at h1
    cases hk : fnd kv (a, p) with
    | true => exact go (h.cl a p nt' e hk h2 h3 h4 h5 y hy)
    | false =>
      rw [hk, Bool.false_or] at h1
      have hax := of_decide_eq_true h1
      subst hax
      obtain rfl := Option.some.inj (hnt.symm.trans h2)
      exact .inr (List.mem_append_right _ (List.mem_flatMap.mpr ⟨e, (go_iff o F hnt e).mpr ⟨h3, h4, h5⟩, hy⟩))
  · have h1 := h.ln
    rw [List.length_append] at h1 ⊢
    have h1 : kv.length + (L.length + 1) + 2 * cntE W kv ≤ 16001 := h1
    have h2 := putK_le kv (pK (x.1 : Nat) x.2) v
    have h3 := cnt_step (kvs := kvs) (v := v) hx hnt
    have h4 := flat_len (a := x.1) (goL kvs x.1 x.2 nt.2)
    omega
theorem UdI.all {W : Web} {kv : List (List Key × V)} (h : UdI W [] kv) {a : Nat} {p : Int} (hu : UsP W a p) : fnd kv (a, p) = true := by
  have go : ∀ {y : Nat × Int}, fnd kv y = true ∨ y ∈ ([] : List (Nat × Int)) → fnd kv y = true := fun {y} hy => by
    rcases hy with hy | hy
    · exact hy
    · cases hy
  induction hu with
  | base hf => exact go (h.bs hf)
  | @goal a nt e h1 h2 h3 h4 ih => exact go (h.cl a e.p nt e ih h1 h2 rfl h4 (a, e.t) List.mem_cons_self)
  | @call a nt e c h1 h2 h3 h4 hc ih =>
    refine go (h.cl a e.p nt e ih h1 h2 rfl h4 (c.toNat, 0) (List.mem_cons_of_mem _ ?_))
    rw [hc]
    exact List.mem_singleton.mpr rfl
theorem dvs_snoc_inv {g : Addr} {H : Hp} {y : V} {d : Dt} : ∀ {xs : List V} {ds : List Dt}, DVs g H (xs ++ [y]) (ds ++ [d]) → DVs g H xs ds ∧ DV g H y d
  | [], [], h => by
    cases h with
    | cons h r => exact ⟨.nil, h⟩
  | [], d' :: ds, h => by
    have := h.len
    simp at this
  | x :: xs, [], h => by
    have := h.len
    simp at this
  | x :: xs, d' :: ds, h => by
    cases h with
    | cons h r =>
      obtain ⟨h1, h2⟩ := dvs_snoc_inv r
      exact ⟨.cons h h1, h2⟩
theorem flat_take {α β : Type} (f : α → List β) {l : List α} {i : Nat} {x : α} (h : l[i]? = some x) : (l.take (i + 1)).flatMap f = (l.take i).flatMap f ++ f x := by
  rw [List.take_succ, h, List.flatMap_append]
  show _ ++ [x].flatMap f = _
  rw [List.flatMap_cons, List.flatMap_nil, List.append_nil]
theorem snoc_of {α : Type} {l : List α} (h : l ≠ []) : ∃ l' x, l = l' ++ [x] := ⟨l.dropLast, l.getLast h, (List.dropLast_concat_getLast h).symm⟩
theorem cntE_le {W : Web} (o : OkW W) (kv : List (List Key × V)) : cntE W kv ≤ 8000 := by
  have h1 : cntE W kv ≤ (exOf W).length := List.countP_le_length
  have h2 := ges_len o
  have h3 := ex_len (W := W)
  omega
theorem prD_at {g : Addr} {H : Hp} {v : V} {x : Nat × Int} (h : DV g H v (prD x)) : ∃ t, v = .ref t ∧ H t = some (.tup [.int (x.1 : Nat), .int x.2]) := by
  obtain ⟨t, va, vb, rfl, e, h1, h2⟩ := h.tup2
  obtain rfl := h1.int_inv
  obtain rfl := h2.int_inv
  exact ⟨t, rfl, e⟩
theorem prD_of {g : Addr} {H : Hp} {t : Addr} {x : Nat × Int} (e : H t = some (.tup [.int (x.1 : Nat), .int x.2])) : DV g H (.ref t) (prD x) := .tup e (by show 2 ≤ 20000; decide) (.cons (.int _) (.cons (.int _) .nil))
theorem prs_pur (l : List (Nat × Int)) : purs (l.map prD) = true := purs_map fun _ _ => rfl
def spUd : Sp := fun vs H Q _ => ∃ (g f : Addr) (vw : V) (W : Web) (kvs : List (List Key × V)), vs = [vw, .ref f] ∧ DV g H vw (wbD W) ∧ OkW W ∧ H f = some (.dT kvs) ∧ RdF W kvs ∧
  ∀ (D : Addr) (H' : Hp) (kv : List (List Key × V)), Same H H' → H D = none → H' D = some (.dT kv) → (∀ a p, fnd kv (a, p) = true ↔ UsP W a p) → Q (.ref D) H'
section
variable {P : Program} {w : World} {K : PySem.W.Frag} {mg : Str → Option Value} {base : Heap}
theorem scUd : FnScope ["web", "roads", "found", "line", "pair", "edge"] ["web", "roads"] (defScope sUd) := ⟨rfl, rfl, rfl, by decide +kernel, rfl, by decide +kernel, by decide +kernel⟩
theorem ok_ud {f : Addr} {fd : FuncData} (F : Fun K "_law_wb_used" "_law_wb_used" sUd f fd) (T : Bn mg) (cGo : Cl P w K mg base "_law_wb_going" ["web", "roads", "pair"] 1 spGo) : FnOk P w K mg base CX0 2 f fd ["web", "roads"] spUd := by
  obtain ⟨fGo, fdGo, GGo, mGo, kGo, bGo⟩ := cGo
  refine F.ok scUd (fun vs H Q E h => ?_) (fun cdv A outer s H vs Q E hr h => ?_)
  · obtain ⟨g, a, b, c, d, rfl, _⟩ := h
    rfl
  · obtain ⟨g, fr, vw, W, kvs, rfl, hw, okw, ef, hrd, k⟩ := h
    have hu := hu_of hr
    refine ⟨_, (pss_mid (ps_par (i := 2) (j := 3) (by rfl) scUd.nd rfl rfl (by decide) rfl rfl (pa_cons pe_dnewT (pa_cons (pe_ifExp (pt_cmp (pc_din hu (pe_tup (pa_cons pe_int (pa_cons pe_int pa_nil))) (pv 1))) (pe_lst (pa_cons (pe_tup (pa_cons pe_int (pa_cons pe_int pa_nil))) pa_nil)) (pe_lst pa_nil)) pa_nil)) (by rfl))
      (pss_cons (ps_while PassesOwn.never (pt_cmpR (op_neNil hr.units) (pv 3) (pe_lst pa_nil) (nomark _))
          (pss_cons (ps_set (i := 4) scUd.nd rfl (Or.inl rfl) (qPop (pv 3)))
          (pss_one (ps_if (pt_cmp (pc_dnotin hu (pv 4) (pv 2))) (pss_cons (ps_dput hu (pv 2) (pv 4) pe_bl rfl)
              (pss_one (ps_for PassesOwn.never rfl (pi_list (pe_call GGo hr (by rfl) mGo kGo bGo .nil pass0 (pa_cons (pv 0) (pa_cons (pv 1) (pa_cons (pv 4) pa_nil))))) (pg_name (i := 5) scUd.nd rfl (Or.inl rfl))
                  (pss_cons (ps_expr (qApp (pv 3) (pe_tup (pa_cons (pe_ix ix_tup (pv 4) pe_int (fun _ _ => rfl)) (pa_cons (pe_ix ix_tup (pv 5) pe_int (fun _ _ => rfl)) pa_nil)))))
                  (pss_one (ps_if (pt_cmpR op_notN (pe_ix ix_tup (pv 5) pe_int (fun _ _ => rfl)) pe_non (nomark _)) (pss_one (ps_expr (qApp (pv 3) (pe_tup (pa_cons (pe_ix ix_tup (pv 5) pe_int (fun _ _ => rfl)) (pa_cons pe_int pa_nil)))))) pss_nil)))))) pss_nil))))
      (pss_one (ps_ret (pv 2))))), ?_⟩
    refine ⟨fun σ H' => ∃ (fD ln : Addr) (xs : List V) (L : List (Nat × Int)), σ = [some vw, some (.ref fr), some (.ref fD), some (.ref ln), none, none] ∧ Same H H' ∧ H' fD = some (.dT []) ∧ H' ln = some (.lst xs) ∧ (∀ g', DVs g' H' xs (L.map prD)) ∧ H fD = none ∧ H ln = none ∧ ln ≠ fD ∧ UdI W L [], ?_, ?_⟩
    · have base : ∀ L : List (Nat × Int), (∀ x ∈ L, UsP W x.1 x.2) → (FinP W 0 0 → (0, 0) ∈ L) → L.length ≤ 1 → UdI W L [] := fun L h1 h2 h3 => by
        refine ⟨h1, (fun k v e => by cases e), fun h => .inr (h2 h), (fun a p nt e h => by cases h), ?_⟩
        have := cntE_le okw []
        show 0 + L.length + _ ≤ _
        omega
      refine fun fD hfD => ?_
      generalize hH1 : upd H fD _ = H1
      obtain ⟨sfD, efD⟩ := freshF hfD hH1
      refine ⟨(by show 2 ≤ sizeLine; decide), fun t ht => ?_⟩
      generalize hH2 : upd H1 t _ = H2
      obtain ⟨st, et⟩ := freshF ht hH2
      have s02 := sfD.trans st
      refine ⟨_, rfl, fr, _, rfl, DGet.t (k := pK 0 0) (s02 _ _ ef) et, _, rfl, ?_⟩
      have hk := key_iff hrd (a := 0) (p := 0)
      cases hb : (valV kvs (pK 0 0)).isSome with
      | true =>
        have hf := hk.mp hb
        refine ifT rfl ⟨(by show 2 ≤ sizeLine; decide), fun t2 ht2 => ?_⟩
        generalize hH3 : upd H2 t2 _ = H3
        obtain ⟨st2, et2⟩ := freshF ht2 hH3
        refine ⟨(by show 1 ≤ sizeLine; decide), fun ln hln => ?_⟩
        generalize hH4 : upd H3 ln _ = H4
        obtain ⟨sln, eln⟩ := freshF hln hH4
        have s24 := st2.trans sln
        refine ⟨_, _, rfl, fD, ln, _, [(0, 0)], rfl, s02.trans s24, s24 _ _ (st _ _ efD), eln, fun g' => .cons (prD_of (sln _ _ et2)) .nil, hfD, no_of (s02.trans st2) hln, (ne_of_none ((st.trans st2) _ _ efD) hln).symm, base _ (fun x hx => ?_) (fun _ => List.mem_cons_self) (Nat.le_refl _)⟩
        rw [List.mem_singleton.mp hx]
        exact .base hf
      | false =>
        refine ifF rfl ⟨Nat.zero_le _, fun ln hln => ?_⟩
        generalize hH4 : upd H2 ln _ = H4
        obtain ⟨sln, eln⟩ := freshF hln hH4
        refine ⟨_, _, rfl, fD, ln, _, [], rfl, s02.trans sln, sln _ _ (st _ _ efD), eln, fun g' => .nil, hfD, no_of s02 hln, (ne_of_none (st _ _ efD) hln).symm, base _ (fun x hx => by cases hx) (fun h => ?_) (Nat.zero_le _)⟩
        have : (valV kvs (pK 0 0)).isSome = true := hk.mpr h
        rw [this] at hb
        cases hb
    rintro σ H1 ⟨fD, ln, xs0, L0, rfl, s1, efD, eln, dv0, hfD, hln, hlf, I0⟩
    refine while_m (fun m σ H' => ∃ (xs : List V) (L : List (Nat × Int)) (kv : List (List Key × V)) (v4 v5 : Option V), σ = [some vw, some (.ref fr), some (.ref fD), some (.ref ln), v4, v5] ∧ m = L.length + 2 * cntE W kv ∧ Same H H' ∧ H' fD = some (.dT kv) ∧ H' ln = some (.lst xs) ∧ (∀ g', DVs g' H' xs (L.map prD)) ∧ UdI W L kv) (L0.length + 2 * cntE W [])
      ⟨xs0, L0, [], _, _, rfl, rfl, s1, efD, eln, dv0, I0⟩ ?_
    clear I0 dv0 eln efD s1 L0 xs0 H1
    rintro m σ H1 ⟨xs, L, kv, v4, v5, rfl, hm, s1, efD, eln, dv, I⟩
    refine ⟨_, rfl, Nat.zero_le _, fun N hN => ?_⟩
    generalize hH2 : upd H1 N _ = H2
    obtain ⟨sN, eN⟩ := freshF hN hH2
    refine ⟨ln, N, xs, rfl, rfl, SqL.of (sN _ _ eln), SqL.of eN, _, rfl, ?_⟩
    have hlen : xs.length = L.length := by
      have := (dv g).len
      rw [List.length_map] at this
      exact this
    by_cases hL : L = []
    · subst hL
      have hxs : xs = [] := List.length_eq_zero_iff.mp hlen
      subst hxs
      refine ifF rfl ⟨_, rfl, k fD H2 kv (s1.trans sN) hfD (sN _ _ efD) fun a p => ⟨fun h => ?_, fun h => I.all h⟩⟩
      obtain ⟨v, hv⟩ := Option.isSome_iff_exists.mp (show (valV kv (pK (a : Nat) p)).isSome = true from h)
      obtain ⟨a2, p2, e2, hf⟩ := I.sk _ _ hv
      obtain ⟨h1, rfl⟩ := pK_inj e2
      obtain rfl : a = a2 := by omega
      exact hf
    obtain ⟨L, x, rfl⟩ := snoc_of hL
    obtain ⟨xs, y, rfl⟩ := snoc_of (show xs ≠ [] from fun h => by rw [h, List.length_append] at hlen; exact absurd hlen (by show ¬ 0 = _ + 1; omega))
    have hne : (!(xs ++ [y]).isEmpty) = true := by cases xs <;> rfl
    refine ifT hne ?_
    refine ⟨fun σ' H' => ∃ m', m' < m ∧ ∃ (xs : List V) (L : List (Nat × Int)) (kv : List (List Key × V)) (v4 v5 : Option V), σ' = [some vw, some (.ref fr), some (.ref fD), some (.ref ln), v4, v5] ∧ m' = L.length + 2 * cntE W kv ∧ Same H H' ∧ H' fD = some (.dT kv) ∧ H' ln = some (.lst xs) ∧ (∀ g', DVs g' H' xs (L.map prD)) ∧ UdI W L kv, fun σ' H' z => z, ?_⟩
    have s2 := s1.trans sN
    have dv2 : ∀ g', DVs g' H2 (xs ++ [y]) ((L ++ [x]).map prD) := fun g' => (dv g').keep (Kv.of sN)
    have eln2 := sN _ _ eln
    have efD2 := sN _ _ efD
    rw [List.map_append] at dv2
    have dvx := fun g' => (dvs_snoc_inv (dv2 g')).1
    obtain ⟨t, rfl, et⟩ := prD_at (dvs_snoc_inv (dv2 g)).2
    clear dv2 dv eln efD s1 sN eN hN hH2 H1
    refine ⟨_, rfl, .inl ⟨rfl, _, SqL.of eln2⟩, ln, xs ++ [.ref t], .ref t, rfl, rfl, eln2, by rw [List.length_append]; show (xs ++ [V.ref t])[xs.length + 1 - 1]? = _; rw [Nat.add_sub_cancel, List.getElem?_append_right (Nat.le_refl _), Nat.sub_self]; rfl, ?_⟩
    rw [List.dropLast_concat]
    have kt3 : Kt H2 (upd H2 ln (.lst xs)) := Kt.put eln2
    have s3 : Same H (upd H2 ln (.lst xs)) := fun b o eb => by
      rw [upd_ne (ne_of_none eb hln)]
      exact s2 _ _ eb
    have efD3 : (upd H2 ln (.lst xs)) fD = some (.dT kv) := by rw [upd_ne hlf.symm]; exact efD2
    have eln3 : (upd H2 ln (.lst xs)) ln = some (.lst xs) := upd_same
    have et3 := kt3 _ _ et
    have dv3 := fun g' => (dvx g').keepP (g' := g') kt3 (prs_pur L)
    generalize upd H2 ln (.lst xs) = H3 at s3 efD3 eln3 et3 dv3 ⊢
    clear kt3 dvx et s2 eln2 efD2 H2
    have hux := I.sl x (List.mem_append_right _ (List.mem_singleton.mpr rfl))
    have hIl := I.ln
    rw [List.length_append] at hIl hm
    replace hIl : kv.length + (L.length + 1) + 2 * cntE W kv ≤ 16001 := hIl
    replace hm : m = L.length + 1 + 2 * cntE W kv := hm
    refine ⟨_, rfl, _, rfl, fD, _, rfl, DGet.t (k := pK (x.1 : Nat) x.2) efD3 et3, _, rfl, ?_⟩
    cases hx : fnd kv x with
    | true =>
      have hx' : (valV kv (pK (x.1 : Nat) x.2)).isSome = true := hx
      rw [hx']
      exact ifF rfl ⟨L.length + 2 * cntE W kv, by omega, xs, L, kv, _, _, rfl, rfl, s3, efD3, eln3, dv3, I.pop hx⟩
    | false =>
    have hx' : (valV kv (pK (x.1 : Nat) x.2)).isSome = false := hx
    rw [hx']
    refine ifT rfl ⟨_, rfl, _, rfl, fD, _, rfl, DPut.t (k := pK (x.1 : Nat) x.2) efD3 et3 (by rw [sizeLine_eq]; omega), ?_⟩
    obtain ⟨nt, hnt, _, _⟩ := hux.pl okw
    have I2 := I.new (v := .bl true) okw hrd hx hnt
    have hcs := cnt_step (kvs := kvs) (v := .bl true) hx hnt
    have hcl := cntE_le okw kv
    have hfl := flat_len (a := x.1) (goL kvs x.1 x.2 nt.2)
    have s4 : Same H (upd H3 fD (.dT (putK kv (pK (x.1 : Nat) x.2) (.bl true)))) := fun b o eb => by
      rw [upd_ne (ne_of_none eb hfD)]
      exact s3 _ _ eb
    have efD4 : (upd H3 fD (.dT (putK kv (pK (x.1 : Nat) x.2) (.bl true)))) fD = some (.dT (putK kv (pK (x.1 : Nat) x.2) (.bl true))) := upd_same
    have eln4 : (upd H3 fD (.dT (putK kv (pK (x.1 : Nat) x.2) (.bl true)))) ln = some (.lst xs) := by rw [upd_ne hlf]; exact eln3
    have kt4 : Kt H3 (upd H3 fD (.dT (putK kv (pK (x.1 : Nat) x.2) (.bl true)))) := fun b l e => by
      rw [upd_ne (by rintro rfl; rw [efD3] at e; cases e)]
      exact e
    have et4 := kt4 _ _ et3
    have dv4 := fun g' => (dv3 g').keepP (g' := g') kt4 (prs_pur L)
    generalize putK kv (pK (x.1 : Nat) x.2) (.bl true) = kv2 at I2 hcs s4 efD4 eln4 et4 dv4 ⊢
    change (fun H4 => _) (upd H3 fD (.dT kv2))
    generalize upd H3 fD (.dT kv2) = H4 at s4 efD4 eln4 et4 dv4 ⊢
    clear kt4 dv3 et3 eln3 efD3 s3 H3
    refine ⟨_, rfl, _, rfl, _, rfl, g, fr, t, vw, W, kvs, x.1, x.2, nt, rfl, hw.keep (Kv.of s4), okw, s4 _ _ ef, et4, hnt, fun D H5 ys s5 hD eD dvD => ⟨D, rfl, ⟨_, SqL.of eD⟩, ?_⟩⟩
    have hDl : ln ≠ D := ne_of_none eln4 hD
    have hyl : ys.length = (goL kvs x.1 x.2 nt.2).length := by
      have := (dvD g).len
      rw [List.length_map] at this
      exact this
    have hes : ∀ e ∈ goL kvs x.1 x.2 nt.2, e ∈ nt.2 := fun e he => ((go_iff okw hrd hnt e).mp he).1
    have et5 := s5 _ _ et4
    generalize goL kvs x.1 x.2 nt.2 = es at I2 hcs hfl dvD hyl hes
    refine for_it (walk_list (K := K) (a := D) (xs := ys)) (fun j σ H' => ∃ (zs : List V) (v5 : Option V), σ = [some vw, some (.ref fr), some (.ref fD), some (.ref ln), some (.ref t), v5] ∧ Same H H' ∧ H' fD = some (.dT kv2) ∧ H' ln = some (.lst zs) ∧ (∀ g', DVs g' H' zs ((L ++ (es.take j).flatMap (pushes x.1)).map prD)) ∧ H' D = some (.lst ys) ∧ Kt H5 H') 
      ⟨xs, _, rfl, s4.trans s5, s5 _ _ efD4, s5 _ _ eln4, (fun g' => by rw [List.take_zero, List.flatMap_nil, List.append_nil]; exact (dv4 g').keep (Kv.of s5)), eD, fun _ _ e => e⟩ (fun j σ H' _ ⟨_, _, _, _, _, _, _, h, _⟩ => SqL.of h) ?_ ?_
    rotate_left
    · rintro σ H6 ⟨zs, v5, rfl, s6, efD6, eln6, dv6, eD6, _⟩
      rw [hyl, List.take_length] at dv6
      refine ⟨(L ++ es.flatMap (pushes x.1)).length + 2 * cntE W kv2, ?_, zs, L ++ es.flatMap (pushes x.1), kv2, _, _, rfl, rfl, s6, efD6, eln6, dv6, I2⟩
      rw [List.length_append]
      omega
    clear s5 eln4 efD4 dv4
    rintro j y σ H6z H6 hj ⟨zs, v5, rfl, s6, efD6, eln6, dv6, eD6, kt6⟩ ⟨rfl, hy⟩
    obtain ⟨de, hde, hyd⟩ := (dvD g).at_ hy
    rw [List.getElem?_map] at hde
    obtain ⟨e, he, rfl⟩ := Option.map_eq_some_iff.mp hde
    obtain ⟨be, ae, rfl, ebe, xl, eae, rl⟩ := ed_at (hyd.keepP (g' := g) kt6 (ed_pur e))
    have hzl : zs.length ≤ 40000 := by
      have h1 := (dv6 g).len
      rw [List.length_map, List.length_append] at h1
      have h2 := flat_len (a := x.1) (es.take j)
      rw [List.length_take] at h2
      omega
    have et6 := kt6 _ _ et5
    have hoe := okw.ed nt (List.mem_of_getElem? hnt) e (hes e (List.mem_of_getElem? he))
    refine ⟨_, rfl, .inl ⟨rfl, _, SqL.of eln6⟩, _, rfl, t, _, 0, _, rfl, rfl, SqT.of et6, atI_nat (j := 0) rfl, _, rfl, be, _, 1, _, rfl, rfl, SqT.of ebe, atI_nat (j := 1) rfl, (by show 2 ≤ sizeLine; decide), fun q hq => ?_⟩
    generalize hH7 : upd H6 q _ = H7
    obtain ⟨sq, eq⟩ := freshF hq hH7
    have eln7 := sq _ _ eln6
    refine ⟨ln, zs, _, rfl, rfl, eln7, by rw [sizeLine_eq]; omega, ?_⟩
    have kt78 : Kt H7 (upd H7 ln (.lst (zs ++ [.ref q]))) := Kt.put eln7
    have s8 : Same H (upd H7 ln (.lst (zs ++ [.ref q]))) := fun b o eb => by
      rw [upd_ne (ne_of_none eb hln)]
      exact sq _ _ (s6 _ _ eb)
    have efD8 : (upd H7 ln (.lst (zs ++ [.ref q]))) fD = some (.dT kv2) := by rw [upd_ne hlf.symm]; exact sq _ _ efD6
    have eD8 : (upd H7 ln (.lst (zs ++ [.ref q]))) D = some (.lst ys) := by rw [upd_ne hDl.symm]; exact sq _ _ eD6
    have eln8 : (upd H7 ln (.lst (zs ++ [.ref q]))) ln = some (.lst (zs ++ [.ref q])) := upd_same
    have kt8 : Kt H6 (upd H7 ln (.lst (zs ++ [.ref q]))) := fun b l e => kt78 _ _ (sq _ _ e)
    have dv8 : ∀ g', DVs g' (upd H7 ln (.lst (zs ++ [.ref q]))) (zs ++ [.ref q]) (((L ++ (es.take j).flatMap (pushes x.1)) ++ [(x.1, e.t)]).map prD) := fun g' => by
      rw [List.map_append]
      exact ((dv6 g').keepP (g' := g') kt8 (prs_pur _)).app (.cons (prD_of (x := (x.1, e.t)) (kt78 _ _ eq)) .nil)
    change (fun H8 => _) (upd H7 ln (.lst (zs ++ [.ref q])))
    generalize upd H7 ln (.lst (zs ++ [.ref q])) = H8 at kt78 s8 efD8 eD8 eln8 kt8 dv8 ⊢
    have ebe8 := kt8 _ _ ebe
    refine ⟨_, rfl, be, _, 2, _, rfl, rfl, SqT.of ebe8, atI_nat (j := 2) rfl, rfl, _, rfl, ?_⟩
    have kt08 : Kt H5 H8 := fun b l e => kt8 _ _ (kt6 _ _ e)
    cases hc : e.c with
    | none =>
      refine ifF rfl ⟨_, _, rfl, s8, efD8, eln8, fun g' => ?_, eD8, kt08⟩
      rw [flat_take _ he, ← List.append_assoc]
      have : pushes x.1 e = [(x.1, e.t)] := by
        unfold pushes
        rw [hc]
      rw [this]
      exact dv8 g'
    | some c =>
      rw [hc] at ebe8
      have h0 := hoe.c c hc
      obtain ⟨cn, rfl⟩ := Int.eq_ofNat_of_zero_le h0.1
      refine ifT rfl ⟨_, rfl, .inl ⟨rfl, _, SqL.of eln8⟩, _, rfl, be, _, 2, _, rfl, rfl, SqT.of ebe8, atI_nat (j := 2) rfl, (by show 2 ≤ sizeLine; decide), fun r hr => ?_⟩
      generalize hH9 : upd H8 r _ = H9
      obtain ⟨sr, er⟩ := freshF hr hH9
      have eln9 := sr _ _ eln8
      refine ⟨ln, _, _, rfl, rfl, eln9, by rw [List.length_append, sizeLine_eq]; show zs.length + 1 < _; omega, ?_⟩
      have kt9 : Kt H9 (upd H9 ln (.lst ((zs ++ [.ref q]) ++ [.ref r]))) := Kt.put eln9
      refine ⟨(zs ++ [.ref q]) ++ [.ref r], _, rfl, fun b o eb => ?_, ?_, upd_same, fun g' => ?_, ?_, fun b l e => kt9 _ _ (sr _ _ (kt08 _ _ e))⟩
      · rw [upd_ne (ne_of_none eb hln)]
        exact sr _ _ (s8 _ _ eb)
      · rw [upd_ne hlf.symm]
        exact sr _ _ efD8
      · rw [flat_take _ he]
        have : pushes x.1 e = [(x.1, e.t)] ++ [(cn, 0)] := by
          unfold pushes
          rw [hc]
          rfl
        rw [this, ← List.append_assoc, ← List.append_assoc, List.map_append]
        exact ((dv8 g').keepP (g' := g') (fun b l e => kt9 _ _ (sr _ _ e)) (prs_pur _)).app (.cons (prD_of (x := (cn, 0)) (kt9 _ _ er)) .nil)
      · rw [upd_ne hDl.symm]
        exact sr _ _ eD8
end
end K65

set_option Elab.async false
set_option linter.all false
set_option pp.maxSteps 900
set_option maxRecDepth 100000
set_option maxHeartbeats 4000000
namespace K65
open PySem PySem.Spec PyProof.Rows L2
open TL (tl)
abbrev sSg : Stmt := top 41
abbrev sBn : Stmt := top 42
theorem catA_of {K : PySem.W.Frag} {a b : Addr} {xs ys : List V} {H : Hp} {Q : VK} (ha : H a = some (.tup xs)) (hb : H b = some (.tup ys)) (hs : xs.length + ys.length ≤ sizeLine) (k : ∀ r H', Same H H' → H' r = some (.tup (xs ++ ys)) → Q (.ref r) H') : rCatA K (.ref a) (.ref b) H Q := by
  refine ⟨a, b, xs, ys, rfl, rfl, SqT.of ha, SqT.of hb, hs, fun h => k b H (Same.refl H) ?_, fun _ h => k a H (Same.refl H) ?_, fun _ _ p hp => k p _ (same_new hp) upd_same⟩
  · rw [h]
    exact hb
  · rw [h, List.append_nil]
    exact ha
theorem slA_of {K : PySem.W.Frag} {a : Addr} {xs : List V} {lo hi : Option Int} {H : Hp} {Q : VK} (ha : H a = some (.tup xs)) (k : ∀ r H', Same H H' → H' r = some (.tup (cutV xs lo hi)) → Q (.ref r) H') : rSlA K (.ref a) lo hi H Q := by
  refine ⟨a, xs, rfl, SqT.of ha, fun h => k a H (Same.refl H) ?_, fun _ p hp => k p _ (same_new hp) upd_same⟩
  unfold cutV
  rw [h.1, h.2, Nat.sub_zero, List.drop_zero, List.take_length]
  exact ha
theorem DVs.drop {g : Addr} {H : Hp} : ∀ {xs : List V} {ds : List Dt} (n : Nat), DVs g H xs ds → DVs g H (xs.drop n) (ds.drop n)
  | _, _, 0, h => h
  | _, _, _ + 1, .nil => .nil
  | _, _, n + 1, .cons _ r => DVs.drop n r
theorem DVs.take {g : Addr} {H : Hp} : ∀ {xs : List V} {ds : List Dt} (n : Nat), DVs g H xs ds → DVs g H (xs.take n) (ds.take n)
  | _, _, 0, h => .nil
  | _, _, _ + 1, .nil => .nil
  | _, _, n + 1, .cons h r => .cons h (DVs.take n r)
theorem DVs.cut {g : Addr} {H : Hp} {xs : List V} {ds : List Dt} (h : DVs g H xs ds) (lo hi : Option Int) : DVs g H (cutV xs lo hi) ((ds.drop (HT.sIx xs.length 0 lo)).take (HT.sIx xs.length xs.length hi - HT.sIx xs.length 0 lo)) := (h.drop _).take _
def AllDV (g : Addr) (H : Hp) (xs : List V) : Prop := ∀ x ∈ xs, ∃ d, DV g H x d
theorem AllDV.nil {g : Addr} {H : Hp} : AllDV g H [] := fun x hx => by cases hx
theorem AllDV.cons {g : Addr} {H : Hp} {x : V} {xs : List V} {d : Dt} (h : DV g H x d) (r : AllDV g H xs) : AllDV g H (x :: xs) := fun y hy => by
  rcases List.mem_cons.mp hy with rfl | hy
  · exact ⟨d, h⟩
  · exact r y hy
theorem AllDV.app {g : Addr} {H : Hp} {xs ys : List V} (h : AllDV g H xs) (r : AllDV g H ys) : AllDV g H (xs ++ ys) := fun y hy => by
  rcases List.mem_append.mp hy with hy | hy
  · exact h y hy
  · exact r y hy
theorem AllDV.keep {g : Addr} {H H' : Hp} {xs : List V} (h : AllDV g H xs) (k : Kv g H H') : AllDV g H' xs := fun y hy => by
  obtain ⟨d, e⟩ := h y hy
  exact ⟨d, e.keep k⟩
def spSg : Sp := fun vs H Q _ => ∃ (d g c : Addr) (n : Nat) (v : V) (dt : Dt), vs = [.ref d, v] ∧ StA H d g c n ∧ n ≤ 900000000 ∧ DV g H v dt ∧ (∀ l, dt = .tup l → l.length ≤ 1000) ∧
  ∀ (u : V) (du : Dt) (H' : Hp), StA H' d g c (n + 1) → Kp d g H H' → DV g H' u du → Q u H'
section
variable {P : Program} {w : World} {K : PySem.W.Frag} {mg : Str → Option Value} {base : Heap}
theorem scSg : FnScope ["state", "item", "some"] ["state", "item"] (defScope sSg) := ⟨rfl, rfl, rfl, by decide +kernel, rfl, by decide +kernel, by decide +kernel⟩
theorem ok_sg {f : Addr} {fd : FuncData} (F : Fun K "_law_strange" "_law_strange" sSg f fd) (T : Bn mg) (cBe : Cl P w K mg base "_law_between" ["value", "low", "high"] 1 spWin) (cP : Cl P w K mg base "_law_pick" ["state", "some"] 3 spPck) : FnOk P w K mg base CX0 4 f fd ["state", "item"] spSg := by
  obtain ⟨fBe, fdBe, GBe, mBe, kBe, bBe⟩ := cBe
  obtain ⟨fP, fdP, GP, mP, kP, bP⟩ := cP
  refine F.ok scSg (fun vs H Q E h => ?_) (fun cdv A outer s H vs Q E hr h => ?_)
  · obtain ⟨a1, a2, a3, a4, a5, a6, rfl, _⟩ := h
    rfl
  · obtain ⟨d, g, c, n, v, dt, rfl, S, hn, hv, hl, k⟩ := h
    have hr1 : Room 1 _ := hr.mono (by decide)
    refine ⟨_, (pss_cons (ps_set (i := 2) scSg.nd rfl (Or.inl rfl) (pe_lst (pa_cons (pe_un un_neg pe_int) (pa_cons pe_bl (pa_cons pe_bl (pa_cons pe_non (pa_cons pe_str (pa_cons (pe_op op_add (pe_op op_pow pe_int pe_int) pe_int) (pa_cons (pe_op op_sub (pe_op op_sub pe_int (pe_op op_pow pe_int pe_int)) pe_int) (pa_cons (pe_op op_pow pe_int pe_int) (pa_cons pe_int (pa_cons pe_int (pa_cons (pe_tup pa_nil) (pa_cons (pe_lst pa_nil) (pa_cons (pe_tup (pa_cons pe_int pa_nil)) (pa_cons (pe_op op_repT (pe_tup (pa_cons pe_int pa_nil)) pe_int) (pa_cons pe_int (pa_cons pe_int (pa_cons pe_int pa_nil)))))))))))))))))))
      (pss_mid (ps_if (pt_val (pe_call GBe hr1 (by rfl) mBe kBe bBe .nil pass0 (pa_cons (pv 1) (pa_cons (pe_op op_sub pe_int (pe_op op_pow pe_int pe_int)) (pa_cons (pe_op op_pow pe_int pe_int) pa_nil))))) (pss_one (ps_set (i := 2) scSg.nd rfl (Or.inl rfl) (pe_op op_cat (pv 2) (pe_lst (pa_cons (pe_op op_add (pv 1) pe_int) (pa_cons (pe_op op_sub (pv 1) pe_int) (pa_cons (pe_op op_add (pv 1) pe_int) (pa_cons (pe_op op_sub (pv 1) pe_int) (pa_cons (pe_un un_neg (pv 1)) pa_nil))))))))) (pss_one (ps_if (pt_val (pe_callB call_isi (by rfl) T.isi (by decide +kernel) (pa_cons (pv 1) (pa_cons (pe_bltn (v := .ty "tuple") (by rfl) T.tpl boot_tuple rfl) pa_nil)))) (pss_one (ps_set (i := 2) scSg.nd rfl (Or.inl rfl) (pe_op op_cat (pv 2) (pe_lst (pa_cons (pe_callTy call_list_of (by rfl) T.lst (by decide +kernel) (pa_cons (pv 1) pa_nil)) (pa_cons (pe_op op_catA (pv 1) (pv 1)) (pa_cons (pe_op op_catA (pv 1) (pe_tup (pa_cons pe_int pa_nil))) (pa_cons (pe_slice sl_tupA (pv 1) (po_some pe_int) po_none) (pa_cons (pe_slice sl_tupA (pv 1) po_none (po_some (pe_un un_neg pe_int))) (pa_cons (pe_op op_catA (pv 1) (pe_tup (pa_cons (pv 1) pa_nil))) pa_nil)))))))))) pss_nil)))
      (pss_one (ps_ret (pe_call GP hr (by rfl) mP kP bP .nil pass0 (pa_cons (pv 0) (pa_cons (pv 2) pa_nil))))))), ?_⟩
    have cp : CPow 10 9 := by unfold CPow; decide
    refine ⟨_, rfl, _, _, rfl, rfl, cp, _, _, rfl, rfl, _, _, rfl, rfl, cp, _, _, rfl, rfl, _, _, rfl, rfl, _, _, rfl, rfl, cp, (by show 0 ≤ sizeLine; decide), fun t1 ht1 => ?_⟩
    generalize hH1 : upd H t1 _ = H1
    obtain ⟨st1, et1⟩ := freshF ht1 hH1
    refine ⟨Nat.zero_le _, fun t2 ht2 => ?_⟩
    generalize hH2 : upd H1 t2 _ = H2
    obtain ⟨st2, et2⟩ := freshF ht2 hH2
    refine ⟨(by show 1 ≤ sizeLine; decide), fun t3 ht3 => ?_⟩
    generalize hH3 : upd H2 t3 _ = H3
    obtain ⟨st3, et3⟩ := freshF ht3 hH3
    refine ⟨(by show 1 ≤ sizeLine; decide), fun t4 ht4 => ?_⟩
    generalize hH4 : upd H3 t4 _ = H4
    obtain ⟨st4, et4⟩ := freshF ht4 hH4
    refine ⟨t4, 9, [.int 0], rfl, rfl, SqT.of et4, (by simp), by decide, by decide, by decide, fun t5 ht5 => ?_⟩
    generalize hH5 : upd H4 t5 _ = H5
    obtain ⟨st5, et5⟩ := freshF ht5 hH5
    refine ⟨(by show 17 ≤ sizeLine; decide), fun L hL => ?_⟩
    generalize hH6 : upd H5 L _ = H6
    obtain ⟨sL, eL⟩ := freshF hL hH6
    have s25 := st3.trans (st4.trans st5)
    have s06 := st1.trans (st2.trans (s25.trans sL))
    have f2 := (S.keep st1).free ht2
    have all6 : AllDV g H6 [.int (-1), .bl true, .bl false, .non, .str "0", .int (10 ^ (9 : Int).toNat + 1), .int (0 - 10 ^ (9 : Int).toNat - 1), .int (10 ^ (9 : Int).toNat), .int 4000, .int 4001, .ref t1, .ref t2, .ref t3, .ref t5, .int 0, .int 1, .int 2] := by
      refine .cons (.int _) (.cons (.bl _) (.cons (.bl _) (.cons .non (.cons (.str (by decide +kernel)) (.cons (.int _) (.cons (.int _) (.cons (.int _) (.cons (.int _) (.cons (.int _) (.cons (.tup (ds := []) ((st2.trans (s25.trans sL)) _ _ et1) (by decide) .nil) (.cons (.lst (ds := []) ((s25.trans sL) _ _ et2) f2.2.1 (by decide) .nil) (.cons (.tup (ds := [.int 0]) ((st4.trans (st5.trans sL)) _ _ et3) (by decide) (.cons (.int _) .nil)) (.cons (.tup (ds := (List.replicate 9 (Dt.int 0))) (sL _ _ et5) (by decide) ?_) (.cons (.int _) (.cons (.int _) (.cons (.int _) .nil))))))))))))))))
      exact .cons (.int _) (.cons (.int _) (.cons (.int _) (.cons (.int _) (.cons (.int _) (.cons (.int _) (.cons (.int _) (.cons (.int _) (.cons (.int _) .nil))))))))
    have hL0 := no_of (st1.trans (st2.trans s25)) hL
    refine ⟨fun σ H' => ∃ (M : Addr) (ys : List V), σ = [some (.ref d), some v, some (.ref M)] ∧ Same H H' ∧ H' M = some (.lst ys) ∧ H M = none ∧ AllDV g H' ys ∧ ys ≠ [] ∧ ys.length ≤ 100, ?_, ?_⟩
    rotate_left
    · rintro σ H7 ⟨M, ys, rfl, s7, eM, hM0, all7, hne, hyl⟩
      have fM := S.free hM0
      refine ⟨_, rfl, _, rfl, d, g, c, M, n, ys, rfl, S.keep s7, by omega, eM, fM.2.1, hne, by omega, fun u H8 hu S8 kp => ?_⟩
      obtain ⟨du, hdu⟩ := all7 u hu
      exact k u du H8 S8 ((Kp.of s7).trans kp) (hdu.keep (Kv.kp (S.keep s7) kp))
    refine ⟨_, rfl, _, _, rfl, rfl, cp, _, _, rfl, rfl, _, _, rfl, rfl, cp, g, v, dt, _, _, rfl, hv.keep (Kv.of s06), fun H7 s7 => ⟨_, rfl, ?_⟩⟩
    have s07 := s06.trans s7
    have all7 := all6.keep (Kv.of s7)
    have eL7 := s7 _ _ eL
    clear all6 eL et1 et2 et3 et4 et5
    have base : ∃ (M : Addr) (ys : List V), ([some (.ref d), some v, some (.ref L)] : L2.St) = [some (.ref d), some v, some (.ref M)] ∧ Same H H7 ∧ H7 M = some (.lst ys) ∧ H M = none ∧ AllDV g H7 ys ∧ ys ≠ [] ∧ ys.length ≤ 100 := ⟨L, _, rfl, s07, eL7, hL0, all7, (fun z => by cases z), by show 17 ≤ 100; decide⟩
    have add : ∀ (N M : Addr) (zs : List V) (H8 : Hp), Same H7 H8 → H8 N = some (.lst zs) → AllDV g H8 zs → zs.length ≤ 20 → H8 M = none → ∃ (M' : Addr) (ys : List V), ([some (.ref d), some v, some (.ref M)] : L2.St) = [some (.ref d), some v, some (.ref M')] ∧ Same H (upd H8 M (.lst ([.int (-1), .bl true, .bl false, .non, .str "0", .int (10 ^ (9 : Int).toNat + 1), .int (0 - 10 ^ (9 : Int).toNat - 1), .int (10 ^ (9 : Int).toNat), .int 4000, .int 4001, .ref t1, .ref t2, .ref t3, .ref t5, .int 0, .int 1, .int 2] ++ zs))) ∧ (upd H8 M (.lst ([.int (-1), .bl true, .bl false, .non, .str "0", .int (10 ^ (9 : Int).toNat + 1), .int (0 - 10 ^ (9 : Int).toNat - 1), .int (10 ^ (9 : Int).toNat), .int 4000, .int 4001, .ref t1, .ref t2, .ref t3, .ref t5, .int 0, .int 1, .int 2] ++ zs))) M' = some (.lst ys) ∧ H M' = none ∧ AllDV g (upd H8 M (.lst ([.int (-1), .bl true, .bl false, .non, .str "0", .int (10 ^ (9 : Int).toNat + 1), .int (0 - 10 ^ (9 : Int).toNat - 1), .int (10 ^ (9 : Int).toNat), .int 4000, .int 4001, .ref t1, .ref t2, .ref t3, .ref t5, .int 0, .int 1, .int 2] ++ zs))) ys ∧ ys ≠ [] ∧ ys.length ≤ 100 := fun N M zs H8 s8 eN allz hzl hM => by
      have sM := same_new (o := .lst ([.int (-1), .bl true, .bl false, .non, .str "0", .int (10 ^ (9 : Int).toNat + 1), .int (0 - 10 ^ (9 : Int).toNat - 1), .int (10 ^ (9 : Int).toNat), .int 4000, .int 4001, .ref t1, .ref t2, .ref t3, .ref t5, .int 0, .int 1, .int 2] ++ zs)) hM
      refine ⟨M, _, rfl, (s07.trans s8).trans sM, upd_same, no_of (s07.trans s8) hM, ((all7.keep (Kv.of s8)).app allz).keep (Kv.of sM), (fun z => by cases z), ?_⟩
      rw [List.length_append]
      show 17 + zs.length ≤ 100
      omega
    cases hb : intIn (0 - 10 ^ (9 : Int).toNat) (10 ^ (9 : Int).toNat) dt with
    | true =>
      obtain ⟨i, rfl⟩ : ∃ i, dt = .int i := by
        cases dt with
        | int i => exact ⟨i, rfl⟩
        | _ => cases hb
      obtain rfl := hv.int_inv
      refine ifT rfl ⟨_, rfl, _, rfl, _, _, rfl, rfl, _, rfl, _, _, rfl, rfl, _, rfl, _, _, rfl, rfl, _, rfl, _, _, rfl, rfl, _, rfl, _, rfl, (by show 5 ≤ sizeLine; decide), fun N hN => ?_⟩
      generalize hH8 : upd H7 N _ = H8
      obtain ⟨sN, eN⟩ := freshF hN hH8
      refine ⟨L, N, _, _, rfl, rfl, sN _ _ eL7, eN, by show 17 + 5 ≤ sizeLine; decide, fun M hM => ?_⟩
      exact add N M _ H8 sN eN (.cons (.int _) (.cons (.int _) (.cons (.int _) (.cons (.int _) (.cons (.int _) .nil))))) (by show 5 ≤ 20; decide) hM
    | false =>
    have hv7 := hv.keep (Kv.of s07)
    obtain ⟨t0, ht0, k1, k2, k3, k4⟩ := hv7.ty (K := K)
    refine ifF rfl ⟨_, rfl, _, _, _, _, _, rfl, .ty "tuple", ht0, k2, _, rfl, ?_⟩
    cases hit : isTup dt with
    | false => exact ifF rfl base
    | true =>
    obtain ⟨l, rfl⟩ : ∃ l, dt = .tup l := by
      cases dt with
      | tup l => exact ⟨l, rfl⟩
      | _ => cases hit
    obtain ⟨b, xs, rfl, e, hl2, r⟩ := hv7.tup_inv
    have hll := hl l rfl
    have hxs := r.len
    refine ifT rfl ⟨_, rfl, _, rfl, b, xs, rfl, .inr (SqT.of e), fun l1 hl1 => ?_⟩
    generalize hH8 : upd H7 l1 _ = H8
    obtain ⟨sl1, el1⟩ := freshF hl1 hH8
    have s78 := sl1
    refine ⟨_, rfl, _, rfl, catA_of (sl1 _ _ e) (sl1 _ _ e) (by rw [sizeLine_eq]; omega) fun r1 H9 s89 er1 => ?_⟩
    have s79 := s78.trans s89
    refine ⟨_, rfl, (by show 1 ≤ sizeLine; decide), fun t6 ht6 => ?_⟩
    generalize hH10 : upd H9 t6 _ = H10
    obtain ⟨st6, et6⟩ := freshF ht6 hH10
    have s710 := s79.trans st6
    refine catA_of (s710 _ _ e) et6 (by rw [sizeLine_eq]; show _ + 1 ≤ _; omega) fun r2 H11 s11 er2 => ?_
    have s711 := s710.trans s11
    refine ⟨_, rfl, _, rfl, ?_⟩
    unfold tNoPart
    refine slA_of (s711 _ _ e) fun r3 H12 s12 er3 => ?_
    have s712 := s711.trans s12
    refine ⟨_, rfl, _, rfl, _, rfl, ?_⟩
    refine slA_of (s712 _ _ e) fun r4 H13 s13 er4 => ?_
    have s713 := s712.trans s13
    refine ⟨_, rfl, _, rfl, (by show 1 ≤ sizeLine; decide), fun t7 ht7 => ?_⟩
    generalize hH14 : upd H13 t7 _ = H14
    obtain ⟨st7, et7⟩ := freshF ht7 hH14
    have s714 := s713.trans st7
    refine catA_of (s714 _ _ e) et7 (by rw [sizeLine_eq]; show _ + 1 ≤ _; omega) fun r5 H15 s15 er5 => ?_
    have s715 := s714.trans s15
    refine ⟨(by show 6 ≤ sizeLine; decide), fun N hN => ?_⟩
    generalize hH16 : upd H15 N _ = H16
    obtain ⟨sN, eN⟩ := freshF hN hH16
    have s716 := s715.trans sN
    have fl1 := (S.keep s07).free hl1
    refine ⟨L, N, _, _, rfl, rfl, s716 _ _ eL7, eN, by show 17 + 6 ≤ sizeLine; decide, fun M hM => ?_⟩
    have r16 := r.keep (Kv.of s716)
    have kk : ∀ {Hx : Hp} {a : Addr} {o : HO}, Same Hx H16 → Hx a = some o → H16 a = some o := fun s e => s _ _ e
    refine add N M _ H16 s716 eN ?_ (by show 6 ≤ 20; decide) hM
    refine .cons (.lst (ds := l) (((s89.trans (st6.trans (s11.trans (s12.trans (s13.trans (st7.trans (s15.trans sN)))))))) _ _ el1) fl1.2.1 (by omega) r16) ?_
    refine .cons (.tup (ds := l ++ l) ((st6.trans (s11.trans (s12.trans (s13.trans (st7.trans (s15.trans sN)))))) _ _ er1) (by rw [List.length_append]; omega) (r16.app r16)) ?_
    refine .cons (.tup (ds := l ++ [.int 0]) ((s12.trans (s13.trans (st7.trans (s15.trans sN)))) _ _ er2) (by rw [List.length_append]; show _ + 1 ≤ _; omega) (r16.app (.cons (.int _) .nil))) ?_
    refine .cons (.tup ((s13.trans (st7.trans (s15.trans sN))) _ _ er3) ?_ (r16.cut _ _)) (.cons (.tup ((st7.trans (s15.trans sN)) _ _ er4) ?_ (r16.cut _ _)) (.cons (.tup (ds := l ++ [.tup l]) (sN _ _ er5) (by rw [List.length_append]; show _ + 1 ≤ _; omega) (r16.app (.cons (.tup (s716 _ _ e) (by omega) r16) .nil))) .nil))
    · rw [List.length_take, List.length_drop]
      omega
    · rw [List.length_take, List.length_drop]
      omega
end
end K65

set_option Elab.async false
set_option linter.all false
set_option pp.maxSteps 900
set_option maxRecDepth 100000
set_option maxHeartbeats 4000000
namespace K65
open PySem PySem.Spec PyProof.Rows L2
open TL (tl)
def okB : Nat → Dt → Prop
  | 0, dt => isTup dt = false
  | n + 1, dt => ∀ l, dt = .tup l → l.length ≤ 1000 ∧ ∀ x ∈ l, okB n x
theorem okB.mono : ∀ {n : Nat} {dt : Dt}, okB n dt → okB (n + 1) dt
  | 0, dt, h => fun l e => by
    subst e
    cases h
  | n + 1, dt, h => fun l e => ⟨(h l e).1, fun x hx => okB.mono ((h l e).2 x hx)⟩
theorem okB.dep : ∀ {n : Nat} {dt : Dt}, pur dt = true → okB n dt → dep dt ≤ n
  | n, .non, _, _ => Nat.zero_le _
  | n, .bl _, _, _ => Nat.zero_le _
  | n, .int _, _, _ => Nat.zero_le _
  | n, .str _, _, _ => Nat.zero_le _
  | n, .lst _, p, _ => by cases p
  | n, .dic, p, _ => by cases p
  | 0, .tup l, _, h => by cases h
  | n + 1, .tup l, p, h => by
    show deps l + 1 ≤ n + 1
    have : deps l ≤ n := deps_le fun x hx => okB.dep (purs_mem (l := l) p hx) ((h l rfl).2 x hx)
    omega
def spBe (k : Nat) : Sp := fun vs H Q _ => ∃ (d g c : Addr) (n : Nat) (v : V) (dt : Dt), vs = [.ref d, v] ∧ StA H d g c n ∧ n + 2 * k ≤ 800000000 ∧ DV g H v dt ∧ pur dt = true ∧ okB k dt ∧
  ∀ (u : V) (du : Dt) (H' : Hp), StA H' d g c (n + 2 * k + 2) → Kp d g H H' → DV g H' u du → Q u H'
theorem FnOk_no {P : Program} {w : World} {K : PySem.W.Frag} {mg : Str → Option Value} {base : Heap} {CX : CXT} {k : Nat} {f : Addr} {fd : FuncData} {ps : List Str} : FnOk P w K mg base CX k f fd ps (fun _ _ _ _ => False) := ⟨fun _ _ _ _ h => h.elim, fun _ _ _ _ _ _ _ _ _ _ _ _ _ h => h.elim⟩
section
variable {P : Program} {w : World} {K : PySem.W.Frag} {mg : Str → Option Value} {base : Heap}
theorem scBn : FnScope ["state", "thing", "at"] ["state", "thing"] (defScope sBn) := ⟨rfl, rfl, rfl, by decide +kernel, rfl, by decide +kernel, by decide +kernel⟩
theorem step_bn {f : Addr} {fd : FuncData} {m : Nat} {spR : Sp} (F : Fun K "_law_bent" "_law_bent" sBn f fd) (T : Bn mg) (cD : Cl P w K mg base "_law_draw" ["state", "room"] 2 spDrw) (cSg : Cl P w K mg base "_law_strange" ["state", "item"] 4 spSg)
    (hm : m ≤ 30) (GBn : FnOk P w K mg base CX0 (4 + m) f fd ["state", "thing"] spR) (mBn : mg "_law_bent" = some (.ref f)) (kBn : PySem.W.keepIn K (.ref f) = true) (bBn : L2.Binds K fd ["state", "thing"] []) (hR : ∀ j, m = j + 1 → spR = spBe j) : FnOk P w K mg base CX0 (4 + m + 1) f fd ["state", "thing"] (spBe m) := by
  obtain ⟨fD, fdD, GD, mD, kD, bD⟩ := cD
  obtain ⟨fSg, fdSg, GSg, mSg, kSg, bSg⟩ := cSg
  refine F.ok scBn (fun vs H Q E h => ?_) (fun cdv A outer s H vs Q E hr h => ?_)
  · obtain ⟨a1, a2, a3, a4, a5, a6, rfl, _⟩ := h
    rfl
  · obtain ⟨d, g, c, n, v, dt, rfl, S, hn, hv, hpu, hok, k⟩ := h
    have hr2 : Room 2 _ := hr.mono (by omega)
    have hr4 : Room 4 _ := hr.mono (by omega)
    refine ⟨_, (pss_cons (ps_if (PW.pt (pw_or (pt_not (pt_val (pe_callB call_isi (by rfl) T.isi (by decide +kernel) (pa_cons (pv 1) (pa_cons (pe_bltn (v := .ty "tuple") (by rfl) T.tpl boot_tuple rfl) pa_nil))))) (pw_or (pt_cmpR (op_eqD hr.units) (pv 1) (pe_tup pa_nil) (nomark _)) (pw_or1 (pt_cmpR op_eq (pe_call GD hr2 (by rfl) mD kD bD .nil pass0 (pa_cons (pv 0) (pa_cons pe_int pa_nil))) pe_int (nomark _)))))) (pss_one (ps_ret (pe_call GSg hr4 (by rfl) mSg kSg bSg .nil pass0 (pa_cons (pv 0) (pa_cons (pv 1) pa_nil))))) pss_nil)
      (pss_cons (ps_set (i := 2) scBn.nd rfl (Or.inl rfl) (pe_call GD hr2 (by rfl) mD kD bD .nil pass0 (pa_cons (pv 0) (pa_cons (pe_callB call_len_seq (by rfl) T.len PySem.boot_len (pa_cons (pv 1) pa_nil)) pa_nil))))
      (pss_one (ps_ret (pe_op op_catA (pe_op op_catA (pe_slice sl_tupA (pv 1) po_none (po_some (pv 2))) (pe_tup (pa_cons (pe_call GBn hr (by rfl) mBn kBn bBn .nil pass0 (pa_cons (pv 0) (pa_cons (pe_ix ix_tup (pv 1) (pv 2) (fun _ _ => rfl)) pa_nil))) pa_nil))) (pe_slice sl_tupA (pv 1) (po_some (pe_op op_add (pv 2) pe_int)) po_none)))))), ?_⟩
    obtain ⟨t0, ht0, k1, k2, k3, k4⟩ := hv.ty (K := K)
    have hlen : ∀ l, dt = .tup l → l.length ≤ 1000 := fun l e => by
      cases m with
      | zero => subst e; cases hok
      | succ m => exact (hok l e).1
    have str : ∀ (H' : Hp) (j : Nat), StA H' d g c j → Kp d g H H' → j ≤ n + 1 → spSg [.ref d, v] H' Q E := fun H' j S' kp hj =>
      ⟨d, g, c, j, v, dt, rfl, S', by omega, hv.keep (Kv.kp S kp), hlen, fun u du H2 S2 kp2 hu => k u du H2 (S2.mono (by omega)) (kp.trans kp2) hu⟩
    refine ⟨_, rfl, _, _, _, _, _, rfl, .ty "tuple", ht0, k2, _, rfl, ?_⟩
    cases hit : isTup dt with
    | false => exact ifT rfl (ifT rfl ⟨_, rfl, _, rfl, str H n S (Kp.refl H) (by omega)⟩)
    | true =>
    obtain ⟨l, rfl⟩ : ∃ l, dt = .tup l := by
      cases dt with
      | tup l => exact ⟨l, rfl⟩
      | _ => cases hit
    obtain ⟨b, xs, rfl, e, hl2, r⟩ := hv.tup_inv
    have hll := hlen l rfl
    have hxs := r.len
    refine ifF rfl ⟨_, rfl, (by show 0 ≤ sizeLine; decide), fun t1 ht1 => ?_⟩
    generalize hH1 : upd H t1 _ = H1
    obtain ⟨st1, et1⟩ := freshF ht1 hH1
    have hdep := okB.dep hpu hok
    refine ⟨toPy (.tup l), .tuple [], dv_dp hpu (hv.keep (Kv.of st1)), .tup (SqT.of et1) .nil, shaped_of hpu (by omega), by decide, _, rfl, ?_⟩
    have hnil : PyData.eqv (toPy (.tup l)) (.tuple []) = true ∨ l ≠ [] := by
      cases l with
      | nil => exact .inl (eqv_self (d := .tup []) rfl)
      | cons a b => exact .inr (by simp)
    have S1 := S.keep st1
    cases hev : PyData.eqv (toPy (.tup l)) (.tuple []) with
    | true => exact ifT rfl (ifT rfl ⟨_, rfl, _, rfl, str H1 n S1 (Kp.of st1) (by omega)⟩)
    | false =>
    have hne : l ≠ [] := by
      rcases hnil with h | h
      · rw [h] at hev
        cases hev
      · exact h
    refine ifF rfl ⟨_, rfl, d, g, c, n, 4, rfl, S1, by omega, by decide, by decide, fun u1 H2 h0 h1 S2 kp2 => ⟨rfl, _, rfl, ?_⟩⟩
    have kp02 := (Kp.of st1).trans kp2
    by_cases hu0 : u1 = 0
    · refine ifT (by rw [hu0]; exact decide_eq_true rfl) ⟨_, rfl, _, rfl, str H2 (n + 1) S2 kp02 (Nat.le_refl _)⟩
    refine ifF (decide_eq_false fun z => hu0 (V.int.inj z)) ?_
    obtain ⟨j, rfl⟩ : ∃ j, m = j + 1 := by
      cases m with
      | zero => cases hok
      | succ m => exact ⟨m, rfl⟩
    obtain rfl := hR j rfl
    have kv2 := Kv.kp S kp02
    have e2 := kv2.tup _ _ e
    have hpos : 0 < l.length := List.length_pos_iff.mpr hne
    refine ⟨_, rfl, _, rfl, b, xs, rfl, .inr (SqT.of e2), d, g, c, n + 1, ((xs.length : Nat) : Int), rfl, S2, by omega, by omega, by omega, fun u H3 u0 u1' S3 kp3 => ?_⟩
    have kv3 := Kv.kp S2 kp3
    have e3 := kv3.tup _ _ e2
    have kp03 := kp02.trans kp3
    obtain ⟨un, rfl⟩ := Int.eq_ofNat_of_zero_le u0
    have hun : un < xs.length := by omega
    have hx : xs[un]? = some (xs[un]'hun) := List.getElem?_eq_getElem hun
    generalize xs[un]'hun = xv at hx
    obtain ⟨dx, hdx, hxd⟩ := r.at_ hx
    have hmx := List.mem_of_getElem? hdx
    refine ⟨_, rfl, ?_⟩
    unfold tNoPart
    refine ⟨_, rfl, _, rfl, slA_of e3 fun r1 H4 s4 er1 => ?_⟩
    have kv4 := kv2.trans (kv3.trans (Kv.of s4))
    have kp04 := kp03.trans (Kp.of s4)
    have S4 := S3.keep s4
    refine ⟨_, rfl, _, rfl, _, rfl, b, xs, _, xv, rfl, rfl, SqT.of (s4 _ _ e3), atI_nat hx, d, g, c, n + 1 + 1, xv, dx, rfl, S4, by omega, hxd.keep kv4, purs_mem (l := l) hpu hmx, (hok l rfl).2 dx hmx, fun u du H5 S5 kp5 hu => ?_⟩
    have kv45 := Kv.kp S4 kp5
    have kv5 := kv4.trans kv45
    have kp05 := kp04.trans kp5
    have e5 := kv5.tup _ _ e
    have er15 := kv45.tup _ _ er1
    refine ⟨(by show 1 ≤ sizeLine; decide), fun t2 ht2 => ?_⟩
    generalize hH6 : upd H5 t2 _ = H6
    obtain ⟨st2, et2⟩ := freshF ht2 hH6
    have hcl := cutV_length xs none (some (un : Int))
    refine catA_of (st2 _ _ er15) et2 (by rw [sizeLine_eq]; show _ + 1 ≤ _; omega) fun r2 H7 s7 er2 => ?_
    have s57 := st2.trans s7
    refine ⟨_, rfl, _, rfl, _, _, rfl, rfl, _, rfl, ?_⟩
    refine slA_of (s57 _ _ e5) fun r3 H8 s8 er3 => ?_
    have s58 := s57.trans s8
    have hcl2 := cutV_length xs (some ((un : Int) + 1)) none
    refine catA_of (s8 _ _ er2) er3 (by rw [sizeLine_eq, List.length_append]; show (_ + 1) + (cutV xs (some ((un : Int) + 1)) none).length ≤ _; omega) fun r4 H9 s9 er4 => ?_
    have s59 := s58.trans s9
    have kv9 := kv5.trans (Kv.of s59)
    have r9 := r.keep kv9
    refine k (.ref r4) _ H9 ((S5.keep s59).mono (by omega)) (kp05.trans (Kp.of s59)) (.tup er4 ?_ (((r9.cut none (some (un : Int))).app (.cons (hu.keep (Kv.of s59)) .nil)).app (r9.cut (some ((un : Int) + 1)) none)))
    rw [List.length_append, List.length_append, List.length_take, List.length_take, List.length_drop, List.length_drop]
    show _ + 1 + _ ≤ _
    omega
theorem ok_bn {f : Addr} {fd : FuncData} (F : Fun K "_law_bent" "_law_bent" sBn f fd) (T : Bn mg) (cD : Cl P w K mg base "_law_draw" ["state", "room"] 2 spDrw) (cSg : Cl P w K mg base "_law_strange" ["state", "item"] 4 spSg) (mBn : mg "_law_bent" = some (.ref f)) (kBn : PySem.W.keepIn K (.ref f) = true) (bBn : L2.Binds K fd ["state", "thing"] []) :
    ∀ m, m ≤ 30 → FnOk P w K mg base CX0 (5 + m) f fd ["state", "thing"] (spBe m)
  | 0, _ => step_bn F T cD cSg (by omega) (FnOk_no (k := 4 + 0)) mBn kBn bBn (fun j h => by cases h)
  | m + 1, h => by
    have := ok_bn F T cD cSg mBn kBn bBn m (by omega)
    have h2 := step_bn (m := m + 1) F T cD cSg h (this.mono (show 5 + m ≤ 4 + (m + 1) by omega)) mBn kBn bBn (fun j e => by injection e with e; rw [e])
    exact h2.mono (by omega)
end
end K65

set_option Elab.async false
set_option linter.all false
set_option pp.maxSteps 900
set_option maxRecDepth 100000
set_option maxHeartbeats 4000000
namespace K65
open PySem PySem.Spec PyProof.Rows L2
/-! ### a tuple many times, whatever the number, a million items at most -/
def rRepM (K : PySem.W.Frag) : R2 := fun x y H Q => ∃ (l : Addr) (k : Nat) (xs : List V), x = .ref l ∧ y = .int (k : Nat) ∧ SqT K H l xs ∧ xs ≠ [] ∧ 2 ≤ k ∧ k * xs.length ≤ 1000000 ∧ ∀ p, H p = none → Q (.ref p) (upd H p (.tup (List.replicate k xs).flatten))
theorem op_repM {X : Cx} : OpR X (binaryOp .Mult) (rRepM X.K) := by
  intro pins s σ H x y v u Q I rx ry h
  obtain ⟨l, k, xs, rfl, rfl, hT, hne, h2, hk, q⟩ := h
  cases rx
  obtain ⟨t, rfl⟩ := ry
  obtain ⟨its, r, ⟨⟨cls, dd, data, sl⟩, ho, hc, n, hd⟩, hs⟩ := I.tuple hT
  simp only at hc hd
  subst hc hd
  have len : its.length = xs.length := r.length.symm
  have pos : 0 < xs.length := List.length_pos_iff.mpr hne
  have em : its.toArray.isEmpty = false := by
    cases its with
    | nil => rw [← len] at pos; exact absurd pos (by decide)
    | cons a b => rfl
  have k1 : k ≤ 1000000 := Nat.le_trans (Nat.le_mul_of_pos_right k pos) hk
  have prod : ((its.toArray.size : Nat) : Int) * (k : Nat) ≤ 1000000 := by
    rw [List.size_toArray, len, ← Int.natCast_mul, Nat.mul_comm]
    exact Int.ofNat_le.mpr hk
  have fl : (List.replicate k its).flatten.length ≤ sizeLine := by
    rw [PyProof.Rows.lm_len_rep_flat, len, sizeLine_eq]
    exact Nat.le_trans hk (by decide)
  have fl' : (List.replicate k xs).flatten.length ≤ sizeLine := by
    rw [PyProof.Rows.lm_len_rep_flat, sizeLine_eq]
    exact Nat.le_trans hk (by decide)
  have rep : (List.foldl (fun a b => a ++ b) #[] (List.replicate ((k : Nat) : Int).toNat its.toArray)) = (List.replicate k its).flatten.toArray := by
    rw [Int.toNat_natCast]
    exact size_rep its k
  have run := tuple_mulW l its.toArray n dd sl (k : Nat) t (by rw [decide_eq_false (by omega), decide_eq_false (by omega)] <;> rfl) (by rw [em, Bool.false_or]; exact beq_eq_false_iff_ne.mpr (by omega)) (by rw [em, Bool.or_false]; exact decide_eq_false (by omega)) (by omega)
    (by unfold Builtin.Tuple.tupleTooMany; rw [sizeLine_eq]; exact decide_eq_false (by omega)) (by rw [rep, List.size_toArray]; exact fl)
  rw [rep] at run
  refine wpAny_binaryOp_repeat_ref (T := "tuple") (U := "int") (by decide) ⟨_, ho, rfl⟩ (fun s' => typeIs_int s' (k : Nat) t) noFill_tuple_mul F.fills_int_mul F.slot_int_rmul repeat_tuple F.slot_int_index.lookup
    (call_meets F.slot_int_rmul (typeIs_int s (k : Nat) t) F.entry_int_rmul (F.args_int_rmul_2 _ _) (int_rmul_tuple (k : Nat) t l its.toArray n dd sl) ⟨ho, rfl, ⟨_, ho, rfl⟩, call_meets F.slot_tuple_mul ⟨_, ho, rfl⟩ F.entry_tuple_mul (F.args_tuple_mul_2 _ _) run ⟨ho, ?_⟩⟩)
  exact ⟨.ref s.heap.objs.size, _, I.laid (t' := s.toks) (o := .tup (List.replicate k xs).flatten) (fun b ob q => Heap.get?_push_of_some _ q) (Nat.le_refl _) ⟨fl', _, r.rep k, IsTup.new _ _⟩, rfl, q _ (I.hok.fresh (Nat.le_refl _))⟩
end K65

set_option Elab.async false
set_option linter.all false
set_option pp.maxSteps 900
set_option maxRecDepth 100000
set_option maxHeartbeats 4000000
namespace K65
open PySem PySem.Spec PyProof.Rows L2
open TL (tl)
abbrev sBR : Stmt := top 43
/-! ### repr(x) of a truth -/
def strB (b : Bool) : Str := if b then "True" else "False"
def rReprB : List V → Hp → VK → Prop := fun xs H Q => ∃ b : Bool, xs = [.bl b] ∧ Q (.str (strB b)) H
theorem call_reprB {X : Cx} : CallR X (.builtin "repr") rReprB := by
  intro pins s σ H xs us Q I r h
  obtain ⟨b, rfl, q⟩ := h
  obtain ⟨u, rfl, ru⟩ := vals1 r
  cases ru
  exact P.repr_of_bool ⟨.str _, H, I.tok _, ⟨_, by cases b <;> rfl⟩, q⟩
theorem dvs_rep {g : Addr} {H : Hp} {v : V} {d : Dt} (h : DV g H v d) : ∀ k : Nat, DVs g H (List.replicate k [v]).flatten (List.replicate k d)
  | 0 => .nil
  | k + 1 => by
    rw [List.replicate_succ, List.replicate_succ, List.flatten_cons]
    exact .cons h (dvs_rep h k)
theorem sum_rep (c : Int) : ∀ k : Nat, (List.replicate k c).sum = k * c
  | 0 => by simp
  | k + 1 => by
    rw [List.replicate_succ, List.sum_cons, sum_rep c k, Int.natCast_add, Int.add_mul]
    simp
    omega
theorem all_rep {f : Dt → Bool} {d : Dt} (h : f d = true) (k : Nat) : (List.replicate k d).all f = true := List.all_eq_true.mpr fun x hx => by
  rw [(List.mem_replicate.mp hx).2]
  exact h
theorem bw1 {m : Nat} (hm : m ≤ 1) : webB (.tup [.int 0, .tup (List.replicate (400 + m) (.tup [.int 1, .tup []]))]) = decide (m = 0) := by
  show netsB 0 (.tup (List.replicate (400 + m) (.tup [.int 1, .tup []]))) = _
  rw [nets_good (fun n hn => by rw [(List.mem_replicate.mp hn).2]; rfl)]
  rw [List.map_replicate, List.map_replicate]
  show ((decide ((1 : Int) ≤ ((List.replicate (400 + m) (Dt.tup [.int 1, .tup []])).length : Int)) && decide (((List.replicate (400 + m) (Dt.tup [.int 1, .tup []])).length : Int) ≤ 400)) && (decide ((List.replicate (400 + m) (1 : Int)).sum ≤ 4000) && decide ((List.replicate (400 + m) (0 : Int)).sum ≤ 8000))) = _
  rw [List.length_replicate, sum_rep, sum_rep, decide_eq_true (show (1 : Int) ≤ ((400 + m : Nat) : Int) by omega), decide_eq_true (show ((400 + m : Nat) : Int) * 1 ≤ 4000 by omega), decide_eq_true (show ((400 + m : Nat) : Int) * 0 ≤ 8000 by omega), Bool.true_and, Bool.and_true, Bool.and_true, decide_eq_decide]
  omega
theorem bw4 {m : Nat} (hm : m ≤ 1) : webB (.tup [.int 1, .tup [.tup [.int 2, .tup (List.replicate 4000 (.tup [.int 0, .int 1, .non, .int 1, .tup []]))], .tup [.int 2, .tup (List.replicate (4000 + m) (.tup [.int 0, .int 1, .non, .int 2, .tup []]))]]]) = decide (m = 0) := by
  show netsB 1 (.tup [.tup [.int 2, .tup (List.replicate 4000 (.tup [.int 0, .int 1, .non, .int 1, .tup []]))], .tup [.int 2, .tup (List.replicate (4000 + m) (.tup [.int 0, .int 1, .non, .int 2, .tup []]))]]) = _
  rw [nets_good (fun n hn => by
    rcases List.mem_cons.mp hn with rfl | hn
    · show (true && (List.replicate 4000 (Dt.tup [.int 0, .int 1, .non, .int 1, .tup []])).all (edgeB 2 2 1)) = true
      rw [all_rep (by rfl)] <;> rfl
    · rw [List.mem_singleton.mp hn]
      show (true && (List.replicate (4000 + m) (Dt.tup [.int 0, .int 1, .non, .int 2, .tup []])).all (edgeB 2 2 1)) = true
      rw [all_rep (by rfl)] <;> rfl)]
  show (true && (true && decide (((List.replicate 4000 (Dt.tup [.int 0, .int 1, .non, .int 1, .tup []])).length : Int) + (((List.replicate (4000 + m) (Dt.tup [.int 0, .int 1, .non, .int 2, .tup []])).length : Int) + 0) ≤ 8000))) = _
  rw [List.length_replicate, List.length_replicate, Bool.true_and, Bool.true_and, decide_eq_decide]
  omega
def spBR : Sp := fun vs H Q _ => ∃ (d g c : Addr) (n : Nat), vs = [.ref d] ∧ StA H d g c n ∧ n ≤ 900000000 ∧ ∀ H', Q (.bl true) H'
section
variable {P : Program} {w : World} {K : PySem.W.Frag} {mg : Str → Option Value} {base : Heap}
theorem scBr : FnScope ["state", "way", "more", "web"] ["state"] (defScope sBR) := ⟨rfl, rfl, rfl, by decide +kernel, rfl, by decide +kernel, by decide +kernel⟩
theorem ok_br {f : Addr} {fd : FuncData} (F : Fun K "_law_bounds_right" "_law_bounds_right" sBR f fd) (T : Bn mg) (hrepr : mg "repr" = none) (cD : Cl P w K mg base "_law_draw" ["state", "room"] 2 spDrw) (cWeb : Cl P w K mg base "is_web" ["value"] 4 (spAsk webB)) :
    FnOk P w K mg base CX0 5 f fd ["state"] spBR := by
  obtain ⟨fD, fdD, GD, mD, kD, bD⟩ := cD
  obtain ⟨fWeb, fdWeb, GWeb, mWeb, kWeb, bWeb⟩ := cWeb
  refine F.ok scBr (fun vs H Q E h => ?_) (fun cdv A outer s H vs Q E hr h => ?_)
  · obtain ⟨a1, a2, a3, a4, rfl, _⟩ := h
    rfl
  · obtain ⟨d, g, c, n, rfl, S, hn, k⟩ := h
    have hr2 : Room 2 _ := hr.mono (by decide)
    refine ⟨_, (pss_cons (ps_par (i := 1) (j := 2) (by rfl) scBr.nd rfl rfl (by decide) rfl rfl (pa_cons (pe_call GD hr2 (by rfl) mD kD bD .nil pass0 (pa_cons (pv 0) (pa_cons pe_int pa_nil))) (pa_cons (pe_call GD hr2 (by rfl) mD kD bD .nil pass0 (pa_cons (pv 0) (pa_cons pe_int pa_nil))) pa_nil)) (by rfl))
      (pss_mid (ps_if (pt_cmpR op_eq (pv 1) pe_int (nomark _)) (pss_one (ps_set (i := 3) scBr.nd rfl (Or.inl rfl) (pe_tup (pa_cons (pe_op op_add pe_int (pv 2)) (pa_cons (pe_tup (pa_cons (pe_tup (pa_cons pe_int (pa_cons (pe_tup pa_nil) pa_nil))) pa_nil)) pa_nil))))) (pss_one (ps_if (pt_cmpR op_eq (pv 1) pe_int (nomark _)) (pss_one (ps_set (i := 3) scBr.nd rfl (Or.inl rfl) (pe_tup (pa_cons pe_int (pa_cons (pe_op op_repM (pe_tup (pa_cons (pe_tup (pa_cons pe_int (pa_cons (pe_tup pa_nil) pa_nil))) pa_nil)) (pe_op op_add pe_int (pv 2))) pa_nil))))) (pss_one (ps_if (pt_cmpR op_eq (pv 1) pe_int (nomark _)) (pss_one (ps_set (i := 3) scBr.nd rfl (Or.inl rfl) (pe_tup (pa_cons pe_int (pa_cons (pe_tup (pa_cons (pe_tup (pa_cons pe_int (pa_cons (pe_tup (pa_cons (pe_tup (pa_cons pe_int (pa_cons pe_int (pa_cons pe_non (pa_cons pe_int (pa_cons (pe_tup (pa_cons pe_int pa_nil)) pa_nil)))))) pa_nil)) pa_nil))) (pa_cons (pe_tup (pa_cons (pe_op op_add pe_int (pv 2)) (pa_cons (pe_tup pa_nil) pa_nil))) pa_nil))) pa_nil))))) (pss_one (ps_if (pt_cmpR op_eq (pv 1) pe_int (nomark _)) (pss_one (ps_set (i := 3) scBr.nd rfl (Or.inl rfl) (pe_tup (pa_cons pe_int (pa_cons (pe_tup (pa_cons (pe_tup (pa_cons pe_int (pa_cons (pe_tup (pa_cons (pe_tup (pa_cons pe_int (pa_cons pe_int (pa_cons pe_non (pa_cons (pe_op op_add (pe_op op_pow pe_int pe_int) (pv 2)) (pa_cons (pe_op op_repM (pe_tup (pa_cons pe_int pa_nil)) pe_int) pa_nil)))))) pa_nil)) pa_nil))) pa_nil)) pa_nil))))) (pss_one (ps_set (i := 3) scBr.nd rfl (Or.inl rfl) (pe_tup (pa_cons pe_int (pa_cons (pe_tup (pa_cons (pe_tup (pa_cons pe_int (pa_cons (pe_op op_repM (pe_tup (pa_cons (pe_tup (pa_cons pe_int (pa_cons pe_int (pa_cons pe_non (pa_cons pe_int (pa_cons (pe_tup pa_nil) pa_nil)))))) pa_nil)) pe_int) pa_nil))) (pa_cons (pe_tup (pa_cons pe_int (pa_cons (pe_op op_repM (pe_tup (pa_cons (pe_tup (pa_cons pe_int (pa_cons pe_int (pa_cons pe_non (pa_cons pe_int (pa_cons (pe_tup pa_nil) pa_nil)))))) pa_nil)) (pe_op op_add pe_int (pv 2))) pa_nil))) pa_nil))) pa_nil))))))))))))
      (pss_one (ps_ret (pe_cmpR op_eq (pe_callB call_reprB (by rfl) hrepr (by decide +kernel) (pa_cons (pe_call GWeb hr (by rfl) mWeb kWeb bWeb .nil pass0 (pa_cons (pv 3) pa_nil)) pa_nil)) (pe_callB call_reprB (by rfl) hrepr (by decide +kernel) (pa_cons (pe_cmpR op_eq (pv 2) pe_int (nomark _)) pa_nil)) (nomark _)))))), ?_⟩
    refine ⟨_, rfl, d, g, c, n, 5, rfl, S, by omega, by decide, by decide, fun u1 H1 u10 u11 S1 kp1 => ?_⟩
    refine ⟨_, rfl, d, g, c, n + 1, 2, rfl, S1, by omega, by decide, by decide, fun u2 H2 u20 u21 S2 kp2 => ?_⟩
    obtain ⟨m, rfl⟩ := Int.eq_ofNat_of_zero_le u20
    have hm : m ≤ 1 := by omega
    refine ⟨_, _, rfl, ?_⟩
    refine ⟨fun σ H' => ∃ (vw : V) (dt : Dt), σ = [some (.ref d), some (.int u1), some (.int (m : Nat)), some vw] ∧ DV g H' vw dt ∧ webB dt = decide (m = 0), ?_, ?_⟩
    rotate_left
    · rintro σ H3 ⟨vw, dt, rfl, hdv, hwb⟩
      refine ⟨_, rfl, g, vw, dt, rfl, hdv, fun H4 s4 => ⟨_, rfl, _, rfl, rfl, _, rfl, rfl, ?_⟩⟩
      have e : decide (V.int (m : Nat) = V.int 0) = decide (m = 0) := by
        rw [decide_eq_decide]
        exact ⟨fun z => by injection z with z; omega, fun z => by rw [z] <;> rfl⟩
      rw [e, hwb, decide_eq_true rfl]
      exact k H4
    have T1 : ∀ {k : Nat}, k ≤ 20 → k ≤ sizeLine := fun h => by rw [sizeLine_eq]; omega
    have tp : ∀ {H' : Hp} {a : Addr} {xs : List V} {ds : List Dt}, H' a = some (.tup xs) → ds.length ≤ 20 → DVs g H' xs ds → DV g H' (.ref a) (.tup ds) := fun e h r => .tup e (by omega) r
    have hw : u1 = 0 ∨ u1 = 1 ∨ u1 = 2 ∨ u1 = 3 ∨ u1 = 4 := by omega
    have hmm : m = 0 ∨ m = 1 := by omega
    rcases hw with rfl | rfl | rfl | rfl | rfl
    · refine ⟨_, rfl, rfl, _, rfl, ifT rfl ⟨_, rfl, _, _, rfl, rfl, T1 (by simp), fun t1 ht1 => ?_⟩⟩
      generalize hH3 : upd H2 t1 _ = H3
      obtain ⟨st1, et1⟩ := freshF ht1 hH3
      refine ⟨T1 (by simp), fun t2 ht2 => ?_⟩
      generalize hH4 : upd H3 t2 _ = H4
      obtain ⟨st2, et2⟩ := freshF ht2 hH4
      refine ⟨T1 (by simp), fun t3 ht3 => ?_⟩
      generalize hH5 : upd H4 t3 _ = H5
      obtain ⟨st3, et3⟩ := freshF ht3 hH5
      refine ⟨T1 (by simp), fun t4 ht4 => ?_⟩
      generalize hH6 : upd H5 t4 _ = H6
      obtain ⟨st4, et4⟩ := freshF ht4 hH6
      refine ⟨_, .tup [.int (4000 + (m : Nat)), .tup [.tup [.int 1, .tup []]]], rfl, tp et4 (by simp) (.cons (.int _) (.cons (tp (st4 _ _ et3) (by simp) (.cons (tp ((st3.trans st4) _ _ et2) (by simp) (.cons (.int _) (.cons (tp ((st2.trans (st3.trans st4)) _ _ et1) (by simp) .nil) .nil))) .nil)) .nil)), ?_⟩
      rcases hmm with rfl | rfl <;> decide +kernel
    · refine ⟨_, rfl, rfl, _, rfl, ifF rfl ⟨_, rfl, rfl, _, rfl, ifT rfl ⟨T1 (by simp), fun t1 ht1 => ?_⟩⟩⟩
      generalize hH3 : upd H2 t1 _ = H3
      obtain ⟨st1, et1⟩ := freshF ht1 hH3
      refine ⟨T1 (by simp), fun t2 ht2 => ?_⟩
      generalize hH4 : upd H3 t2 _ = H4
      obtain ⟨st2, et2⟩ := freshF ht2 hH4
      refine ⟨T1 (by simp), fun t3 ht3 => ?_⟩
      generalize hH5 : upd H4 t3 _ = H5
      obtain ⟨st3, et3⟩ := freshF ht3 hH5
      refine ⟨_, rfl, _, _, rfl, rfl, t3, 400 + m, [.ref t2], rfl, rfl, SqT.of et3, (by simp), by omega, by show (400 + m) * 1 ≤ _; omega, fun t4 ht4 => ?_⟩
      generalize hH6 : upd H5 t4 _ = H6
      obtain ⟨st4, et4⟩ := freshF ht4 hH6
      refine ⟨T1 (by simp), fun t5 ht5 => ?_⟩
      generalize hH7 : upd H6 t5 _ = H7
      obtain ⟨st5, et5⟩ := freshF ht5 hH7
      refine ⟨_, .tup [.int 0, .tup (List.replicate (400 + m) (.tup [.int 1, .tup []]))], rfl, tp et5 (by simp) (.cons (.int _) (.cons (.tup (st5 _ _ et4) (by rw [List.length_replicate]; omega) (dvs_rep (tp ((st3.trans (st4.trans st5)) _ _ et2) (by simp) (.cons (.int _) (.cons (tp ((st2.trans (st3.trans (st4.trans st5))) _ _ et1) (by simp) .nil) .nil))) _)) .nil)), bw1 hm⟩
    · refine ⟨_, rfl, rfl, _, rfl, ifF rfl ⟨_, rfl, rfl, _, rfl, ifF rfl ⟨_, rfl, rfl, _, rfl, ifT rfl ⟨T1 (by simp), fun t1 ht1 => ?_⟩⟩⟩⟩
      generalize hH3 : upd H2 t1 _ = H3
      obtain ⟨st1, et1⟩ := freshF ht1 hH3
      refine ⟨T1 (by simp), fun t2 ht2 => ?_⟩
      generalize hH4 : upd H3 t2 _ = H4
      obtain ⟨st2, et2⟩ := freshF ht2 hH4
      refine ⟨T1 (by simp), fun t3 ht3 => ?_⟩
      generalize hH5 : upd H4 t3 _ = H5
      obtain ⟨st3, et3⟩ := freshF ht3 hH5
      refine ⟨T1 (by simp), fun t4 ht4 => ?_⟩
      generalize hH6 : upd H5 t4 _ = H6
      obtain ⟨st4, et4⟩ := freshF ht4 hH6
      refine ⟨_, rfl, _, _, rfl, rfl, T1 (by simp), fun t5 ht5 => ?_⟩
      generalize hH7 : upd H6 t5 _ = H7
      obtain ⟨st5, et5⟩ := freshF ht5 hH7
      refine ⟨T1 (by simp), fun t6 ht6 => ?_⟩
      generalize hH8 : upd H7 t6 _ = H8
      obtain ⟨st6, et6⟩ := freshF ht6 hH8
      refine ⟨T1 (by simp), fun t7 ht7 => ?_⟩
      generalize hH9 : upd H8 t7 _ = H9
      obtain ⟨st7, et7⟩ := freshF ht7 hH9
      refine ⟨T1 (by simp), fun t8 ht8 => ?_⟩
      generalize hH10 : upd H9 t8 _ = H10
      obtain ⟨st8, et8⟩ := freshF ht8 hH10
      have q8 := st8
      have q7 := st7.trans q8
      have q6 := st6.trans q7
      have q5 := st5.trans q6
      have q4 := st4.trans q5
      have q3 := st3.trans q4
      have q2 := st2.trans q3
      refine ⟨_, .tup [.int 1, .tup [.tup [.int 1999, .tup [.tup [.int 0, .int 1998, .non, .int 0, .tup [.int 0]]]], .tup [.int (2001 + (m : Nat)), .tup []]]], rfl, tp et8 (by simp) (.cons (.int _) (.cons (tp (q8 _ _ et7) (by simp) (.cons (tp (q5 _ _ et4) (by simp) (.cons (.int _) (.cons (tp (q4 _ _ et3) (by simp) (.cons (tp (q3 _ _ et2) (by simp) (.cons (.int _) (.cons (.int _) (.cons .non (.cons (.int _) (.cons (tp (q2 _ _ et1) (by simp) (.cons (.int _) .nil)) .nil)))))) .nil)) .nil))) (.cons (tp (q7 _ _ et6) (by simp) (.cons (.int _) (.cons (tp (q6 _ _ et5) (by simp) .nil) .nil))) .nil))) .nil)), ?_⟩
      rcases hmm with rfl | rfl <;> decide +kernel
    · have cp : CPow 10 9 := by unfold CPow; decide
      refine ⟨_, rfl, rfl, _, rfl, ifF rfl ⟨_, rfl, rfl, _, rfl, ifF rfl ⟨_, rfl, rfl, _, rfl, ifF rfl ⟨_, rfl, rfl, _, rfl, ifT rfl ⟨_, _, rfl, rfl, cp, _, rfl, _, _, rfl, rfl, T1 (by simp), fun t1 ht1 => ?_⟩⟩⟩⟩⟩
      generalize hH3 : upd H2 t1 _ = H3
      obtain ⟨st1, et1⟩ := freshF ht1 hH3
      refine ⟨t1, 8, [.int 0], rfl, rfl, SqT.of et1, (by simp), by decide, by decide, fun t2 ht2 => ?_⟩
      generalize hH4 : upd H3 t2 _ = H4
      obtain ⟨st2, et2⟩ := freshF ht2 hH4
      refine ⟨T1 (by simp), fun t3 ht3 => ?_⟩
      generalize hH5 : upd H4 t3 _ = H5
      obtain ⟨st3, et3⟩ := freshF ht3 hH5
      refine ⟨T1 (by simp), fun t4 ht4 => ?_⟩
      generalize hH6 : upd H5 t4 _ = H6
      obtain ⟨st4, et4⟩ := freshF ht4 hH6
      refine ⟨T1 (by simp), fun t5 ht5 => ?_⟩
      generalize hH7 : upd H6 t5 _ = H7
      obtain ⟨st5, et5⟩ := freshF ht5 hH7
      refine ⟨T1 (by simp), fun t6 ht6 => ?_⟩
      generalize hH8 : upd H7 t6 _ = H8
      obtain ⟨st6, et6⟩ := freshF ht6 hH8
      refine ⟨T1 (by simp), fun t7 ht7 => ?_⟩
      generalize hH9 : upd H8 t7 _ = H9
      obtain ⟨st7, et7⟩ := freshF ht7 hH9
      have q7 := st7
      have q6 := st6.trans q7
      have q5 := st5.trans q6
      have q4 := st4.trans q5
      have q3 := st3.trans q4
      refine ⟨_, .tup [.int 1, .tup [.tup [.int 2, .tup [.tup [.int 0, .int 1, .non, .int (10 ^ (9 : Int).toNat + (m : Nat)), .tup (List.replicate 8 (.int 0))]]]]], rfl, tp et7 (by simp) (.cons (.int _) (.cons (tp (q7 _ _ et6) (by simp) (.cons (tp (q6 _ _ et5) (by simp) (.cons (.int _) (.cons (tp (q5 _ _ et4) (by simp) (.cons (tp (q4 _ _ et3) (by simp) (.cons (.int _) (.cons (.int _) (.cons .non (.cons (.int _) (.cons (tp (q3 _ _ et2) (by simp) (dvs_rep (.int 0) 8)) .nil)))))) .nil)) .nil))) .nil)) .nil)), ?_⟩
      rcases hmm with rfl | rfl <;> decide +kernel
    · refine ⟨_, rfl, rfl, _, rfl, ifF rfl ⟨_, rfl, rfl, _, rfl, ifF rfl ⟨_, rfl, rfl, _, rfl, ifF rfl ⟨_, rfl, rfl, _, rfl, ifF rfl ⟨T1 (by simp), fun t1 ht1 => ?_⟩⟩⟩⟩⟩
      generalize hH3 : upd H2 t1 _ = H3
      obtain ⟨st1, et1⟩ := freshF ht1 hH3
      refine ⟨T1 (by simp), fun t2 ht2 => ?_⟩
      generalize hH4 : upd H3 t2 _ = H4
      obtain ⟨st2, et2⟩ := freshF ht2 hH4
      refine ⟨T1 (by simp), fun t3 ht3 => ?_⟩
      generalize hH5 : upd H4 t3 _ = H5
      obtain ⟨st3, et3⟩ := freshF ht3 hH5
      refine ⟨t3, 4000, [.ref t2], rfl, rfl, SqT.of et3, (by simp), by decide, by show 4000 * 1 ≤ _; decide, fun t4 ht4 => ?_⟩
      generalize hH6 : upd H5 t4 _ = H6
      obtain ⟨st4, et4⟩ := freshF ht4 hH6
      refine ⟨T1 (by simp), fun t5 ht5 => ?_⟩
      generalize hH7 : upd H6 t5 _ = H7
      obtain ⟨st5, et5⟩ := freshF ht5 hH7
      refine ⟨T1 (by simp), fun t6 ht6 => ?_⟩
      generalize hH8 : upd H7 t6 _ = H8
      obtain ⟨st6, et6⟩ := freshF ht6 hH8
      refine ⟨T1 (by simp), fun t7 ht7 => ?_⟩
      generalize hH9 : upd H8 t7 _ = H9
      obtain ⟨st7, et7⟩ := freshF ht7 hH9
      refine ⟨T1 (by simp), fun t8 ht8 => ?_⟩
      generalize hH10 : upd H9 t8 _ = H10
      obtain ⟨st8, et8⟩ := freshF ht8 hH10
      refine ⟨_, rfl, _, _, rfl, rfl, t8, 4000 + m, [.ref t7], rfl, rfl, SqT.of et8, (by simp), by omega, by show (4000 + m) * 1 ≤ _; omega, fun t9 ht9 => ?_⟩
      generalize hH11 : upd H10 t9 _ = H11
      obtain ⟨st9, et9⟩ := freshF ht9 hH11
      refine ⟨T1 (by simp), fun t10 ht10 => ?_⟩
      generalize hH12 : upd H11 t10 _ = H12
      obtain ⟨st10, et10⟩ := freshF ht10 hH12
      refine ⟨T1 (by simp), fun t11 ht11 => ?_⟩
      generalize hH13 : upd H12 t11 _ = H13
      obtain ⟨st11, et11⟩ := freshF ht11 hH13
      refine ⟨T1 (by simp), fun t12 ht12 => ?_⟩
      generalize hH14 : upd H13 t12 _ = H14
      obtain ⟨st12, et12⟩ := freshF ht12 hH14
      have q12 := st12
      have q11 := st11.trans q12
      have q10 := st10.trans q11
      have q9 := st9.trans q10
      have q8 := st8.trans q9
      have q7 := st7.trans q8
      have q6 := st6.trans q7
      have q5 := st5.trans q6
      have q4 := st4.trans q5
      have q3 := st3.trans q4
      have q2 := st2.trans q3
      have ed1 : DV g H14 (.ref t2) (.tup [.int 0, .int 1, .non, .int 1, .tup []]) := tp (q3 _ _ et2) (by simp) (.cons (.int _) (.cons (.int _) (.cons .non (.cons (.int _) (.cons (tp (q2 _ _ et1) (by simp) .nil) .nil)))))
      have ed2 : DV g H14 (.ref t7) (.tup [.int 0, .int 1, .non, .int 2, .tup []]) := tp (q8 _ _ et7) (by simp) (.cons (.int _) (.cons (.int _) (.cons .non (.cons (.int _) (.cons (tp (q7 _ _ et6) (by simp) .nil) .nil)))))
      exact ⟨_, _, rfl, tp et12 (by simp) (.cons (.int 1) (.cons (tp (q12 _ _ et11) (by simp) (.cons (tp (q6 _ _ et5) (by simp) (.cons (.int 2) (.cons (.tup (q5 _ _ et4) (by rw [List.length_replicate]; decide) (dvs_rep ed1 4000)) .nil))) (.cons (tp (q11 _ _ et10) (by simp) (.cons (.int 2) (.cons (.tup (q10 _ _ et9) (by rw [List.length_replicate]; omega) (dvs_rep ed2 (4000 + m))) .nil))) .nil))) .nil)), bw4 hm⟩
end
end K65

set_option Elab.async false
set_option linter.all false
set_option pp.maxSteps 900
set_option maxRecDepth 100000
set_option maxHeartbeats 4000000
namespace K65
open PySem PySem.Spec PyProof.Rows L2
open TL (tl)
theorem ed_ok {pl nt lb : Int} {e : Ed} (h : OkE pl nt lb e) : edgeB pl nt lb (edD e) = true := by
  show ((intIn 0 (pl - 2) (.int e.p) && intIn 0 (pl - 1) (.int e.t)) && ((callB nt (oI e.c) && intIn (-1000000000) 1000000000 (.int e.b)) && toldB lb (.tup (e.l.map Dt.int)))) = true
  have h1 : intIn 0 (pl - 2) (.int e.p) = true := int_in.mpr ⟨_, rfl, h.p⟩
  have h2 : intIn 0 (pl - 1) (.int e.t) = true := int_in.mpr ⟨_, rfl, h.t⟩
  have h3 : callB nt (oI e.c) = true := by
    cases hc : e.c with
    | none => rfl
    | some c => exact int_in.mpr ⟨c, rfl, h.c c hc⟩
  have h4 : intIn (-1000000000) 1000000000 (.int e.b) = true := int_in.mpr ⟨_, rfl, h.b⟩
  have h5 : toldB lb (.tup (e.l.map Dt.int)) = true := by
    show (decide ((e.l.map Dt.int).length ≤ 8) && (e.l.map Dt.int).all (intIn 0 (lb - 1))) = true
    rw [List.length_map, decide_eq_true h.l, Bool.true_and]
    refine List.all_eq_true.mpr fun d hd => ?_
    obtain ⟨k, hk, rfl⟩ := List.mem_map.mp hd
    exact int_in.mpr ⟨k, rfl, h.k k hk⟩
  rw [h1, h2, h3, h4, h5] <;> rfl
theorem wb_ok {W : Web} (o : OkW W) : webB (wbD W) = true := by
  show (intIn 0 4000 (.int W.lb) && ((lenIn 1 400 (.tup (W.ns.map ntD)) && (W.ns.map ntD).all headB) && ((decide (((W.ns.map ntD).map net0).sum ≤ 4000) && decide (((W.ns.map ntD).map fun n => ((netEs n).length : Int)).sum ≤ 8000)) && (W.ns.map ntD).all fun n => (netEs n).all (edgeB (net0 n) (W.ns.map ntD).length W.lb)))) = true
  have m1 : (W.ns.map ntD).map net0 = W.ns.map (·.1) := by
    rw [List.map_map]
    rfl
  have m2 : ((W.ns.map ntD).map fun n => ((netEs n).length : Int)) = W.ns.map fun n => (n.2.length : Int) := by
    rw [List.map_map]
    refine List.map_congr_left fun n _ => ?_
    show (((n.2.map edD).length : Nat) : Int) = _
    rw [List.length_map]
  have h1 : intIn 0 4000 (.int W.lb) = true := int_in.mpr ⟨_, rfl, o.lb⟩
  have h2 : lenIn 1 400 (.tup (W.ns.map ntD)) = true := by
    show (decide ((1 : Int) ≤ ((W.ns.map ntD).length : Int)) && decide (((W.ns.map ntD).length : Int) ≤ 400)) = true
    rw [List.length_map, decide_eq_true (by have := o.n1; omega), decide_eq_true (by have := o.n4; omega)] <;> rfl
  have h3 : (W.ns.map ntD).all headB = true := by
    refine List.all_eq_true.mpr fun d hd => ?_
    obtain ⟨n, hn, rfl⟩ := List.mem_map.mp hd
    show (decide (1 ≤ n.1) && true) = true
    rw [decide_eq_true (o.pos n hn)] <;> rfl
  have h4 : ((W.ns.map ntD).all fun n => (netEs n).all (edgeB (net0 n) (W.ns.map ntD).length W.lb)) = true := by
    refine List.all_eq_true.mpr fun d hd => ?_
    obtain ⟨n, hn, rfl⟩ := List.mem_map.mp hd
    show (n.2.map edD).all (edgeB n.1 (W.ns.map ntD).length W.lb) = true
    refine List.all_eq_true.mpr fun e he => ?_
    obtain ⟨e, he2, rfl⟩ := List.mem_map.mp he
    rw [List.length_map]
    exact ed_ok (o.ed n hn e he2)
  rw [m1, m2, h1, h2, h3, h4, decide_eq_true o.sp, decide_eq_true o.se] <;> rfl
theorem oI_inj {a b : Option Int} (h : oI a = oI b) : a = b := by
  cases a <;> cases b <;> first | rfl | cases h
  rfl
theorem map_inj' {α β : Type} {f : α → β} (hf : ∀ a b, f a = f b → a = b) : ∀ {l m : List α}, l.map f = m.map f → l = m
  | [], [], _ => rfl
  | [], _ :: _, h => by cases h
  | _ :: _, [], h => by cases h
  | a :: l, b :: m, h => by
    rw [List.map_cons, List.map_cons] at h
    injection h with h1 h2
    rw [hf a b h1, map_inj' hf h2]
theorem ed_inj {a b : Ed} (h : edD a = edD b) : a = b := by
  obtain ⟨p, t, c, b1, l⟩ := a
  obtain ⟨p', t', c', b', l'⟩ := b
  unfold edD at h
  injection h with h
  injection h with h1 h
  injection h with h2 h
  injection h with h3 h
  injection h with h4 h
  injection h with h5 h
  injection h1 with h1
  injection h2 with h2
  injection h4 with h4
  injection h5 with h5
  have h3 := oI_inj h3
  have h5 := map_inj' (f := Dt.int) (fun a b h => by injection h) h5
  simp only at h1 h2 h3 h4 h5
  rw [h1, h2, h3, h4, h5]
theorem wb_inj {a b : Web} (h : wbD a = wbD b) : a = b := by
  obtain ⟨la, na⟩ := a
  obtain ⟨lb, nb⟩ := b
  unfold wbD at h
  injection h with h
  injection h with h1 h
  injection h with h2 h
  injection h1 with h1
  injection h2 with h2
  have h2 := map_inj' (f := ntD) (fun a b h => by
    obtain ⟨a1, a2⟩ := a
    obtain ⟨b1, b2⟩ := b
    unfold ntD at h
    injection h with h
    injection h with h1 h
    injection h with h2 h
    injection h1 with h1
    injection h2 with h2
    have h2 := map_inj' (fun a b h => ed_inj h) h2
    simp only at h1 h2
    rw [h1, h2]) h2
  simp only at h1 h2
  rw [h1, h2]
theorem purs_of {l : List Dt} (h : ∀ d ∈ l, pur d = true) : purs l = true := by
  rw [purs_all]
  exact List.all_eq_true.mpr h
theorem purs_app {a b : List Dt} (ha : purs a = true) (hb : purs b = true) : purs (a ++ b) = true := purs_of fun x hx => by
  rcases List.mem_append.mp hx with hx | hx
  · exact purs_mem ha hx
  · exact purs_mem hb hx
theorem textFrom_le : ∀ (ts : List Str) (k : Nat) (acc : Str), (textFrom k acc ts).length ≤ acc.length + piled ts
  | [], k, acc => Nat.le_refl _
  | t :: r, k, acc => by
    have h := textFrom_le r (k + 1) (acc ++ (if k > 0 then ", " else "" : String) ++ t)
    have e : (acc ++ (if k > 0 then ", " else "" : String) ++ t).length = acc.length + (if k > 0 then 2 else 0) + t.length := by
      rw [strLen_append, strLen_append]
      split <;> rfl
    have e2 : (if k > 0 then 2 else 0) ≤ 2 := by split <;> omega
    show (textFrom (k + 1) (acc ++ (if k > 0 then ", " else "" : String) ++ t) r).length ≤ _
    rw [piled_cons]
    generalize (if k > 0 then 2 else 0) = q at e e2
    rw [e] at h
    omega
theorem tupleText_le (ts : List Str) : (tupleText ts).length ≤ 3 + piled ts := by
  have e : ((("(" : String) : Str)).length = 1 := rfl
  have hj : (Str.join ", " ts).length ≤ piled ts := by
    by_cases h : ts = []
    · rw [h]
      exact Nat.zero_le _
    · have := join_length_add ts h
      omega
  show (("(" : Str) ++ Str.join ", " ts ++ (if ts.length == 1 then ",)" else ")" : String)).length ≤ _
  rw [strLen_append, strLen_append]
  have e3 : (((if ts.length == 1 then ",)" else ")" : String)) : Str).length ≤ 2 := by
    split
    · show 2 ≤ 2
      omega
    · show 1 ≤ 2
      omega
  omega
theorem piled_le {ts : List Str} {n : Nat} (h : ∀ t ∈ ts, t.length ≤ n) : piled ts ≤ ts.length * (n + 2) := by
  induction ts with
  | nil => simp [piled]
  | cons t ts ih =>
    rw [piled_cons, List.length_cons, Nat.add_mul]
    have := h t List.mem_cons_self
    have := ih fun x hx => h x (List.mem_cons_of_mem _ hx)
    omega
theorem int_len {x : Int} (h : x.natAbs.log2 < 100) : (PyData.shown (.int x)).length ≤ 101 := by
  have := int_text_length_le (k := 100) (by decide) h
  show (Str.ofString (toString x)).length ≤ 101
  rw [PySem.ofString_length]
  exact this
/-! ### the useful places, as data -/
theorem usD_pur (W : Web) : pur (usD W) = true := purs_map fun a _ => usN_pur W a
theorem usN_dep (W : Web) (a : Nat) : dep (usN W a) ≤ 1 := by
  unfold usN
  show deps _ + 1 ≤ 1
  have : deps ((usL W a ((W.ns[a]?.map fun n => n.1.toNat).getD 0)).map Dt.int) ≤ 0 := deps_le fun d hd => by
    obtain ⟨i, _, rfl⟩ := List.mem_map.mp hd
    exact Nat.le_refl _
  omega
theorem usD_dep (W : Web) : dep (usD W) ≤ 2 := by
  unfold usD
  show deps _ + 1 ≤ 2
  have : deps ((List.range W.ns.length).map (usN W)) ≤ 1 := deps_le fun d hd => by
    obtain ⟨i, _, rfl⟩ := List.mem_map.mp hd
    exact usN_dep W i
  omega
theorem usL_small {W : Web} {a n : Nat} (hn : n ≤ 5) : ∀ x ∈ usL W a n, x.natAbs.log2 < 100 := fun x hx => by
  unfold usL at hx
  obtain ⟨p, hp, rfl⟩ := List.mem_map.mp (List.mem_filter.mp hx).1
  have := List.mem_range.mp hp
  by_cases h : ((p : Nat) : Int).natAbs = 0
  · rw [h]
    decide
  · refine (Nat.log2_lt h).mpr (Nat.lt_of_lt_of_le (show ((p : Nat) : Int).natAbs < 8 by omega) (by decide))
theorem ints_show : ∀ l : List Int, (∀ x ∈ l, x.natAbs.log2 < 100) → PyData.showableAll (toPys (l.map Dt.int)) = true ∧ PyData.hasDictAll (toPys (l.map Dt.int)) = false ∧ (∀ t ∈ PyData.shownAll (toPys (l.map Dt.int)), t.length ≤ 101) ∧ (PyData.shownAll (toPys (l.map Dt.int))).length = l.length
  | [], _ => ⟨rfl, rfl, (fun t h => by cases h), rfl⟩
  | x :: l, h => by
    obtain ⟨i1, i2, i3, i4⟩ := ints_show l fun y hy => h y (List.mem_cons_of_mem _ hy)
    have hx := h x List.mem_cons_self
    refine ⟨?_, ?_, fun t ht => ?_, ?_⟩
    · show (decide (x.natAbs.log2 < 1920) && PyData.showableAll (toPys (l.map Dt.int))) = true
      rw [i1, decide_eq_true (by omega)] <;> rfl
    · show (false || PyData.hasDictAll (toPys (l.map Dt.int))) = false
      rw [i2] <;> rfl
    · have ht : t ∈ PyData.shown (.int x) :: PyData.shownAll (toPys (l.map Dt.int)) := ht
      rcases List.mem_cons.mp ht with rfl | ht
      · exact int_len hx
      · exact i3 t ht
    · show (PyData.shownAll (toPys (l.map Dt.int))).length + 1 = l.length + 1
      rw [i4]
theorem usN_show {W : Web} {a : Nat} (hp : ∀ n ∈ W.ns, n.1 ≤ 5) : (toPy (usN W a)).showable = true ∧ (toPy (usN W a)).hasDict = false ∧ (toPy (usN W a)).shown.length ≤ 520 := by
  have hn : ((W.ns[a]?.map fun n => n.1.toNat).getD 0) ≤ 5 := by
    cases h : W.ns[a]? with
    | none => exact Nat.zero_le _
    | some n =>
      have := hp n (List.mem_of_getElem? h)
      show n.1.toNat ≤ 5
      omega
  unfold usN
  generalize ((W.ns[a]?.map fun n => n.1.toNat).getD 0) = m at hn
  obtain ⟨i1, i2, i3, i4⟩ := ints_show (usL W a m) (usL_small hn)
  refine ⟨i1, i2, ?_⟩
  show (tupleText (PyData.shownAll (toPys ((usL W a m).map Dt.int)))).length ≤ 520
  have p1 := piled_le i3
  rw [i4] at p1
  have p2 := tupleText_le (PyData.shownAll (toPys ((usL W a m).map Dt.int)))
  have p3 := usL_len W a m
  have : (usL W a m).length * (101 + 2) ≤ 5 * 103 := Nat.mul_le_mul (by omega) (Nat.le_refl _)
  omega
theorem usD_show {W : Web} (hp : ∀ n ∈ W.ns, n.1 ≤ 5) (h4 : W.ns.length ≤ 4) : (toPy (usD W)).showable = true ∧ (toPy (usD W)).hasDict = false ∧ (toPy (usD W)).shown.length ≤ sizeLine := by
  have a1 : ∀ l : List Nat, PyData.showableAll (toPys (l.map (usN W))) = true ∧ PyData.hasDictAll (toPys (l.map (usN W))) = false ∧ (∀ t ∈ PyData.shownAll (toPys (l.map (usN W))), t.length ≤ 520) ∧ (PyData.shownAll (toPys (l.map (usN W)))).length = l.length := by
    intro l
    induction l with
    | nil => exact ⟨rfl, rfl, (fun t h => by cases h), rfl⟩
    | cons x l ih =>
      obtain ⟨i1, i2, i3, i4⟩ := ih
      obtain ⟨j1, j2, j3⟩ := usN_show (a := x) hp
      refine ⟨?_, ?_, fun t ht => ?_, ?_⟩
      · show ((toPy (usN W x)).showable && PyData.showableAll (toPys (l.map (usN W)))) = true
        rw [i1, j1] <;> rfl
      · show ((toPy (usN W x)).hasDict || PyData.hasDictAll (toPys (l.map (usN W)))) = false
        rw [i2, j2] <;> rfl
      · have ht : t ∈ (toPy (usN W x)).shown :: PyData.shownAll (toPys (l.map (usN W))) := ht
        rcases List.mem_cons.mp ht with rfl | ht
        · exact j3
        · exact i3 t ht
      · show (PyData.shownAll (toPys (l.map (usN W)))).length + 1 = l.length + 1
        rw [i4]
  obtain ⟨i1, i2, i3, i4⟩ := a1 (List.range W.ns.length)
  refine ⟨i1, i2, ?_⟩
  show (tupleText (PyData.shownAll (toPys ((List.range W.ns.length).map (usN W))))).length ≤ _
  have p1 := piled_le i3
  rw [i4, List.length_range] at p1
  have p2 := tupleText_le (PyData.shownAll (toPys ((List.range W.ns.length).map (usN W))))
  have : W.ns.length * (520 + 2) ≤ 4 * 522 := Nat.mul_le_mul h4 (Nat.le_refl _)
  rw [sizeLine_eq]
  omega
/-- a web's data nest six deep -/
theorem wb_okB {W : Web} (o : OkW W) (he : ∀ n ∈ W.ns, n.2.length ≤ 7) : okB 6 (wbD W) := by
  have leaf : ∀ {k : Nat} {d : Dt}, isTup d = false → okB k d := fun {k d} h => by
    cases k with
    | zero => exact h
    | succ k => exact fun l e => by subst e; cases h
  have oIl : ∀ c : Option Int, isTup (oI c) = false := fun c => by cases c <;> rfl
  have hed : ∀ n ∈ W.ns, ∀ e ∈ n.2, okB 2 (edD e) := fun n hn e he l el => by
    injection el with el
    subst el
    refine ⟨by simp, fun x hx => ?_⟩
    have h8 := (o.ed n hn e he).l
    simp only [List.mem_cons, List.not_mem_nil, or_false] at hx
    rcases hx with rfl | rfl | rfl | rfl | rfl
    · exact leaf rfl
    · exact leaf rfl
    · exact leaf (oIl _)
    · exact leaf rfl
    · intro l el
      injection el with el
      subst el
      refine ⟨by rw [List.length_map]; omega, fun x hx => ?_⟩
      obtain ⟨i, _, rfl⟩ := List.mem_map.mp hx
      exact leaf rfl
  intro l el
  injection el with el
  subst el
  refine ⟨by simp, fun x hx => ?_⟩
  simp only [List.mem_cons, List.not_mem_nil, or_false] at hx
  rcases hx with rfl | rfl
  · exact leaf rfl
  intro l el
  injection el with el
  subst el
  refine ⟨by rw [List.length_map]; have := o.n4; omega, fun x hx => ?_⟩
  obtain ⟨n, hn, rfl⟩ := List.mem_map.mp hx
  intro l el
  injection el with el
  subst el
  refine ⟨by simp, fun x hx => ?_⟩
  simp only [List.mem_cons, List.not_mem_nil, or_false] at hx
  rcases hx with rfl | rfl
  · exact leaf rfl
  intro l el
  injection el with el
  subst el
  refine ⟨by rw [List.length_map]; have := he n hn; omega, fun x hx => ?_⟩
  obtain ⟨e, he2, rfl⟩ := List.mem_map.mp hx
  exact hed n hn e he2
end K65

set_option Elab.async false
set_option linter.all false
set_option pp.maxSteps 900
set_option maxRecDepth 100000
set_option maxHeartbeats 4000000
namespace GD
open PySem PySem.Spec PyProof.Rows L2
/-- what is asked of the law's own def: its run where no repr is under way -/
def Start (P : Program) (w : World) (K : PySem.W.Frag) (mg : Str → Option Value) (fa a : Addr) (cs : List (Addr × Addr)) (ns : List Int) (s : Shared) : Prop :=
  ∀ (base : Heap) (H : Hp), (∀ p ∈ cs, LamX.TabB base mg p.1 p.2) → Env0 P w K mg base callerA [] s H → (∀ p ∈ cs, H p.2 = some (.tbl #[])) → SqL K H a (ns.map V.int) →
    codeAny (model P w) callerA (.call (.ref fa) ⟨[.ref a], []⟩) (CR CX0 [] P w H s (fun v _ => v = .bl true) fun _ _ _ => False) s
/-- the tracked objects at the start: the tables and, where the program's own objects don't hold it, the script -/
def hp0 (K : PySem.W.Frag) (ts : List Addr) (a : Addr) (o : Obj) (xs : List V) : Hp := fun b =>
  if b ∈ ts then some (.tbl #[]) else if b = a ∧ K.lookup a = none then some (.frz o (.lst xs)) else none
section
variable {K : PySem.W.Frag} {ts : List Addr} {a b : Addr} {o : Obj} {xs : List V} {u : HO}
theorem hp0_tab (h : b ∈ ts) : hp0 K ts a o xs b = some (.tbl #[]) := if_pos h
theorem hp0_cases (h : hp0 K ts a o xs b = some u) : (b ∈ ts ∧ u = .tbl #[]) ∨ (b ∉ ts ∧ b = a ∧ K.lookup a = none ∧ u = .frz o (.lst xs)) := by
  unfold hp0 at h
  by_cases h1 : b ∈ ts
  · rw [if_pos h1] at h
    exact .inl ⟨h1, (Option.some.inj h).symm⟩
  · rw [if_neg h1] at h
    by_cases h2 : b = a ∧ K.lookup a = none
    · rw [if_pos h2] at h
      exact .inr ⟨h1, h2.1, h2.2, (Option.some.inj h).symm⟩
    · rw [if_neg h2] at h
      cases h
theorem hp0_none (h1 : b ∉ ts) (h2 : b = a → K.lookup a ≠ none) : hp0 K ts a o xs b = none := by
  unfold hp0
  rw [if_neg h1, if_neg fun z => h2 z.1 z.2]
end
theorem law_start {P : Program} {w : World} {K : PySem.W.Frag} {mg mb : Str → Option Value} {fa a : Addr} {cs : List (Addr × Addr)} {s₁ : Shared} {vs : List Value} {ns : List Int}
    (KX : K.In s₁.heap) (hns : s₁.heap.Ns mainGlobals mg) (hb : s₁.heap.Ns builtinsNs mb) (hbb : ∀ x : Str, x ≠ "__name__" → mb x = bootBuiltins x) (hlim : s₁.heap.NoLimit) (hg : s₁.gens = #[])
    (hT : ∀ p ∈ cs, s₁.heap.get? p.2 = some { cls := .none, data := .fields #[] }) (nT : ∀ p ∈ cs, K.lookup p.2 = none) (C : ∀ p ∈ cs, PySem.W.CodeHd s₁.heap p.1 p.2)
    (hbm : ∃ (bm : Addr) (ob : Obj), mg "__builtins__" = some (.ref bm) ∧ bm ≠ builtinsNs ∧ s₁.heap.get? bm = some ob ∧ ob.cls = .type "module" ∧ ob.dict = some builtinsNs ∧ ob.data = .plain)
    (ha : s₁.heap.get? a = some { cls := .type "list", data := .seq vs.toArray }) (hi : IntsAre vs ns) (hl : ns.length ≤ sizeLine) (F : Start P w K mg fa a cs ns s₁) :
    codeAny (model P w) callerA (.call (.ref fa) ⟨[.ref a], []⟩) (fun r s' => r = .ok (.ret (.bool true)) ∧ OldK s₁.heap s'.heap ∧ s'.os = s₁.os ∧ AllBare s'.gens) s₁ := by
  have rv := vals_ints hi
  -- a table's object, an object that is no table
  have tab : ∀ {b : Addr}, b ∈ cs.map (·.2) → s₁.heap.get? b = some { cls := .none, data := .fields #[] } := fun {b} h => by
    obtain ⟨p, hp, rfl⟩ := List.mem_map.mp h
    exact hT p hp
  have aT : a ∉ cs.map (·.2) := fun z => by
    rw [tab z] at ha
    cases ha
  have hH : ∀ {b : Addr} {o : Obj}, s₁.heap.get? b = some o → (∀ x n, o.data ≠ .seq x n) → o.data ≠ .fields #[] → hp0 K (cs.map (·.2)) a { cls := .type "list", data := .seq vs.toArray } (ns.map V.int) b = none := fun {b o} e n1 n2 =>
    hp0_none (fun z => by rw [tab z] at e; cases e; exact n2 rfl) (fun z => by rw [z, ha] at e; cases e; exact absurd rfl (n1 _ _))
  generalize hHd : hp0 K (cs.map (·.2)) a { cls := .type "list", data := .seq vs.toArray } (ns.map V.int) = H at hH
  have cas : ∀ {b : Addr} {u : HO}, H b = some u → (b ∈ cs.map (·.2) ∧ u = .tbl #[]) ∨ (b ∉ cs.map (·.2) ∧ b = a ∧ K.lookup a = none ∧ u = .frz { cls := .type "list", data := .seq vs.toArray } (.lst (ns.map V.int))) := fun h => hp0_cases (by rw [hHd]; exact h)
  have hok : HOk P w H s₁.heap := fun b u h => by
    rcases cas h with ⟨h1, rfl⟩ | ⟨_, rfl, _, rfl⟩
    · exact tab h1
    · exact ⟨ha, by rw [List.length_map]; exact hl, vs, _, rv, ha⟩
  have nsK : ∀ {b : Addr} {m : Str → Option Value}, s₁.heap.Ns b m → (hidT s₁.heap H).Ns b m := fun {b m} ⟨o, es, ep, e, d, r⟩ => ⟨o, es, ep, hidT_get e (hH e (by rw [d]; intro _ _ z; cases z) (by rw [d]; intro z; cases z)), d, r⟩
  have hKb : K.In (hidT s₁.heap H) := fun b o e => hidT_get (KX b o e) (by
    rw [← hHd]
    refine hp0_none (fun z => ?_) fun z => by rw [← z, e]; intro q; cases q
    obtain ⟨p, hp, rfl⟩ := List.mem_map.mp z
    rw [nT p hp] at e
    cases e)
  have hM : L2.Mod K mg (hidT s₁.heap H) := ⟨hKb, nsK hns, ⟨mb, nsK hb, hbb⟩, hlim.imp fun mc h => ⟨nsK h.1, h.2⟩⟩
  have e0 : Env0 P w K mg (hidT s₁.heap H) callerA [] s₁ H :=
    ⟨rfl, hM, fun b o e => of_hidT e, Nat.le_of_eq (hidT_size _ _), trivial, fun b z => absurd (show b ∈ ([] : List Addr) from z) List.not_mem_nil, hok, .of_eq hg⟩
  have TB : ∀ p ∈ cs, LamX.TabB (hidT s₁.heap H) mg p.1 p.2 := fun p hp => by
    refine ⟨?_, ?_, fun z => ?_⟩
    · obtain ⟨o, us, file, tf, flags, tg, inF, text, tt, e1, r1, r2, r3, r⟩ := C p hp
      refine ⟨o, us, file, tf, flags, tg, inF, text, tt, hidT_get e1 (hH e1 (by rw [r2]; intro _ _ z; cases z) ?_), r1, r2, r3, r⟩
      rw [r2]
      intro z
      cases z
      simp at r3
    · obtain ⟨bm, ob, b1, b2, b3, b4, b5, b6⟩ := hbm
      refine ⟨bm, ob, b1, b2, fun z => ?_, fun z => ?_, hidT_get b3 (hH b3 (by rw [b6]; intro _ _ z; cases z) (by rw [b6]; intro z; cases z)), b4, b5, b6⟩
      · obtain ⟨o, es, ep, e, hd, _⟩ := hns
        rw [z, e] at b3
        cases b3
        rw [hd] at b6
        cases b6
      · rw [z, hT p hp] at b3
        cases b3
        cases b6
    · obtain ⟨o, es, ep, e, hd, _⟩ := hns
      rw [z, hT p hp] at e
      cases e
      cases hd
  have hS : SqL K H a (ns.map V.int) := by
    cases hk : K.lookup a with
    | none =>
      refine .inl (.inr ⟨{ cls := .type "list", data := .seq vs.toArray }, ?_⟩)
      rw [← hHd]
      unfold hp0
      rw [if_neg aT, if_pos ⟨rfl, hk⟩]
    | some o =>
      have e := KX a o hk
      rw [ha] at e
      cases e
      exact .inr ⟨_, vs.toArray, _, hk, rfl, rfl, rfl, by rw [List.size_toArray, hi.length]; exact hl, rv⟩
  have hTb : ∀ p ∈ cs, H p.2 = some (.tbl #[]) := fun p hp => by
    rw [← hHd]
    exact hp0_tab (List.mem_map.mpr ⟨p, hp, rfl⟩)
  refine codeAny_mono (F _ H TB e0 hTb hS) fun r s' h => ?_
  cases r with
  | error e => exact h.elim
  | ok fl =>
    cases fl with
    | next => exact h.elim
    | brk => exact h.elim
    | cont => exact h.elim
    | ret u =>
      obtain ⟨v, H', os, bare, un, hok', r', rfl⟩ := h
      obtain rfl : u = Value.bool true := r'
      have kept : ∀ b o, b ∉ cs.map (·.2) → s₁.heap.get? b = some o → s'.heap.get? b = some o := fun b o nb e => by
        cases q : H b with
        | none => exact un.keep b o e q (fun z => absurd (show b ∈ ([] : List Addr) from z) List.not_mem_nil) List.not_mem_nil
        | some u =>
          rcases cas q with ⟨z, _⟩ | ⟨_, rfl, _, rfl⟩
          · exact absurd z nb
          · obtain ⟨e2, _⟩ := hok' _ _ (un.frzs _ _ _ q)
            rw [ha] at e
            cases e
            exact e2
      refine ⟨rfl, ⟨fun b o e => ?_, fun b o e => ?_⟩, os, bare⟩
      · by_cases hb : b ∈ cs.map (·.2)
        · obtain ⟨p, hp, rfl⟩ := List.mem_map.mp hb
          obtain ⟨more, z⟩ := un.tbls p.2 #[] (hTb p hp)
          rw [hT p hp] at e
          cases e
          exact .inr (.inl ⟨((C p hp).tab (hT p hp)).isCodeTable, rfl, #[], _, rfl, hok' p.2 _ z⟩)
        · exact .inl (kept b o hb e)
      · by_cases hb : b ∈ cs.map (·.2)
        · obtain ⟨p, hp, rfl⟩ := List.mem_map.mp hb
          obtain ⟨more, z⟩ := un.tbls p.2 #[] (hTb p hp)
          exact ⟨_, hok' p.2 _ z⟩
        · exact ⟨o, kept b o hb e⟩
end GD

set_option Elab.async false
set_option linter.all false
set_option pp.maxSteps 900
set_option maxRecDepth 100000
set_option maxHeartbeats 4000000
namespace GD
open PySem PySem.Spec PyProof.Rows L2
/-! ### repr(x) of data, nothing under way -/
def rRepr (K : PySem.W.Frag) : List V → Hp → VK → Prop := fun xs H Q => ∃ (v : V) (d : PyData), xs = [v] ∧ Dp K H v d ∧ d.showable = true ∧ d.hasDict = false ∧ d.depth ≤ 64 ∧ d.shown.length ≤ sizeLine ∧ Q (.str d.shown) H
theorem call_reprD {X : Cx} (hg : X.A.guards = some []) (hu : X.A.units + 66 < cLine) : CallR X (.builtin "repr") (rRepr X.K) := by
  intro pins s σ H xs us Q I r h
  obtain ⟨v, d, rfl, hd, hs, hn, hdp, hsz, q⟩ := h
  obtain ⟨u, rfl, ru⟩ := vals1 r
  obtain ⟨as, rd⟩ := Dp.reads I d v u hd ru
  cases hd with
  | non =>
    cases ru
    exact P.repr_of_none ⟨.str _, H, I.tok _, ⟨_, rfl⟩, q⟩
  | bl b =>
    cases ru
    exact P.repr_of_bool ⟨.str _, H, I.tok _, ⟨_, rfl⟩, q⟩
  | int i =>
    obtain ⟨t, rfl⟩ := ru
    exact P.repr_of_int (of_decide_eq_true hs) ⟨.str _, H, I.tok _, ⟨_, rfl⟩, q⟩
  | str x =>
    obtain ⟨t, rfl⟩ := ru
    exact P.repr_of_str ⟨.str _, H, I.tok _, ⟨_, rfl⟩, q⟩ hsz
  | lst h1 h2 =>
    cases ru
    exact repr_of_reads' rd hs (fun e => by rw [hn] at e; cases e) hg (by omega) (fun _ _ e => e) (fun h' u tk hk => ⟨.str _, H, I.kept hk, ⟨_, rfl⟩, q⟩) hsz
  | tup h1 h2 =>
    cases ru
    exact repr_of_reads' rd hs (fun e => by rw [hn] at e; cases e) hg (by omega) (fun _ _ e => e) (fun h' u tk hk => ⟨.str _, H, I.kept hk, ⟨_, rfl⟩, q⟩) hsz
/-! ### the law's own def, run by the caller -/
theorem run_law {P : Program} {w : World} {K : PySem.W.Frag} {mg : Str → Option Value} {base : Heap} {A : Around} {k : Nat} {f : Addr} {name qual : Str} {params : Arguments} {body : List Stmt} {scope : Scope} {dV kV doc pm cdv ct oc : Value} {an od : Option Addr}
    {osl : Array (Option Value)} {N ps : List Str} {s : Shared} {H : Hp} {args : Args} {us : List Value} {vs : List V} {Q : VK} {E : XK}
    (lk : K.lookup f = some ⟨oc, od, .func (PySem.W.fnOf name qual params body scope dV kV doc pm an cdv ct), osl⟩) (hcd : PySem.W.codeIn K cdv qual = true) (S : FnScope N ps scope) (hr : Room (k + 1) A) (e0 : Env0 P w K mg base A [] s H)
    (hb : BindsTo s (PySem.W.fnOf name qual params body scope dV kV doc pm an cdv ct) args (ps.zip us)) (r : Vals vs us) (hl : vs.length = ps.length)
    (hbody : Room k (A.deeper (envOfC qual scope s.heap.objs.size f cdv)) → ∃ t, PSs (cxOf CX0 P w K mg base N qual scope f cdv A [] s H E) body t ∧ t { nx := fun _ H' => Q .non H', rt := Q } (start N vs) H) :
    codeAny (model P w) A (.call (.ref f) args) (CR CX0 [] P w H s Q E) s := by
  have KX : K.In s.heap := e0.mod.kin.keeps fun b o e => (e0.bs b o e).1
  have lim : s.heap.NoLimit := e0.mod.nolimit.keeps fun b o e => (e0.bs b o e).1
  have kinds : ∀ y ∈ ps.zip us, scope.names.lookup y.1 = some .local ∨ (scope.names.lookup y.1 = some .cell ∧ ((cellsFrom (s.heap.objs.size + 1) scope.names []).lookup y.1).isSome = true) := fun y hy =>
    (S.par y.1 (List.of_mem_zip (a := y.1) (b := y.2) hy).1).imp id fun q => ⟨q, PySem.W.cellsFrom_some _ _ _ (.inl q)⟩
  refine codeAny_call_function hr.depth (KX _ _ lk) rfl S.co S.gen rfl (PySem.W.codeRec_of KX hcd) (hb _ _ _ _ (wpAny_newFunctionEnv_cells S.kind kinds fun env he s1 x => ?_))
  subst he
  obtain ⟨t, ht, hq⟩ := hbody (hr.deeper _)
  refine ⟨lim.keeps x.toInCall.keep, codeAny_func (wpAny_mono (ht.run [] s1 (start N vs) H _ (inv_start S hr.hd e0 hl r x) hq) (fun fl s' hs => ?_) fun e s' hs => hs)⟩
  cases fl with
  | ret u =>
    obtain ⟨v, σ', H', J, rv, q⟩ := hs
    exact ⟨v, H', J.os, J.bare, J.base, J.hok, rv, q⟩
  | next =>
    obtain ⟨σ', H', J, q⟩ := hs
    exact ⟨V.non, H', J.os, J.bare, J.base, J.hok, rfl, q⟩
  | brk =>
    obtain ⟨_, _, _, q⟩ := hs
    exact q.elim
  | cont =>
    obtain ⟨_, _, _, q⟩ := hs
    exact q.elim
/-- the def's own surroundings: no repr is under way there -/
theorem deeper_guards (env : Env) : (callerA.deeper env).guards = some [] := rfl
/-! ### the whole -/
def LawG (l : PySem.W.OpenLaw) (w : World) (K : PySem.W.Frag) (n : Nat) (mg : Str → Option Value) (fa : Addr) (h : Heap) : Prop :=
  ∃ cs : List (Addr × Addr), (∀ p ∈ cs, h.get? p.2 = some { cls := .none, data := .fields #[] }) ∧ (∀ p ∈ cs, K.lookup p.2 = none) ∧ (∀ p ∈ cs, PySem.W.CodeHd h p.1 p.2) ∧
    ∀ (s : Shared) (a : Addr) (ns : List Int), ns.length ≤ n → (∀ z ∈ ns, Builtin.Int.intBits z ≤ 1048576) → Start l.prog w K mg fa a cs ns s
theorem walk_G {l : PySem.W.OpenLaw} {n : Nat} {q : Program} {loose : List Str} {XP : (Str → Option Value) → Heap → Prop} {YP : World → Heap → Prop} {d : DefRec} {K : Params → PySem.W.Frag}
    (hn : l.most = some n) (hn2 : n ≤ sizeLine) (hdf : d.params.defaults = []) (hY : ∀ (w : World) (h : Heap), YP w h → (K w.params).In h)
    (F : ∀ (w : World) (mg : Str → Option Value) (fa : Addr) (h : Heap), YP w h → (K w.params).In h → h.Ns mainGlobals mg → mg d.name = some (.ref fa) → LawG l w (K w.params) n mg fa h) :
    PySem.W.WalkO q loose XP YP l.row.toRowW d [] (fun f vs => PySem.call f vs) := by
  refine Att.attach_callB hn hdf fun w s₀ s₁ mg mb fa o pm cd doc a vs ns G Y ho hd hcd hmg hobj hints hlen hbits hg => ?_
  have KX := hY w _ Y
  obtain ⟨cs, hT, nT, C, hF⟩ := F w mg fa _ Y KX G.T.g hmg
  exact law_start KX G.T.g G.T.b G.T.builtins G.T.nolimit hg hT nT C G.T.bmain hobj hints (Nat.le_trans hlen hn2) (hF s₁ a ns hlen hbits)
end GD

set_option Elab.async false
set_option linter.all false
set_option pp.maxSteps 900
set_option maxRecDepth 100000
set_option maxHeartbeats 8000000
namespace K65
open PySem PySem.Spec PyProof.Rows L2
open LamX (GivesTo CodeO Tabs TabS TabB tLam pe_lamcall lamCx lamEnv lamS_by ExtN)
open TL (tl)
abbrev sLaw : Stmt := top 44
abbrev qLam : Str := ("law" : Str) ++ ".<locals>." ++ "<lambda>"
abbrev tbs (T1 : Addr) : List (Addr × Str) := [(T1, qLam)]
theorem tbs_1 {T1 : Addr} : ∀ p ∈ tbs T1, p.1 = T1 → p.2 = qLam := fun p hp e => by
  rw [List.mem_singleton.mp hp]
/-! ### a kept error without a dict -/
def rIsH0 (K : PySem.W.Frag) (D : Addr) : List V → Hp → VK → Prop := fun xs H Q => ∃ (a : Addr) (c : V) (cv : Value) (b : Bool), xs = [.ref a, c] ∧ (∀ u, RelV c u → u = cv) ∧ H a = some (exh a (.ref D) none) ∧
  PySem.W.kitOne K (.ref D) cv = some b ∧ Q (.bl b) H
theorem call_isH0 {X : Cx} {D : Addr} (C : ExcC X.K D) : CallR X (.builtin "isinstance") (rIsH0 X.K D) := by
  intro pins s σ H xs us Q I r h
  obtain ⟨a, c, cv, b, rfl, hcv, h1, e, q⟩ := h
  obtain ⟨u1, u2, rfl, r1, r2⟩ := vals2 r
  cases r1
  have ec := hcv _ r2
  subst ec
  obtain ⟨oe, vs, ha, hz, hd⟩ := exh_at I.hok h1
  have J : PySem.W.InstAt s.heap a oe D none := ⟨ha, hz.1, by unfold PySem.W.notCls; rw [hd] <;> rfl, by rw [hz.2]; trivial⟩
  have hcl : (PySem.W.clsIn X.K D).isSome = true := by
    obtain ⟨cd, hc, _⟩ := PySem.W.any_some C.hd
    rw [hc]
    rfl
  exact PySem.W.kia_one (PySem.W.kitx_exc hcl C.hg C.hk C.hs C.ha C.hn C.ht C.hm) I.kIn J e (fun z => nomatch z) fun tk => ⟨.bl b, H, I.kept (t' := tk) fun _ _ z => z, rfl, q⟩
theorem kit_self {K : PySem.W.Frag} {S : Addr} : PySem.W.kitOne K (.ref S) (.ref S) = some true := by
  unfold PySem.W.kitOne
  rw [if_pos (beq_self_eq_true _)]
theorem Kv.extN {g : Addr} {H H' : Hp} (k : ExtN H H') : Kv g H H' := ⟨fun b xs e _ => k _ _ e (fun _ z => by cases z), fun b xs e => k _ _ e (fun _ z => by cases z), fun b e => k _ _ e (fun _ z => by cases z)⟩
theorem StA.extN {H H' : Hp} {d g c : Addr} {n : Nat} (S : StA H d g c n) (k : ExtN H H') : StA H' d g c n := by
  obtain ⟨r, tt, gs, cs, S⟩ := S
  exact ⟨r, tt, gs, cs, { S with dk := k _ _ S.dk (fun _ z => by cases z), gl := k _ _ S.gl (fun _ z => by cases z), cl := k _ _ S.cl (fun _ z => by cases z) }⟩
theorem tabs_but {T : List (Addr × Str)} {H H' : Hp} (t : Tabs T H) (k : ∀ b o, H b = some o → (∀ kv, o ≠ .dK kv) → (∀ xs, o ≠ .lst xs) → H' b = some o) : Tabs T H' := fun p hp => by
  obtain ⟨ps, h1, h2, h3⟩ := t p hp
  refine ⟨ps, k _ _ h1 (fun _ z => by cases z) (fun _ z => by cases z), h2, fun pos cv hc => ?_⟩
  obtain ⟨c', e1, e2⟩ := h3 pos cv hc
  exact ⟨c', e1, k _ _ e2 (fun kv z => by unfold CodeO at z; cases z) (fun xs z => by unfold CodeO at z; cases z)⟩
theorem tabs_kp {T : List (Addr × Str)} {H H' : Hp} {d g c : Addr} {n : Nat} (t : Tabs T H) (S : StA H d g c n) (k : Kp d g H H') : Tabs T H' := by
  obtain ⟨r, tt, gs, cs, S⟩ := S
  refine tabs_but t fun b o e n1 n2 => k b o e (fun z => ?_) (fun z => ?_)
  · rw [z] at e
    exact n1 _ (Option.some.inj (e.symm.trans S.dk))
  · rw [z] at e
    exact n2 _ (Option.some.inj (e.symm.trans S.gl))
theorem DVs.pick {g : Addr} {H : Hp} {v : V} : ∀ {xs : List V} {ds : List Dt}, DVs g H xs ds → v ∈ xs → ∃ d, d ∈ ds ∧ DV g H v d
  | _, _, .nil, h => by cases h
  | _, _, .cons (v := x) (vs := xs) (d := d) h r, m => by
    rcases List.mem_cons.mp m with rfl | m
    · exact ⟨d, List.mem_cons_self, h⟩
    · obtain ⟨d', h1, h2⟩ := r.pick m
      exact ⟨d', List.mem_cons_of_mem _ h1, h2⟩
/-- a def that is called with keywords too -/
def ClK (CX : CXT) (P : Program) (w : World) (K : PySem.W.Frag) (mg : Str → Option Value) (base : Heap) (x : Str) (p : Str) (k : Nat) (sp : Sp) : Prop :=
  ∃ f fd, FnOk P w K mg base CX k f fd [p] sp ∧ mg x = some (.ref f) ∧ PySem.W.keepIn K (.ref f) = true ∧ L2.Binds K fd [p] [] ∧ KBinds K fd [p] [p] (fun us ws => us ++ ws) (fun us ws => us ++ ws)
/-- the errors that the law keeps -/
structure Ek (K : PySem.W.Frag) (mg : Str → Option Value) (x : Str) (CE C : Addr) : Prop where
  m : mg x = some (.ref C)
  exm : PySem.W.exmOne K (.ref C) (.ref CE) = some true
  exc : ExcC K C
structure MgC (mg : Str → Option Value) (K : PySem.W.Frag) (CE fCgt : Addr) : Prop where
  cgt : mg "_law_caught" = some (.ref fCgt)
  kcgt : PySem.W.keepIn K (.ref fCgt) = true
  ce : mg "ClockError" = some (.ref CE)
theorem tabs_put {T : List (Addr × Str)} {H : Hp} {p : Addr} {l l' : List V} (t : Tabs T H) (h : H p = some (.lst l)) : Tabs T (upd H p (.lst l')) := by
  refine tabs_but t fun b o e n1 n2 => ?_
  have hb : b ≠ p := fun z => by
    rw [z, h] at e
    exact n2 _ (Option.some.inj e).symm
  rw [upd_ne hb]
  exact e

def rTupOf (K : PySem.W.Frag) : List V → Hp → VK → Prop := fun xs H Q => ∃ p ys, xs = [.ref p] ∧ ((SqL K H p ys ∧ ∀ l, H l = none → Q (.ref l) (upd H l (.tup ys))) ∨ (SqT K H p ys ∧ Q (.ref p) H))
/-- the scope of the comprehension that due is made of -/
def scDue : Scope := match ((defBody sLaw : List Stmt)[4]? : Option Stmt) with
  | some (Stmt.Assign _ (Expr.Call _ [Expr.ListComp _ _ sc _] _ _) _) => { sc with names := sc.names.map fun p => if p.2 = .free then (p.1, .cell) else p }
  | _ => defScope sLaw
section
variable {P : Program} {w : World} {K : PySem.W.Frag} {mg : Str → Option Value} {base : Heap}
theorem scLaw : FnScope ["script", "state", "web", "roads", "used", "due", "told", "lap", "other", "at", "net", "place"] ["script"] (defScope sLaw) := ⟨rfl, rfl, rfl, by decide +kernel, rfl, by decide +kernel, by decide +kernel⟩
theorem law_run {fa cL T1 CE C1 fCgt a : Addr} {oc kV doc pm ct : Value} {od an : Option Addr} {sl : Array (Option Value)} {ns : List Int} {s : Shared} {H : Hp}
    {ocg kVg docg pmg cdg ctg : Value} {odg ang : Option Addr} {slg : Array (Option Value)} {fUs fWeb : Addr} {fdUs fdWeb : FuncData}
    (lk : K.lookup fa = some ⟨oc, od, .func (PySem.W.fnOf "law" "law" (defArgs sLaw) (defBody sLaw) (defScope sLaw) .none kV doc pm an (.ref cL) ct), sl⟩) (hcd : PySem.W.codeIn K (.ref cL) "law" = true)
    (lkg : K.lookup fCgt = some ⟨ocg, odg, .func (PySem.W.fnOf "_law_caught" "_law_caught" (defArgs sCgt) (defBody sCgt) (defScope sCgt) .none kVg docg pmg ang cdg ctg), slg⟩) (hcg : PySem.W.codeIn K cdg "_law_caught" = true)
    (bCgt : L2.Binds K (PySem.W.fnOf "_law_caught" "_law_caught" (defArgs sCgt) (defBody sCgt) (defScope sCgt) .none kVg docg pmg ang cdg ctg) ["action"] [])
    (B : Bn mg) (hrepr : mg "repr" = none) (T : MgC mg K CE fCgt) (E1 : Ek K mg "BadWeb" CE C1) (TB : TabB base mg cL T1)
    (cBeg : Cl P w K mg base "_law_begun" ["script"] 1 (spBeg K)) (cWW : Cl P w K mg base "_law_wb_web" ["state", "low"] 6 spWW) (cRd : Cl P w K mg base "_law_wb_roads" ["web"] 2 spRd) (cUd : Cl P w K mg base "_law_wb_used" ["web", "roads"] 2 spUd)
    (GUs : FnOk P w K mg base (L2.CX P w) 6 fUs fdUs ["web"] (spUs C1)) (mUs : mg "useful" = some (.ref fUs)) (kUs : PySem.W.keepIn K (.ref fUs) = true) (bUs : L2.Binds K fdUs ["web"] []) (hUs : KBinds K fdUs ["web"] ["web"] (fun us ws => us ++ ws) (fun us ws => us ++ ws))
    (GWeb : FnOk P w K mg base CX0 4 fWeb fdWeb ["value"] (spAsk webB)) (mWeb : mg "is_web" = some (.ref fWeb)) (kWeb : PySem.W.keepIn K (.ref fWeb) = true) (bWeb : L2.Binds K fdWeb ["value"] []) (hWeb : KBinds K fdWeb ["value"] ["value"] (fun us ws => us ++ ws) (fun us ws => us ++ ws))
    (cBn : Cl P w K mg base "_law_bent" ["state", "thing"] 11 (spBe 6)) (cWR : Cl P w K mg base "_law_web_right" ["web"] 3 (spAsk webB)) (cD : Cl P w K mg base "_law_draw" ["state", "room"] 2 spDrw) (cBR : Cl P w K mg base "_law_bounds_right" ["state"] 5 spBR)
    (e0 : Env0 P w K mg base callerA [] s H) (hT1 : H T1 = some (.tbl #[])) (hS : SqL K H a (ns.map V.int)) (hlen : ns.length ≤ 63) :
    codeAny (model P w) callerA (.call (.ref fa) ⟨[.ref a], []⟩) (CR CX0 [] P w H s (fun v _ => v = .bl true) fun _ _ _ => False) s := by
  obtain ⟨fBeg, fdBeg, GBeg, mBeg, kBeg, bBeg⟩ := cBeg
  obtain ⟨fWW, fdWW, GWW, mWW, kWW, bWW⟩ := cWW
  obtain ⟨fRd, fdRd, GRd, mRd, kRd, bRd⟩ := cRd
  obtain ⟨fUd, fdUd, GUd, mUd, kUd, bUd⟩ := cUd
  obtain ⟨fBn, fdBn, GBn, mBn, kBn, bBn⟩ := cBn
  obtain ⟨fWR, fdWR, GWR, mWR, kWR, bWR⟩ := cWR
  obtain ⟨fD, fdD, GD_, mD, kD, bD⟩ := cD
  obtain ⟨fBR, fdBR, GBR, mBR, kBR, bBR⟩ := cBR
  refine GD.run_law (k := 12) (N := ["script", "state", "web", "roads", "used", "due", "told", "lap", "other", "at", "net", "place"]) (ps := ["script"]) (us := [.ref a]) (vs := [.ref a]) lk hcd scLaw ⟨rfl, by decide, by decide⟩ e0 (.of_eq rfl) (.cons rfl .nil) rfl fun hr => ?_
  have hg : (callerA.deeper (envOfC "law" (defScope sLaw) s.heap.objs.size fa (.ref cL))).guards = some [] := rfl
  have hu66 : (callerA.deeper (envOfC "law" (defScope sLaw) s.heap.objs.size fa (.ref cL))).units + 66 < cLine := by have := hr.un; omega
  have hu := hu_of hr
  have hr1 : Room 1 _ := hr.mono (by decide)
  have hr2' : Room 2 _ := hr.mono (by decide)
  have hr3 : Room 3 _ := hr.mono (by decide)
  have hr4 : Room 4 _ := hr.mono (by decide)
  have hr5 : Room 5 _ := hr.mono (by decide)
  have hr6 : Room 6 _ := hr.mono (by decide)
  have hr10 : Room 10 _ := hr.mono (by decide)
  have hr11 : Room 11 _ := hr.mono (by decide)
  refine ⟨_, PSs.nox (pss_cons (ps_set (i := 1) scLaw.nd rfl (Or.inl rfl) (pe_call GBeg hr1 (by rfl) mBeg kBeg bBeg .nil pass0 (pa_cons (pv 0) pa_nil)))
      (pss_cons (ps_set (i := 2) scLaw.nd rfl (Or.inl rfl) (pe_call GWW hr6 (by rfl) mWW kWW bWW .nil pass0 (pa_cons (pv 1) (pa_cons pe_bl pa_nil))))
      (pss_cons (ps_set (i := 3) scLaw.nd rfl (Or.inl rfl) (pe_call GRd hr2' (by rfl) mRd kRd bRd .nil pass0 (pa_cons (pv 2) pa_nil)))
      (pss_cons (ps_set (i := 4) scLaw.nd rfl (Or.inr rfl) (pe_call GUd hr2' (by rfl) mUd kUd bUd .nil pass0 (pa_cons (pv 2) (pa_cons (pv 3) pa_nil))))
      (pss_cons (ps_set (i := 5) scLaw.nd rfl (Or.inl rfl) (pe_callTy call_tuple_of (by rfl) B.tpl (by decide +kernel) (pa_cons (pe_lc (own := [("at", 9), ("net", 10)]) (g := gTup K 2 (gCons (gName 9) (gCons (gName 10) gNil))) (tt := tYes) (by rfl) scLaw.nd (pi_enumT (by rfl) B.enu (pa_cons (pe_ix ix_tup (pv 2) pe_int (fun _ _ => rfl)) pa_nil)) (blkOk_by (own := [("at", 9), ("net", 10)]) (N := ["script", "state", "web", "roads", "used", "due", "told", "lap", "other", "at", "net", "place"]) (sc := defScope sLaw) (by decide +kernel)) (fun _ _ _ _ _ => (pg_tup (by rfl) (pgs_cons (pg_name (i := 9) scLaw.nd rfl (Or.inr rfl)) (pgs_cons (pg_name (i := 10) scLaw.nd rfl (Or.inl rfl)) pgs_nil)))) (fun _ _ _ _ _ => pts_nil) (fun _ _ _ _ _ => (pe_callTy (show CallR _ _ (rTupOf K) from call_tuple_of) (by rfl) B.tpl (by decide +kernel) (pa_cons (pe_lc (own := [("place", 11)]) (g := gName 11) (by rfl) scLaw.nd (pi_range1 (by rfl) B.rng (pa_cons (pe_ix (show IxR _ (rIxT K) from ix_tup) (pv 10) pe_int (fun _ _ => rfl)) pa_nil)) (blkOk_by (own := [("place", 11)]) (N := ["script", "state", "web", "roads", "used", "due", "told", "lap", "other", "at", "net", "place"]) (sc := scDue) (by decide +kernel)) (fun _ _ _ _ _ => (pg_name (i := 11) scLaw.nd rfl (Or.inl rfl))) (fun _ _ _ _ _ => (pts_one (pt_cmp (pc_din hu (pe_tup (pa_cons (pv 9) (pa_cons (pv 11) pa_nil))) (pv 4))))) (fun _ _ _ _ _ => (pv 11))) pa_nil)))) pa_nil)))
      (pss_cons (ps_set (i := 6) scLaw.nd rfl (Or.inl rfl) (pe_call GUs hr6 (by rfl) mUs kUs bUs .nil passL (pa_cons (pv 2) pa_nil)))
      (pss_cons (ps_if (PW.pt (pw_or (pt_cmpR op_isnot_bl (pe_call GWeb hr4 (by rfl) mWeb kWeb bWeb .nil pass0 (pa_cons (pv 2) pa_nil)) pe_bl (nomark _)) (pw_or (pt_cmpR op_ne (pe_callB (GD.call_reprD hg hu66) (by rfl) hrepr (by decide +kernel) (pa_cons (pv 6) pa_nil)) (pe_callB (GD.call_reprD hg hu66) (by rfl) hrepr (by decide +kernel) (pa_cons (pv 5) pa_nil)) (nomark _)) (pw_or1 (pt_cmpR (op_neD hr.units) (pe_callK0 GUs hr6 (by rfl) mUs kUs hUs passL (pk_cons (pv 2) pk_nil)) (pv 6) (nomark _)))))) (pss_one (ps_ret pe_bl)) pss_nil)
      (pss_cons (ps_for PassesOwn.never rfl (pi_range1 (by rfl) B.rng (pa_cons pe_int pa_nil)) (pg_name (i := 7) scLaw.nd rfl (Or.inl rfl))
          (pss_cons (ps_set (i := 8) scLaw.nd rfl (Or.inr rfl) (pe_call GBn hr11 (by rfl) mBn kBn bBn .nil pass0 (pa_cons (pv 1) (pa_cons (pv 2) pa_nil))))
          (pss_cons (ps_if (pt_cmpR op_ne (pe_callB call_reprB (by rfl) hrepr (by decide +kernel) (pa_cons (pe_call GWeb hr4 (by rfl) mWeb kWeb bWeb .nil pass0 (pa_cons (pv 8) pa_nil)) pa_nil)) (pe_callB call_reprB (by rfl) hrepr (by decide +kernel) (pa_cons (pe_call GWR hr3 (by rfl) mWR kWR bWR .nil pass0 (pa_cons (pv 8) pa_nil)) pa_nil)) (nomark _)) (pss_one (ps_ret pe_bl)) pss_nil)
          (pss_one (ps_if (PW.pt (pw_and (pt_not (pt_val (pe_call GWR hr3 (by rfl) mWR kWR bWR .nil pass0 (pa_cons (pv 8) pa_nil)))) (pw_and1 (pt_not (pt_val (pe_callB (call_isH0 E1.exc) (by rfl) B.isi (by decide +kernel) (pa_cons (pe_lamcall (k := 8) (by rfl) T.cgt T.kcgt lkg hcg bCgt scC rfl (Or.inl rfl) (caught_gives T.ce) TB rfl (List.mem_cons_self ..) tbs_1 hr10 (lamS_by (by show LamX.lamSB (defScope sLaw) _ = true; decide +kernel)) rfl (fun _ _ _ _ _ => rfl)
              (fun A outer s H E f c' hr2 => pe_call GUs (hr2.mono (by decide)) (by rfl) mUs kUs bUs .nil (passes_call (takes_of rfl rfl rfl rfl) (fun _ _ _ _ h => h)) (pa_cons (pv 8) pa_nil))) (pa_cons (pe_glob (v := .ref C1) (by rfl) E1.m rfl) pa_nil)))))))) (pss_one (ps_ret pe_bl)) pss_nil)))))
      (pss_cons (ps_if (PW.pt (pw_or (pt_cmpR op_isnot_bl (pe_callK0 GWeb hr4 (by rfl) mWeb kWeb hWeb pass0 (pk_cons (pe_callTy call_list_of (by rfl) B.lst (by decide +kernel) (pa_cons (pv 2) pa_nil)) pk_nil)) pe_bl (nomark _)) (pw_or1 (pt_cmpR op_isnot_bl (pe_call GWeb hr4 (by rfl) mWeb kWeb bWeb .nil pass0 (pa_cons (pe_op op_catA (pv 2) (pe_tup (pa_cons pe_int pa_nil))) pa_nil)) pe_bl (nomark _))))) (pss_one (ps_ret pe_bl)) pss_nil)
      (pss_one (ps_ret (pe_or (pe_cmpR op_gt (pe_call GD_ hr2' (by rfl) mD kD bD .nil pass0 (pa_cons (pv 1) (pa_cons pe_int pa_nil))) pe_int (nomark _)) (pe_one (pe_call GBR hr5 (by rfl) mBR kBR bBR .nil pass0 (pa_cons (pv 1) pa_nil))))))))))))))), ?_⟩
  refine ⟨_, rfl, a, ns, rfl, hS, hlen, fun d g c H1 S1 sm1 hd hg0 => ?_⟩
  have X1 : Tabs (tbs T1) H1 := fun p hp => by
    rw [List.mem_singleton.mp hp]
    exact TabS.nil (sm1 _ _ hT1)
  refine ⟨_, rfl, d, g, c, 0, true, rfl, S1, by omega, fun vw W H2 hW S2 kp2 hvw => ?_⟩
  have X2 := tabs_kp X1 S1 kp2
  have okw := hW.ok
  have hwb := wb_ok okw
  refine ⟨_, rfl, g, vw, W, rfl, hvw g, okw, fun rd kvs H3 s3 hrd erd hro hrf hkl => ?_⟩
  refine ⟨_, rfl, _, rfl, g, rd, vw, W, kvs, rfl, (hvw g).keep (Kv.of s3), okw, erd, hrf, fun ud H4 kv s4 hud eud huf => ?_⟩
  have s24 := s3.trans s4
  have hvw4 : ∀ g', DV g' H4 vw (wbD W) := fun g' => (hvw g').keep (Kv.of s24)
  -- due
  obtain ⟨b0, c0, xn, rfl, eb0, ec0, rn⟩ := wb_at (hvw4 g)
  have hnl : xn.length = W.ns.length := by rw [rn.len, List.length_map]
  have hn4 := okw.n4
  refine ⟨_, rfl, b0, _, 1, _, rfl, rfl, SqT.of eb0, atI_nat (j := 1) rfl, c0, xn, rfl, SqT.of ec0, fun D hD => ?_⟩
  refine lc_it (walk_enumT (K := K) (a := c0) (xs := xn)) (fun i H' => ∃ ws : List V, H' D = some (.lst ws) ∧ ws.length = i ∧ Same H4 H' ∧ ∀ g', DVs g' H' ws ((List.range i).map (usN W))) ⟨[], upd_same, rfl, same_new hD, fun g' => .nil⟩ (fun i H' _ ⟨_, _, _, s', _⟩ => SqT.of (s' _ _ ec0)) ?_ ?_
  · rintro i x H5z H5 hi ⟨ws, eD5, hwl, s5z, hws⟩ ⟨T0, x', y, rfl, hT, hH5, hx, hy⟩
    obtain rfl := Option.some.inj hx
    obtain ⟨sT, eT⟩ := freshF hT hH5.symm
    obtain ⟨dn, hdn, hyd⟩ := rn.at_ hy
    rw [List.getElem?_map] at hdn
    obtain ⟨nt, hnt, rfl⟩ := Option.map_eq_some_iff.mp hdn
    obtain ⟨b3, c3, xe, rfl, eb3, ec3, re⟩ := nt_at hyd
    have s5 := s5z.trans sT
    have npl := okw.pl (List.mem_of_getElem? hnt)
    have npos := okw.pos nt (List.mem_of_getElem? hnt)
    refine ⟨T0, _, rfl, SqT.of eT, (by rfl), _, _, rfl, _, _, rfl, rfl, (by rfl), ?_⟩
    refine ⟨_, rfl, b3, _, 0, _, rfl, rfl, SqT.of (s5 _ _ eb3), atI_nat (j := 0) rfl, nt.1, rfl, by omega, by omega, fun D2 hD2 => ?_⟩
    refine lc_it (walk_range (lo := 0) (n := nt.1.toNat)) (fun j H' => H' D2 = some (.lst ((usL W i j).map V.int)) ∧ Same H5 H') ⟨upd_same, same_new hD2⟩ (fun _ _ _ _ => trivial) ?_ ?_
    · rintro j x H6z H6 hj ⟨e6, s6⟩ ⟨rfl, rfl⟩
      refine ⟨(by rfl), ?_⟩
      have ej : (0 : Int) + (j : Nat) = (j : Nat) := Int.zero_add _
      refine ⟨_, rfl, _, rfl, (by show 2 ≤ sizeLine; decide), fun q hq => ?_⟩
      generalize hH7 : upd H6 q _ = H7
      obtain ⟨sq, eq⟩ := freshF hq hH7
      refine ⟨_, rfl, ud, _, rfl, DGet.t (k := pK (i : Nat) (0 + (j : Nat))) (sq _ _ (s6 _ _ (s5 _ _ eud))) eq, _, rfl, ?_⟩
      have hus : (valV kv (pK (i : Nat) (0 + (j : Nat)))).isSome = true ↔ usB W i ((j : Nat) : Int) = true := by
        rw [ej, usB_iff, ← huf]
        exact Iff.rfl
      cases hb : usB W i ((j : Nat) : Int) with
      | false =>
        refine ifF ?_ ⟨by rw [usL_succ, hb]; exact sq _ _ e6, s6.trans sq⟩
        cases hv : (valV kv (pK (i : Nat) (0 + (j : Nat)))).isSome with
        | false => rfl
        | true =>
          have := hus.mp hv
          rw [hb] at this
          cases this
      | true =>
        refine ifT (hus.mpr hb) ⟨_, rfl, _, sq _ _ e6, ?_, ?_, ?_⟩
        · have := usL_len W i j
          rw [List.length_map, sizeLine_eq]
          omega
        · rw [upd_same, usL_succ, hb, if_pos rfl, List.map_append]
          show some (HO.lst (_ ++ [V.int (0 + (j : Nat))])) = _
          rw [ej]
          rfl
        · intro b o eb
          rw [upd_ne (ne_of_none eb hD2)]
          exact sq _ _ (s6 _ _ eb)
    rintro H6 ⟨e6, s6⟩
    refine ⟨D2, _, rfl, .inl ⟨SqL.of e6, fun t ht => ?_⟩⟩
    generalize hH7 : upd H6 t _ = H7
    obtain ⟨st, et⟩ := freshF ht hH7
    have s57 := s6.trans st
    have eD7 := s57 _ _ (sT _ _ eD5)
    refine ⟨ws, eD7, by rw [hwl, sizeLine_eq]; omega, ws ++ [.ref t], upd_same, by rw [List.length_append, hwl]; rfl, fun b o eb => ?_, fun g' => ?_⟩
    · rw [upd_ne (ne_of_none eb hD)]
      exact s57 _ _ (s5 _ _ eb)
    · rw [List.range_succ, List.map_append]
      have kt : Kt H7 (upd H7 D (.lst (ws ++ [.ref t]))) := Kt.put eD7
      refine (((hws g').keep (Kv.of (sT.trans s57))).keepP kt (purs_map fun a _ => usN_pur W a)).app (.cons (DV.keepP (g := g') kt (usN_pur W i) ?_) .nil)
      unfold usN
      rw [hnt]
      show DV g' H7 (.ref t) (.tup ((usL W i nt.1.toNat).map Dt.int))
      refine .tup et ?_ (dvs_ints _)
      have := usL_len W i nt.1.toNat
      rw [List.length_map]
      omega
  rintro H5 ⟨ws, eD5, hwl, s5, hws⟩
  rw [hnl] at hws hwl
  refine ⟨D, ws, rfl, .inl ⟨SqL.of eD5, fun dt hdt => ?_⟩⟩
  generalize hH6 : upd H5 dt _ = H6
  obtain ⟨sdt, edt⟩ := freshF hdt hH6
  have hdue : ∀ g', DV g' H6 (.ref dt) (usD W) := fun g' => .tup edt (by rw [List.length_map, List.length_range]; omega) ((hws g').keep (Kv.of sdt))
  have s46 := s5.trans sdt
  -- told
  refine ⟨_, rfl, g, .ref b0, wbD W, rfl, (hvw4 g).keep (Kv.of s46), (fun h => by rw [hwb] at h; cases h), fun W' e _ tA H7 s7 htold => ?_⟩
  obtain rfl := wb_inj e
  have s47 := s46.trans s7
  -- is_web(web)
  refine ⟨_, rfl, g, .ref b0, wbD W, rfl, (hvw4 g).keep (Kv.of s47), fun H8 s8 => ?_⟩
  rw [hwb]
  refine ⟨true, true, rfl, rfl, _, rfl, ifF rfl ?_⟩
  have s48 := s47.trans s8
  -- repr(told) != repr(due)
  obtain ⟨sh1, sh2, sh3⟩ := usD_show hW.p hW.n
  have hpu := usD_pur W
  have hdp : (toPy (usD W)).depth ≤ 64 := by
    rw [(pur_lay hpu).2]
    have := usD_dep W
    omega
  have hshp := shaped_of hpu (by have := usD_dep W; omega)
  refine ⟨_, rfl, .ref tA, toPy (usD W), rfl, dv_dp hpu ((htold g).keep (Kv.of s8)), sh1, sh2, hdp, sh3, ?_⟩
  refine ⟨_, rfl, .ref dt, toPy (usD W), rfl, dv_dp hpu ((hdue g).keep (Kv.of (s7.trans s8))), sh1, sh2, hdp, sh3, rfl, _, rfl, ifF (by rw [decide_eq_true rfl]; rfl) ?_⟩
  -- useful(web = web) != told
  refine ⟨_, rfl, g, .ref b0, wbD W, rfl, (hvw4 g).keep (Kv.of s48), (fun h => by rw [hwb] at h; cases h), fun W' e _ tB H9 s9 htB => ?_⟩
  obtain rfl := wb_inj e
  have s49 := s48.trans s9
  refine ⟨_, rfl, toPy (usD W), toPy (usD W), dv_dp hpu (htB g), dv_dp hpu ((htold g).keep (Kv.of (s8.trans s9))), hshp, hshp, _, rfl, ifF (by rw [eqv_self hpu]; rfl) ?_⟩
  have s29 := s24.trans s49
  have S9 := S2.keep s29
  have X9 := X2.ext s29
  have hvw9 : ∀ g', DV g' H9 (.ref b0) (wbD W) := fun g' => (hvw4 g').keep (Kv.of s49)
  clear hT1 htB htold hdue hws eD5 edt
  refine ⟨3, rfl, by decide, by decide, ?_⟩
  refine for_it (walk_range (lo := 0) (n := (3 : Int).toNat)) (fun i σ H' => ∃ (v7 v8 : Option V), σ = [some (.ref a), some (.ref d), some (.ref b0), some (.ref rd), some (.ref ud), some (.ref dt), some (.ref tA), v7, v8, none, none, none] ∧ StA H' d g c (0 + 1000 + 20 * i) ∧ (∀ g', DV g' H' (.ref b0) (wbD W)) ∧ Tabs (tbs T1) H')
    ⟨_, _, rfl, S9, hvw9, X9⟩ (fun _ _ _ _ _ => trivial) ?_ ?_
  · rintro i x σ H5' H5z hi ⟨v7, v8, rfl, S5, hvw5, X5⟩ ⟨rfl, rfl⟩
    have hi : i < 3 := hi
    refine ⟨_, rfl, _, rfl, d, g, c, _, .ref b0, wbD W, rfl, S5, by omega, hvw5 g, wb_pur W, wb_okB okw hW.e, fun u du Ha Sa kpa hu => ?_⟩
    have Xa := tabs_kp X5 S5 kpa
    have hvwa : ∀ g', DV g' Ha (.ref b0) (wbD W) := fun g' => (hvw5 g').keepP (Kv.kp S5 kpa).tup (wb_pur W)
    refine ⟨_, rfl, g, u, du, rfl, hu, fun Hb sb => ⟨_, rfl, ?_⟩⟩
    refine ⟨_, rfl, g, u, du, rfl, hu.keep (Kv.of sb), fun Hc sc => ⟨_, rfl, rfl, _, rfl, ifF (by rw [decide_eq_true rfl]; rfl) ?_⟩⟩
    have sac := sb.trans sc
    refine ⟨_, rfl, g, u, du, rfl, hu.keep (Kv.of sac), fun Hd sd => ⟨_, rfl, ?_⟩⟩
    have sad := sac.trans sd
    cases hwu : webB du with
    | true =>
      exact ifF rfl (ifF rfl ⟨_, _, rfl, (Sa.keep sad).mono (by omega), (fun g' => (hvwa g').keep (Kv.of sad)), Xa.ext sad⟩)
    | false =>
    refine ifT rfl ⟨Xa.ext sad, fun He ee Xe => ?_⟩
    have Se := (Sa.keep sad).extN ee
    refine ⟨_, rfl, g, u, du, rfl, (hu.keep (Kv.of sad)).keep (Kv.extN ee), (fun _ Hf sf => ⟨true, E1.exm, fun _ b hb => ?_, fun z => nomatch z⟩), fun W' e ok' => ?_⟩
    · generalize hHg : upd Hf b _ = Hg
      obtain ⟨sg, eg⟩ := freshF hb hHg
      have seg := sf.trans sg
      refine ⟨b, _, _, true, rfl, (fun u h => h), eg, kit_self, _, rfl, ifF rfl ?_⟩
      exact ⟨_, _, rfl, (Se.keep seg).mono (by omega), (fun g' => (((hvwa g').keep (Kv.of sad)).keep (Kv.extN ee)).keep (Kv.of seg)), Xe.ext seg⟩
    · subst e
      rw [wb_ok ok'] at hwu
      cases hwu
  rintro σ H5' ⟨v7, v8, rfl, S5, hvw5, X5⟩
  obtain ⟨b0', c0', xn', eb00, eb05, ec05, rn5⟩ := wb_at (hvw5 g)
  obtain rfl := V.ref.inj eb00
  -- is_web(value = list(web))
  refine ⟨_, rfl, b0, _, rfl, .inr (SqT.of eb05), fun lq hlq => ?_⟩
  generalize hHa : upd H5' lq _ = Ha
  obtain ⟨slq, elq⟩ := freshF hlq hHa
  have nlg := (S5.free hlq).2.1
  refine ⟨g, .ref lq, .lst [.int W.lb, .tup (W.ns.map ntD)], rfl, .lst elq nlg (by show 2 ≤ 20000; decide) (.cons (.int _) (.cons (.tup (slq _ _ ec05) (by rw [List.length_map]; omega) (rn5.keep (Kv.of slq))) .nil)), fun Hb sb => ?_⟩
  refine ⟨false, false, rfl, rfl, _, rfl, ifF rfl ?_⟩
  -- is_web(web + (0,))
  refine ⟨_, rfl, (by show 1 ≤ sizeLine; decide), fun t ht => ?_⟩
  generalize hHc : upd Hb t _ = Hc
  obtain ⟨st, et⟩ := freshF ht hHc
  have s5c := slq.trans (sb.trans st)
  refine catA_of (s5c _ _ eb05) et (by show 2 + 1 ≤ sizeLine; decide) fun r Hd sd er => ?_
  have s5d := s5c.trans sd
  refine ⟨g, .ref r, .tup [.int W.lb, .tup (W.ns.map ntD), .int 0], rfl, .tup er (by show 3 ≤ 20000; decide) (.cons (.int _) (.cons (.tup (s5d _ _ ec05) (by rw [List.length_map]; omega) (rn5.keep (Kv.of s5d))) (.cons (.int _) .nil))), fun He se => ?_⟩
  refine ⟨false, false, rfl, rfl, _, rfl, ifF rfl ?_⟩
  have S6 := S5.keep (s5d.trans se)
  refine ⟨_, rfl, d, g, c, _, 3, rfl, S6, by omega, by decide, by decide, fun u Hf u0 u1 Sf kf => ⟨_, _, rfl, rfl, _, rfl, ?_⟩⟩
  by_cases hu0 : 0 < u
  · exact ifT (decide_eq_true hu0) rfl
  · exact ifF (decide_eq_false hu0) ⟨_, rfl, d, g, c, _, rfl, Sf, by omega, fun H' => rfl⟩
end

end K65

set_option Elab.async false
set_option linter.all false
set_option pp.maxSteps 900
set_option maxRecDepth 100000
set_option maxHeartbeats 8000000
namespace K65
open PySem PySem.Spec PyProof.Rows L2
open LamX (GivesTo CodeO Tabs TabS TabB tLam pe_lamcall lamCx lamEnv lamS_by ExtN)
open TL (tl)
theorem exm_of {K : PySem.W.Frag} {S B : Addr} (h1 : PySem.W.subIn K (.ref B) (.type "BaseException") = some true) (h2 : PySem.W.isClsIn K B = true) (h3 : PySem.W.typeIn K (.ref B) = some (.type "type")) (h4 : PySem.W.subIn K (.ref S) (.ref B) = some true) :
    PySem.W.exmOne K (.ref S) (.ref B) = some true := by
  have e1 : (PySem.W.subIn K (.ref B) (.type "BaseException") == some true) = true := by rw [h1] <;> rfl
  have e2 : ((PySem.W.clsIn K B).isSome && PySem.W.typeIn K (.ref B) == some (.type "type")) = true := by
    have h2' : (PySem.W.clsIn K B).isSome = true := h2
    rw [h2', h3] <;> rfl
  show (if (PySem.W.subIn K (.ref B) (.type "BaseException") == some true) = true then (if ((PySem.W.clsIn K B).isSome && PySem.W.typeIn K (.ref B) == some (.type "type")) = true then PySem.W.subIn K (.ref S) (.ref B) else none) else none) = some true
  rw [if_pos e1, if_pos e2]
  exact h4
def valStr : Value → Option Str
  | .str s _ => some s
  | _ => none
theorem vals_of : ∀ {us : List Value} {ss : List Str}, us.map valStr = ss.map some → Vals (ss.map V.str) us
  | [], [], _ => .nil
  | [], _ :: _, h => by cases h
  | _ :: _, [], h => by cases h
  | u :: us, s :: ss, h => by
    injection h with h1 h2
    refine .cons ?_ (vals_of h2)
    cases u with
    | str x t =>
      obtain rfl := Option.some.inj h1
      exact ⟨_, rfl⟩
    | _ => cases h1
theorem all_mk {l : PySem.W.OpenLaw} {w : World} {K : PySem.W.Frag} {h : Heap} {mg : Str → Option Value} {fa CE E1 CED CHT cL T1 : Addr} (X : K.In h) (G : h.Ns mainGlobals mg) (hfa : mg "law" = some (.ref fa))
    {f1 : Addr} {od1 an1 : Option Addr} {sl1 : Array (Option Value)} {oc1 kV1 dc1 pm1 cd1 ct1 : Value}
    {f2 : Addr} {od2 an2 : Option Addr} {sl2 : Array (Option Value)} {oc2 kV2 dc2 pm2 cd2 ct2 : Value}
    {f3 : Addr} {od3 an3 : Option Addr} {sl3 : Array (Option Value)} {oc3 kV3 dc3 pm3 cd3 ct3 : Value}
    {f4 : Addr} {od4 an4 : Option Addr} {sl4 : Array (Option Value)} {oc4 kV4 dc4 pm4 cd4 ct4 : Value}
    {f5 : Addr} {od5 an5 : Option Addr} {sl5 : Array (Option Value)} {oc5 kV5 dc5 pm5 cd5 ct5 : Value}
    {f6 : Addr} {od6 an6 : Option Addr} {sl6 : Array (Option Value)} {oc6 kV6 dc6 pm6 cd6 ct6 : Value}
    {f7 : Addr} {od7 an7 : Option Addr} {sl7 : Array (Option Value)} {oc7 kV7 dc7 pm7 cd7 ct7 : Value}
    {f8 : Addr} {od8 an8 : Option Addr} {sl8 : Array (Option Value)} {oc8 kV8 dc8 pm8 cd8 ct8 : Value}
    {f9 : Addr} {od9 an9 : Option Addr} {sl9 : Array (Option Value)} {oc9 kV9 dc9 pm9 cd9 ct9 : Value}
    {f10 : Addr} {od10 an10 : Option Addr} {sl10 : Array (Option Value)} {oc10 kV10 dc10 pm10 cd10 ct10 : Value}
    {f11 : Addr} {od11 an11 : Option Addr} {sl11 : Array (Option Value)} {oc11 kV11 dc11 pm11 cd11 ct11 : Value}
    {f12 : Addr} {od12 an12 : Option Addr} {sl12 : Array (Option Value)} {oc12 kV12 dc12 pm12 cd12 ct12 : Value}
    {f13 : Addr} {od13 an13 : Option Addr} {sl13 : Array (Option Value)} {oc13 kV13 dc13 pm13 cd13 ct13 : Value}
    {f14 : Addr} {od14 an14 : Option Addr} {sl14 : Array (Option Value)} {oc14 kV14 dc14 pm14 cd14 ct14 : Value}
    {f15 : Addr} {od15 an15 : Option Addr} {sl15 : Array (Option Value)} {oc15 kV15 dc15 pm15 cd15 ct15 : Value}
    {f16 : Addr} {od16 an16 : Option Addr} {sl16 : Array (Option Value)} {oc16 kV16 dc16 pm16 cd16 ct16 : Value}
    {f17 : Addr} {od17 an17 : Option Addr} {sl17 : Array (Option Value)} {oc17 kV17 dc17 pm17 cd17 ct17 : Value}
    {f18 : Addr} {od18 an18 : Option Addr} {sl18 : Array (Option Value)} {oc18 kV18 dc18 pm18 cd18 ct18 : Value}
    {f19 : Addr} {od19 an19 : Option Addr} {sl19 : Array (Option Value)} {oc19 kV19 dc19 pm19 cd19 ct19 : Value}
    {f20 : Addr} {od20 an20 : Option Addr} {sl20 : Array (Option Value)} {oc20 kV20 dc20 pm20 cd20 ct20 : Value}
    {f21 : Addr} {od21 an21 : Option Addr} {sl21 : Array (Option Value)} {oc21 kV21 dc21 pm21 cd21 ct21 : Value}
    {f22 : Addr} {od22 an22 : Option Addr} {sl22 : Array (Option Value)} {oc22 kV22 dc22 pm22 cd22 ct22 : Value}
    {f23 : Addr} {od23 an23 : Option Addr} {sl23 : Array (Option Value)} {oc23 kV23 dc23 pm23 cd23 ct23 : Value}
    {f24 : Addr} {od24 an24 : Option Addr} {sl24 : Array (Option Value)} {oc24 kV24 dc24 pm24 cd24 ct24 : Value}
    {f25 : Addr} {od25 an25 : Option Addr} {sl25 : Array (Option Value)} {oc25 kV25 dc25 pm25 cd25 ct25 : Value}
    {f26 : Addr} {od26 an26 : Option Addr} {sl26 : Array (Option Value)} {oc26 kV26 dc26 pm26 cd26 ct26 : Value}
    {f27 : Addr} {od27 an27 : Option Addr} {sl27 : Array (Option Value)} {oc27 kV27 dc27 pm27 cd27 ct27 : Value}
    {f28 : Addr} {od28 an28 : Option Addr} {sl28 : Array (Option Value)} {oc28 kV28 dc28 pm28 cd28 ct28 : Value}
    {f29 : Addr} {od29 an29 : Option Addr} {sl29 : Array (Option Value)} {oc29 kV29 dc29 pm29 cd29 ct29 : Value}
    {f30 : Addr} {od30 an30 : Option Addr} {sl30 : Array (Option Value)} {oc30 kV30 dc30 pm30 cd30 ct30 : Value}
    {f31 : Addr} {od31 an31 : Option Addr} {sl31 : Array (Option Value)} {oc31 kV31 dc31 pm31 cd31 ct31 : Value}
    {f32 : Addr} {od32 an32 : Option Addr} {sl32 : Array (Option Value)} {oc32 kV32 dc32 pm32 cd32 ct32 : Value}
    {f33 : Addr} {od33 an33 : Option Addr} {sl33 : Array (Option Value)} {oc33 kV33 dc33 pm33 cd33 ct33 : Value}
    {f34 : Addr} {od34 an34 : Option Addr} {sl34 : Array (Option Value)} {oc34 kV34 dc34 pm34 cd34 ct34 : Value}
    {f35 : Addr} {od35 an35 : Option Addr} {sl35 : Array (Option Value)} {oc35 kV35 dc35 pm35 cd35 ct35 : Value}
    {f36 : Addr} {od36 an36 : Option Addr} {sl36 : Array (Option Value)} {oc36 kV36 dc36 pm36 cd36 ct36 : Value}
    {f37 : Addr} {od37 an37 : Option Addr} {sl37 : Array (Option Value)} {oc37 kV37 dc37 pm37 cd37 ct37 : Value}
    {f38 : Addr} {od38 an38 : Option Addr} {sl38 : Array (Option Value)} {oc38 kV38 dc38 pm38 ct38 : Value}
    {x_MOST_BEATS : Int} {t_MOST_BEATS : PySem.Tok}
    {x_MOST_EDGE_LABELS : Int} {t_MOST_EDGE_LABELS : PySem.Tok}
    {x_MOST_LABELS : Int} {t_MOST_LABELS : PySem.Tok}
    {x_MOST_NETS : Int} {t_MOST_NETS : PySem.Tok}
    {x_MOST_PLACES : Int} {t_MOST_PLACES : PySem.Tok}
    {x_MOST_EDGES : Int} {t_MOST_EDGES : PySem.Tok}
    (a1 : PySem.W.nsIn K mainGlobals "_law_mixed" = some (some (.ref f1)))
    (l1 : K.lookup f1 = some ⟨oc1, od1, .func (PySem.W.fnOf "_law_mixed" "_law_mixed" (defArgs sMix) (defBody sMix) (defScope sMix) .none kV1 dc1 pm1 an1 cd1 ct1), sl1⟩)
    (c1 : PySem.W.codeIn K cd1 "_law_mixed" = true)
    (k1 : PySem.W.keepIn K (.ref f1) = true)
    (a2 : PySem.W.nsIn K mainGlobals "_law_draw" = some (some (.ref f2)))
    (l2 : K.lookup f2 = some ⟨oc2, od2, .func (PySem.W.fnOf "_law_draw" "_law_draw" (defArgs sDrw) (defBody sDrw) (defScope sDrw) .none kV2 dc2 pm2 an2 cd2 ct2), sl2⟩)
    (c2 : PySem.W.codeIn K cd2 "_law_draw" = true)
    (k2 : PySem.W.keepIn K (.ref f2) = true)
    (a3 : PySem.W.nsIn K mainGlobals "_law_pick" = some (some (.ref f3)))
    (l3 : K.lookup f3 = some ⟨oc3, od3, .func (PySem.W.fnOf "_law_pick" "_law_pick" (defArgs sPck) (defBody sPck) (defScope sPck) .none kV3 dc3 pm3 an3 cd3 ct3), sl3⟩)
    (c3 : PySem.W.codeIn K cd3 "_law_pick" = true)
    (k3 : PySem.W.keepIn K (.ref f3) = true)
    (a4 : PySem.W.nsIn K mainGlobals "_law_begun" = some (some (.ref f4)))
    (l4 : K.lookup f4 = some ⟨oc4, od4, .func (PySem.W.fnOf "_law_begun" "_law_begun" (defArgs sBeg) (defBody sBeg) (defScope sBeg) .none kV4 dc4 pm4 an4 cd4 ct4), sl4⟩)
    (c4 : PySem.W.codeIn K cd4 "_law_begun" = true)
    (k4 : PySem.W.keepIn K (.ref f4) = true)
    (a5 : PySem.W.nsIn K mainGlobals "is_whole" = some (some (.ref f5)))
    (l5 : K.lookup f5 = some ⟨oc5, od5, .func (PySem.W.fnOf "is_whole" "is_whole" (defArgs sWhl) (defBody sWhl) (defScope sWhl) .none kV5 dc5 pm5 an5 cd5 ct5), sl5⟩)
    (c5 : PySem.W.codeIn K cd5 "is_whole" = true)
    (k5 : PySem.W.keepIn K (.ref f5) = true)
    (a6 : PySem.W.nsIn K mainGlobals "is_within" = some (some (.ref f6)))
    (l6 : K.lookup f6 = some ⟨oc6, od6, .func (PySem.W.fnOf "is_within" "is_within" (defArgs sWin) (defBody sWin) (defScope sWin) .none kV6 dc6 pm6 an6 cd6 ct6), sl6⟩)
    (c6 : PySem.W.codeIn K cd6 "is_within" = true)
    (k6 : PySem.W.keepIn K (.ref f6) = true)
    (a7 : PySem.W.nsIn K mainGlobals "is_tuple_of" = some (some (.ref f7)))
    (l7 : K.lookup f7 = some ⟨oc7, od7, .func (PySem.W.fnOf "is_tuple_of" "is_tuple_of" (defArgs sTof) (defBody sTof) (defScope sTof) .none kV7 dc7 pm7 an7 cd7 ct7), sl7⟩)
    (c7 : PySem.W.codeIn K cd7 "is_tuple_of" = true)
    (k7 : PySem.W.keepIn K (.ref f7) = true)
    (a8 : PySem.W.nsIn K mainGlobals "is_tuple_within" = some (some (.ref f8)))
    (l8 : K.lookup f8 = some ⟨oc8, od8, .func (PySem.W.fnOf "is_tuple_within" "is_tuple_within" (defArgs sTin) (defBody sTin) (defScope sTin) .none kV8 dc8 pm8 an8 cd8 ct8), sl8⟩)
    (c8 : PySem.W.codeIn K cd8 "is_tuple_within" = true)
    (k8 : PySem.W.keepIn K (.ref f8) = true)
    (a9 : PySem.W.nsIn K mainGlobals "_is_head" = some (some (.ref f9)))
    (l9 : K.lookup f9 = some ⟨oc9, od9, .func (PySem.W.fnOf "_is_head" "_is_head" (defArgs sHd) (defBody sHd) (defScope sHd) .none kV9 dc9 pm9 an9 cd9 ct9), sl9⟩)
    (c9 : PySem.W.codeIn K cd9 "_is_head" = true)
    (k9 : PySem.W.keepIn K (.ref f9) = true)
    (a10 : PySem.W.nsIn K mainGlobals "_is_edge" = some (some (.ref f10)))
    (l10 : K.lookup f10 = some ⟨oc10, od10, .func (PySem.W.fnOf "_is_edge" "_is_edge" (defArgs sEd) (defBody sEd) (defScope sEd) .none kV10 dc10 pm10 an10 cd10 ct10), sl10⟩)
    (c10 : PySem.W.codeIn K cd10 "_is_edge" = true)
    (k10 : PySem.W.keepIn K (.ref f10) = true)
    (a11 : PySem.W.nsIn K mainGlobals "is_web" = some (some (.ref f11)))
    (l11 : K.lookup f11 = some ⟨oc11, od11, .func (PySem.W.fnOf "is_web" "is_web" (defArgs sWeb) (defBody sWeb) (defScope sWeb) .none kV11 dc11 pm11 an11 cd11 ct11), sl11⟩)
    (c11 : PySem.W.codeIn K cd11 "is_web" = true)
    (k11 : PySem.W.keepIn K (.ref f11) = true)
    (a12 : PySem.W.nsIn K mainGlobals "need_web" = some (some (.ref f12)))
    (l12 : K.lookup f12 = some ⟨oc12, od12, .func (PySem.W.fnOf "need_web" "need_web" (defArgs sNeed) (defBody sNeed) (defScope sNeed) .none kV12 dc12 pm12 an12 cd12 ct12), sl12⟩)
    (c12 : PySem.W.codeIn K cd12 "need_web" = true)
    (k12 : PySem.W.keepIn K (.ref f12) = true)
    (a13 : PySem.W.nsIn K mainGlobals "_law_shuffled" = some (some (.ref f13)))
    (l13 : K.lookup f13 = some ⟨oc13, od13, .func (PySem.W.fnOf "_law_shuffled" "_law_shuffled" (defArgs sShf) (defBody sShf) (defScope sShf) .none kV13 dc13 pm13 an13 cd13 ct13), sl13⟩)
    (c13 : PySem.W.codeIn K cd13 "_law_shuffled" = true)
    (k13 : PySem.W.keepIn K (.ref f13) = true)
    (a14 : PySem.W.nsIn K mainGlobals "_law_wb_edge" = some (some (.ref f14)))
    (l14 : K.lookup f14 = some ⟨oc14, od14, .func (PySem.W.fnOf "_law_wb_edge" "_law_wb_edge" (defArgs sWE) (defBody sWE) (defScope sWE) .none kV14 dc14 pm14 an14 cd14 ct14), sl14⟩)
    (c14 : PySem.W.codeIn K cd14 "_law_wb_edge" = true)
    (k14 : PySem.W.keepIn K (.ref f14) = true)
    (a15 : PySem.W.nsIn K mainGlobals "_law_wb_net" = some (some (.ref f15)))
    (l15 : K.lookup f15 = some ⟨oc15, od15, .func (PySem.W.fnOf "_law_wb_net" "_law_wb_net" (defArgs sWN) (defBody sWN) (defScope sWN) .none kV15 dc15 pm15 an15 cd15 ct15), sl15⟩)
    (c15 : PySem.W.codeIn K cd15 "_law_wb_net" = true)
    (k15 : PySem.W.keepIn K (.ref f15) = true)
    (a16 : PySem.W.nsIn K mainGlobals "_law_wb_web" = some (some (.ref f16)))
    (l16 : K.lookup f16 = some ⟨oc16, od16, .func (PySem.W.fnOf "_law_wb_web" "_law_wb_web" (defArgs sWW) (defBody sWW) (defScope sWW) .none kV16 dc16 pm16 an16 cd16 ct16), sl16⟩)
    (c16 : PySem.W.codeIn K cd16 "_law_wb_web" = true)
    (k16 : PySem.W.keepIn K (.ref f16) = true)
    (a17 : PySem.W.nsIn K mainGlobals "_law_wb_sum" = some (some (.ref f17)))
    (l17 : K.lookup f17 = some ⟨oc17, od17, .func (PySem.W.fnOf "_law_wb_sum" "_law_wb_sum" (defArgs sSum) (defBody sSum) (defScope sSum) .none kV17 dc17 pm17 an17 cd17 ct17), sl17⟩)
    (c17 : PySem.W.codeIn K cd17 "_law_wb_sum" = true)
    (k17 : PySem.W.keepIn K (.ref f17) = true)
    (a18 : PySem.W.nsIn K mainGlobals "_law_wb_own" = some (some (.ref f18)))
    (l18 : K.lookup f18 = some ⟨oc18, od18, .func (PySem.W.fnOf "_law_wb_own" "_law_wb_own" (defArgs sOwn) (defBody sOwn) (defScope sOwn) .none kV18 dc18 pm18 an18 cd18 ct18), sl18⟩)
    (c18 : PySem.W.codeIn K cd18 "_law_wb_own" = true)
    (k18 : PySem.W.keepIn K (.ref f18) = true)
    (a19 : PySem.W.nsIn K mainGlobals "_law_wb_roads" = some (some (.ref f19)))
    (l19 : K.lookup f19 = some ⟨oc19, od19, .func (PySem.W.fnOf "_law_wb_roads" "_law_wb_roads" (defArgs sRd) (defBody sRd) (defScope sRd) .none kV19 dc19 pm19 an19 cd19 ct19), sl19⟩)
    (c19 : PySem.W.codeIn K cd19 "_law_wb_roads" = true)
    (k19 : PySem.W.keepIn K (.ref f19) = true)
    (a20 : PySem.W.findIn K (.ref CED) "__init__" = some (some (.ref f20)))
    (l20 : K.lookup f20 = some ⟨oc20, od20, .func (PySem.W.fnOf "__init__" "Edge.__init__" (defArgs sEI) (defBody sEI) (defScope sEI) .none kV20 dc20 pm20 an20 cd20 ct20), sl20⟩)
    (c20 : PySem.W.codeIn K cd20 "Edge.__init__" = true)
    (k20 : PySem.W.keepIn K (.ref f20) = true)
    (a21 : PySem.W.findIn K (.ref CED) "spots_needed" = some (some (.ref f21)))
    (l21 : K.lookup f21 = some ⟨oc21, od21, .func (PySem.W.fnOf "spots_needed" "Edge.spots_needed" (defArgs sSN) (defBody sSN) (defScope sSN) .none kV21 dc21 pm21 an21 cd21 ct21), sl21⟩)
    (c21 : PySem.W.codeIn K cd21 "Edge.spots_needed" = true)
    (k21 : PySem.W.keepIn K (.ref f21) = true)
    (a22 : PySem.W.findIn K (.ref CHT) "is_useful" = some (some (.ref f22)))
    (l22 : K.lookup f22 = some ⟨oc22, od22, .func (PySem.W.fnOf "is_useful" "Chart.is_useful" (defArgs sIU) (defBody sIU) (defScope sIU) .none kV22 dc22 pm22 an22 cd22 ct22), sl22⟩)
    (c22 : PySem.W.codeIn K cd22 "Chart.is_useful" = true)
    (k22 : PySem.W.keepIn K (.ref f22) = true)
    (a23 : PySem.W.findIn K (.ref CHT) "is_finished" = some (some (.ref f23)))
    (l23 : K.lookup f23 = some ⟨oc23, od23, .func (PySem.W.fnOf "is_finished" "Chart.is_finished" (defArgs sIF) (defBody sIF) (defScope sIF) .none kV23 dc23 pm23 an23 cd23 ct23), sl23⟩)
    (c23 : PySem.W.codeIn K cd23 "Chart.is_finished" = true)
    (k23 : PySem.W.keepIn K (.ref f23) = true)
    (a24 : PySem.W.findIn K (.ref CHT) "is_open" = some (some (.ref f24)))
    (l24 : K.lookup f24 = some ⟨oc24, od24, .func (PySem.W.fnOf "is_open" "Chart.is_open" (defArgs sIO) (defBody sIO) (defScope sIO) .none kV24 dc24 pm24 an24 cd24 ct24), sl24⟩)
    (c24 : PySem.W.codeIn K cd24 "Chart.is_open" = true)
    (k24 : PySem.W.keepIn K (.ref f24) = true)
    (a25 : PySem.W.findIn K (.ref CHT) "finish" = some (some (.ref f25)))
    (l25 : K.lookup f25 = some ⟨oc25, od25, .func (PySem.W.fnOf "finish" "Chart.finish" (defArgs sFi) (defBody sFi) (defScope sFi) .none kV25 dc25 pm25 an25 cd25 ct25), sl25⟩)
    (c25 : PySem.W.codeIn K cd25 "Chart.finish" = true)
    (k25 : PySem.W.keepIn K (.ref f25) = true)
    (a26 : PySem.W.findIn K (.ref CHT) "reach" = some (some (.ref f26)))
    (l26 : K.lookup f26 = some ⟨oc26, od26, .func (PySem.W.fnOf "reach" "Chart.reach" (defArgs sRe) (defBody sRe) (defScope sRe) .none kV26 dc26 pm26 an26 cd26 ct26), sl26⟩)
    (c26 : PySem.W.codeIn K cd26 "Chart.reach" = true)
    (k26 : PySem.W.keepIn K (.ref f26) = true)
    (a27 : PySem.W.findIn K (.ref CHT) "__init__" = some (some (.ref f27)))
    (l27 : K.lookup f27 = some ⟨oc27, od27, .func (PySem.W.fnOf "__init__" "Chart.__init__" (defArgs sCI) (defBody sCI) (defScope sCI) .none kV27 dc27 pm27 an27 cd27 ct27), sl27⟩)
    (c27 : PySem.W.codeIn K cd27 "Chart.__init__" = true)
    (k27 : PySem.W.keepIn K (.ref f27) = true)
    (a28 : PySem.W.nsIn K mainGlobals "useful" = some (some (.ref f28)))
    (l28 : K.lookup f28 = some ⟨oc28, od28, .func (PySem.W.fnOf "useful" "useful" (defArgs sUs) (defBody sUs) (defScope sUs) .none kV28 dc28 pm28 an28 cd28 ct28), sl28⟩)
    (c28 : PySem.W.codeIn K cd28 "useful" = true)
    (k28 : PySem.W.keepIn K (.ref f28) = true)
    (a29 : PySem.W.nsIn K mainGlobals "_law_between" = some (some (.ref f29)))
    (l29 : K.lookup f29 = some ⟨oc29, od29, .func (PySem.W.fnOf "_law_between" "_law_between" (defArgs sBe) (defBody sBe) (defScope sBe) .none kV29 dc29 pm29 an29 cd29 ct29), sl29⟩)
    (c29 : PySem.W.codeIn K cd29 "_law_between" = true)
    (k29 : PySem.W.keepIn K (.ref f29) = true)
    (a30 : PySem.W.nsIn K mainGlobals "_law_edge_right" = some (some (.ref f30)))
    (l30 : K.lookup f30 = some ⟨oc30, od30, .func (PySem.W.fnOf "_law_edge_right" "_law_edge_right" (defArgs sER) (defBody sER) (defScope sER) .none kV30 dc30 pm30 an30 cd30 ct30), sl30⟩)
    (c30 : PySem.W.codeIn K cd30 "_law_edge_right" = true)
    (k30 : PySem.W.keepIn K (.ref f30) = true)
    (a31 : PySem.W.nsIn K mainGlobals "_law_web_right" = some (some (.ref f31)))
    (l31 : K.lookup f31 = some ⟨oc31, od31, .func (PySem.W.fnOf "_law_web_right" "_law_web_right" (defArgs sWR) (defBody sWR) (defScope sWR) .none kV31 dc31 pm31 an31 cd31 ct31), sl31⟩)
    (c31 : PySem.W.codeIn K cd31 "_law_web_right" = true)
    (k31 : PySem.W.keepIn K (.ref f31) = true)
    (a32 : PySem.W.nsIn K mainGlobals "_law_wb_going" = some (some (.ref f32)))
    (l32 : K.lookup f32 = some ⟨oc32, od32, .func (PySem.W.fnOf "_law_wb_going" "_law_wb_going" (defArgs sGo) (defBody sGo) (defScope sGo) .none kV32 dc32 pm32 an32 cd32 ct32), sl32⟩)
    (c32 : PySem.W.codeIn K cd32 "_law_wb_going" = true)
    (k32 : PySem.W.keepIn K (.ref f32) = true)
    (a33 : PySem.W.nsIn K mainGlobals "_law_wb_used" = some (some (.ref f33)))
    (l33 : K.lookup f33 = some ⟨oc33, od33, .func (PySem.W.fnOf "_law_wb_used" "_law_wb_used" (defArgs sUd) (defBody sUd) (defScope sUd) .none kV33 dc33 pm33 an33 cd33 ct33), sl33⟩)
    (c33 : PySem.W.codeIn K cd33 "_law_wb_used" = true)
    (k33 : PySem.W.keepIn K (.ref f33) = true)
    (a34 : PySem.W.nsIn K mainGlobals "_law_strange" = some (some (.ref f34)))
    (l34 : K.lookup f34 = some ⟨oc34, od34, .func (PySem.W.fnOf "_law_strange" "_law_strange" (defArgs sSg) (defBody sSg) (defScope sSg) .none kV34 dc34 pm34 an34 cd34 ct34), sl34⟩)
    (c34 : PySem.W.codeIn K cd34 "_law_strange" = true)
    (k34 : PySem.W.keepIn K (.ref f34) = true)
    (a35 : PySem.W.nsIn K mainGlobals "_law_bent" = some (some (.ref f35)))
    (l35 : K.lookup f35 = some ⟨oc35, od35, .func (PySem.W.fnOf "_law_bent" "_law_bent" (defArgs sBn) (defBody sBn) (defScope sBn) .none kV35 dc35 pm35 an35 cd35 ct35), sl35⟩)
    (c35 : PySem.W.codeIn K cd35 "_law_bent" = true)
    (k35 : PySem.W.keepIn K (.ref f35) = true)
    (a36 : PySem.W.nsIn K mainGlobals "_law_bounds_right" = some (some (.ref f36)))
    (l36 : K.lookup f36 = some ⟨oc36, od36, .func (PySem.W.fnOf "_law_bounds_right" "_law_bounds_right" (defArgs sBR) (defBody sBR) (defScope sBR) .none kV36 dc36 pm36 an36 cd36 ct36), sl36⟩)
    (c36 : PySem.W.codeIn K cd36 "_law_bounds_right" = true)
    (k36 : PySem.W.keepIn K (.ref f36) = true)
    (a37 : PySem.W.nsIn K mainGlobals "_law_caught" = some (some (.ref f37)))
    (l37 : K.lookup f37 = some ⟨oc37, od37, .func (PySem.W.fnOf "_law_caught" "_law_caught" (defArgs sCgt) (defBody sCgt) (defScope sCgt) .none kV37 dc37 pm37 an37 cd37 ct37), sl37⟩)
    (c37 : PySem.W.codeIn K cd37 "_law_caught" = true)
    (k37 : PySem.W.keepIn K (.ref f37) = true)
    (a38 : PySem.W.nsIn K mainGlobals "law" = some (some (.ref f38)))
    (l38 : K.lookup f38 = some ⟨oc38, od38, .func (PySem.W.fnOf "law" "law" (defArgs sLaw) (defBody sLaw) (defScope sLaw) .none kV38 dc38 pm38 an38 (.ref cL) ct38), sl38⟩)
    (c38 : PySem.W.codeIn K (.ref cL) "law" = true)
    (k38 : PySem.W.keepIn K (.ref f38) = true)
    (z_isinstance : PySem.W.nsIn K mainGlobals "isinstance" = some none)
    (z_len : PySem.W.nsIn K mainGlobals "len" = some none)
    (z_str : PySem.W.nsIn K mainGlobals "str" = some none)
    (z_int : PySem.W.nsIn K mainGlobals "int" = some none)
    (z_bool : PySem.W.nsIn K mainGlobals "bool" = some none)
    (z_tuple : PySem.W.nsIn K mainGlobals "tuple" = some none)
    (z_list : PySem.W.nsIn K mainGlobals "list" = some none)
    (z_all : PySem.W.nsIn K mainGlobals "all" = some none)
    (z_range : PySem.W.nsIn K mainGlobals "range" = some none)
    (z_min : PySem.W.nsIn K mainGlobals "min" = some none)
    (z_zip : PySem.W.nsIn K mainGlobals "zip" = some none)
    (z_enumerate : PySem.W.nsIn K mainGlobals "enumerate" = some none)
    (z_abs : PySem.W.nsIn K mainGlobals "abs" = some none)
    (z_sum : PySem.W.nsIn K mainGlobals "sum" = some none)
    (z_repr : PySem.W.nsIn K mainGlobals "repr" = some none)
    (v_MOST_BEATS : PySem.W.nsIn K mainGlobals "MOST_BEATS" = some (some (.int x_MOST_BEATS t_MOST_BEATS)))
    (e_MOST_BEATS : x_MOST_BEATS = 1000000000)
    (v_MOST_EDGE_LABELS : PySem.W.nsIn K mainGlobals "MOST_EDGE_LABELS" = some (some (.int x_MOST_EDGE_LABELS t_MOST_EDGE_LABELS)))
    (e_MOST_EDGE_LABELS : x_MOST_EDGE_LABELS = 8)
    (v_MOST_LABELS : PySem.W.nsIn K mainGlobals "MOST_LABELS" = some (some (.int x_MOST_LABELS t_MOST_LABELS)))
    (e_MOST_LABELS : x_MOST_LABELS = 4000)
    (v_MOST_NETS : PySem.W.nsIn K mainGlobals "MOST_NETS" = some (some (.int x_MOST_NETS t_MOST_NETS)))
    (e_MOST_NETS : x_MOST_NETS = 400)
    (v_MOST_PLACES : PySem.W.nsIn K mainGlobals "MOST_PLACES" = some (some (.int x_MOST_PLACES t_MOST_PLACES)))
    (e_MOST_PLACES : x_MOST_PLACES = 4000)
    (v_MOST_EDGES : PySem.W.nsIn K mainGlobals "MOST_EDGES" = some (some (.int x_MOST_EDGES t_MOST_EDGES)))
    (e_MOST_EDGES : x_MOST_EDGES = 8000)
    (aCE : PySem.W.nsIn K mainGlobals "ClockError" = some (some (.ref CE)))
    (sE : PySem.W.subIn K (.ref CE) (.type "BaseException") = some true)
    (iE : PySem.W.isClsIn K CE = true)
    (tE : PySem.W.typeIn K (.ref CE) = some (.type "type"))
    (spO : PySem.W.specialIn K (.builtin "object.__class__") "__get__" = some (some (.builtin "getset_descriptor.__get__")))
    (tkO : PySem.W.takesIn K (.builtin "object.__class__") = some true)
    (aE1 : PySem.W.nsIn K mainGlobals "BadWeb" = some (some (.ref E1)))
    (kE1 : PySem.W.keepIn K (.ref E1) = true)
    (xE1 : PySem.W.excIn K E1 [.type "ValueError", .type "Exception", .type "BaseException", .type "object"] "ValueError.__new__" = true)
    (sBE1 : PySem.W.subIn K (.ref E1) (.type "BaseException") = some true)
    (tE1 : PySem.W.typeIn K (.ref E1) = some (.type "type"))
    (sEE1 : PySem.W.subIn K (.ref E1) (.ref CE) = some true)
    (gE1 : PySem.W.findIn K (.ref E1) "__getattribute__" = some (some (.builtin "BaseException.__getattribute__")))
    (ggE1 : PySem.W.findIn K (.ref E1) "__getattr__" = some none)
    (hdE1 : PySem.W.hasDictIn K E1 = true)
    (clE1 : PySem.W.findIn K (.ref E1) "__class__" = some (some (.builtin "object.__class__")))
    (mrE1 : PySem.W.mroIn K E1 (.type "object") = some true)
    (aCED : PySem.W.nsIn K mainGlobals "Edge" = some (some (.ref CED)))
    (kCED : PySem.W.keepIn K (.ref CED) = true)
    (pgCED : PySem.W.plainGet K CED Str.empty = true)
    (hdCED : PySem.W.hasDictIn K CED = true)
    (poCED : PySem.W.plainOver K CED = true)
    (saCED : PySem.W.findIn K (.ref CED) "__setattr__" = some (some (.builtin "object.__setattr__")))
    (mkCED : PySem.W.makesIn K CED = true)
    (n0CED : PySem.W.findIn K (.ref CED) "net" = some none)
    (n1CED : PySem.W.findIn K (.ref CED) "at" = some none)
    (n2CED : PySem.W.findIn K (.ref CED) "spot" = some none)
    (n3CED : PySem.W.findIn K (.ref CED) "goal" = some none)
    (n4CED : PySem.W.findIn K (.ref CED) "called" = some none)
    (n5CED : PySem.W.findIn K (.ref CED) "start" = some none)
    (n6CED : PySem.W.findIn K (.ref CED) "edge_beats" = some none)
    (n7CED : PySem.W.findIn K (.ref CED) "labels" = some none)
    (fn20 : PySem.W.isFn K (.ref f20) = true)
    (fn21 : PySem.W.isFn K (.ref f21) = true)
    (aCHT : PySem.W.nsIn K mainGlobals "Chart" = some (some (.ref CHT)))
    (kCHT : PySem.W.keepIn K (.ref CHT) = true)
    (pgCHT : PySem.W.plainGet K CHT Str.empty = true)
    (hdCHT : PySem.W.hasDictIn K CHT = true)
    (poCHT : PySem.W.plainOver K CHT = true)
    (saCHT : PySem.W.findIn K (.ref CHT) "__setattr__" = some (some (.builtin "object.__setattr__")))
    (mkCHT : PySem.W.makesIn K CHT = true)
    (n0CHT : PySem.W.findIn K (.ref CHT) "label_count" = some none)
    (n1CHT : PySem.W.findIn K (.ref CHT) "starts" = some none)
    (n2CHT : PySem.W.findIn K (.ref CHT) "ends" = some none)
    (n3CHT : PySem.W.findIn K (.ref CHT) "spot_count" = some none)
    (n4CHT : PySem.W.findIn K (.ref CHT) "edges" = some none)
    (n5CHT : PySem.W.findIn K (.ref CHT) "ends_at" = some none)
    (n6CHT : PySem.W.findIn K (.ref CHT) "choice" = some none)
    (n7CHT : PySem.W.findIn K (.ref CHT) "order" = some none)
    (n8CHT : PySem.W.findIn K (.ref CHT) "came" = some none)
    (n9CHT : PySem.W.findIn K (.ref CHT) "callers" = some none)
    (n10CHT : PySem.W.findIn K (.ref CHT) "used" = some none)
    (fn22 : PySem.W.isFn K (.ref f22) = true)
    (fn23 : PySem.W.isFn K (.ref f23) = true)
    (fn24 : PySem.W.isFn K (.ref f24) = true)
    (fn25 : PySem.W.isFn K (.ref f25) = true)
    (fn26 : PySem.W.isFn K (.ref f26) = true)
    (fn27 : PySem.W.isFn K (.ref f27) = true)
    (neCHTCED : CHT ≠ CED)
    (hdrT1 : PySem.W.codeHdIn K cL T1 = true)
    (npT1 : K.lookup T1 = none)
    (hTT1 : h.get? T1 = some { cls := .none, data := .fields #[] })
    : GD.LawG l w K 63 mg fa h := by
  have e := hfa.symm.trans (PySem.W.mg_of X G a38)
  cases e
  subst e_MOST_BEATS e_MOST_EDGE_LABELS e_MOST_LABELS e_MOST_NETS e_MOST_PLACES e_MOST_EDGES
  have F1 := fun_mk (st := sMix) l1 c1 k1
  have b1 := F1.binds (ps := ["state"]) fun _ _ _ _ _ _ us hl => match us, hl with | [_], _ => rfl
  have F2 := fun_mk (st := sDrw) l2 c2 k2
  have b2 := F2.binds (ps := ["state", "room"]) fun _ _ _ _ _ _ us hl => match us, hl with | [_, _], _ => rfl
  have F3 := fun_mk (st := sPck) l3 c3 k3
  have b3 := F3.binds (ps := ["state", "some"]) fun _ _ _ _ _ _ us hl => match us, hl with | [_, _], _ => rfl
  have F4 := fun_mk (st := sBeg) l4 c4 k4
  have b4 := F4.binds (ps := ["script"]) fun _ _ _ _ _ _ us hl => match us, hl with | [_], _ => rfl
  have F5 := fun_mk (st := sWhl) l5 c5 k5
  have b5 := F5.binds (ps := ["value"]) fun _ _ _ _ _ _ us hl => match us, hl with | [_], _ => rfl
  have F6 := fun_mk (st := sWin) l6 c6 k6
  have b6 := F6.binds (ps := ["value", "low", "high"]) fun _ _ _ _ _ _ us hl => match us, hl with | [_, _, _], _ => rfl
  have F7 := fun_mk (st := sTof) l7 c7 k7
  have b7 := F7.binds (ps := ["value", "many"]) fun _ _ _ _ _ _ us hl => match us, hl with | [_, _], _ => rfl
  have F8 := fun_mk (st := sTin) l8 c8 k8
  have b8 := F8.binds (ps := ["value", "low", "high"]) fun _ _ _ _ _ _ us hl => match us, hl with | [_, _, _], _ => rfl
  have F9 := fun_mk (st := sHd) l9 c9 k9
  have b9 := F9.binds (ps := ["value"]) fun _ _ _ _ _ _ us hl => match us, hl with | [_], _ => rfl
  have F10 := fun_mk (st := sEd) l10 c10 k10
  have b10 := F10.binds (ps := ["value", "places", "nets", "labels"]) fun _ _ _ _ _ _ us hl => match us, hl with | [_, _, _, _], _ => rfl
  have F11 := fun_mk (st := sWeb) l11 c11 k11
  have b11 := F11.binds (ps := ["value"]) fun _ _ _ _ _ _ us hl => match us, hl with | [_], _ => rfl
  have F12 := fun_mk (st := sNeed) l12 c12 k12
  have b12 := F12.binds (ps := ["web"]) fun _ _ _ _ _ _ us hl => match us, hl with | [_], _ => rfl
  have F13 := fun_mk (st := sShf) l13 c13 k13
  have b13 := F13.binds (ps := ["state", "some"]) fun _ _ _ _ _ _ us hl => match us, hl with | [_, _], _ => rfl
  have F14 := fun_mk (st := sWE) l14 c14 k14
  have b14 := F14.binds (ps := ["state", "here", "to", "calls", "labels", "low"]) fun _ _ _ _ _ _ us hl => match us, hl with | [_, _, _, _, _, _], _ => rfl
  have F15 := fun_mk (st := sWN) l15 c15 k15
  have b15 := F15.binds (ps := ["state", "at", "many", "labels", "low"]) fun _ _ _ _ _ _ us hl => match us, hl with | [_, _, _, _, _], _ => rfl
  have F16 := fun_mk (st := sWW) l16 c16 k16
  have b16 := F16.binds (ps := ["state", "low"]) fun _ _ _ _ _ _ us hl => match us, hl with | [_, _], _ => rfl
  have F17 := fun_mk (st := sSum) l17 c17 k17
  have b17 := F17.binds (ps := ["one", "other", "times"]) fun _ _ _ _ _ _ us hl => match us, hl with | [_, _, _], _ => rfl
  have F18 := fun_mk (st := sOwn) l18 c18 k18
  have b18 := F18.binds (ps := ["web", "edge"]) fun _ _ _ _ _ _ us hl => match us, hl with | [_, _], _ => rfl
  have F19 := fun_mk (st := sRd) l19 c19 k19
  have b19 := F19.binds (ps := ["web"]) fun _ _ _ _ _ _ us hl => match us, hl with | [_], _ => rfl
  have F20 := fun_mk (st := sEI) l20 c20 k20
  have b20 := F20.binds (ps := ["self", "net", "at", "told", "starts"]) fun _ _ _ _ _ _ us hl => match us, hl with | [_, _, _, _, _], _ => rfl
  have F21 := fun_mk (st := sSN) l21 c21 k21
  have b21 := F21.binds (ps := ["self"]) fun _ _ _ _ _ _ us hl => match us, hl with | [_], _ => rfl
  have F22 := fun_mk (st := sIU) l22 c22 k22
  have b22 := F22.binds (ps := ["self", "spot"]) fun _ _ _ _ _ _ us hl => match us, hl with | [_, _], _ => rfl
  have F23 := fun_mk (st := sIF) l23 c23 k23
  have b23 := F23.binds (ps := ["self", "spot"]) fun _ _ _ _ _ _ us hl => match us, hl with | [_, _], _ => rfl
  have F24 := fun_mk (st := sIO) l24 c24 k24
  have b24 := F24.binds (ps := ["self", "edge"]) fun _ _ _ _ _ _ us hl => match us, hl with | [_, _], _ => rfl
  have F25 := fun_mk (st := sFi) l25 c25 k25
  have b25 := F25.binds (ps := ["self"]) fun _ _ _ _ _ _ us hl => match us, hl with | [_], _ => rfl
  have F26 := fun_mk (st := sRe) l26 c26 k26
  have b26 := F26.binds (ps := ["self"]) fun _ _ _ _ _ _ us hl => match us, hl with | [_], _ => rfl
  have F27 := fun_mk (st := sCI) l27 c27 k27
  have b27 := F27.binds (ps := ["self", "web"]) fun _ _ _ _ _ _ us hl => match us, hl with | [_, _], _ => rfl
  have F28 := fun_mk (st := sUs) l28 c28 k28
  have b28 := F28.binds (ps := ["web"]) fun _ _ _ _ _ _ us hl => match us, hl with | [_], _ => rfl
  have F29 := fun_mk (st := sBe) l29 c29 k29
  have b29 := F29.binds (ps := ["value", "low", "high"]) fun _ _ _ _ _ _ us hl => match us, hl with | [_, _, _], _ => rfl
  have F30 := fun_mk (st := sER) l30 c30 k30
  have b30 := F30.binds (ps := ["edge", "labels", "many", "places"]) fun _ _ _ _ _ _ us hl => match us, hl with | [_, _, _, _], _ => rfl
  have F31 := fun_mk (st := sWR) l31 c31 k31
  have b31 := F31.binds (ps := ["web"]) fun _ _ _ _ _ _ us hl => match us, hl with | [_], _ => rfl
  have F32 := fun_mk (st := sGo) l32 c32 k32
  have b32 := F32.binds (ps := ["web", "roads", "pair"]) fun _ _ _ _ _ _ us hl => match us, hl with | [_, _, _], _ => rfl
  have F33 := fun_mk (st := sUd) l33 c33 k33
  have b33 := F33.binds (ps := ["web", "roads"]) fun _ _ _ _ _ _ us hl => match us, hl with | [_, _], _ => rfl
  have F34 := fun_mk (st := sSg) l34 c34 k34
  have b34 := F34.binds (ps := ["state", "item"]) fun _ _ _ _ _ _ us hl => match us, hl with | [_, _], _ => rfl
  have F35 := fun_mk (st := sBn) l35 c35 k35
  have b35 := F35.binds (ps := ["state", "thing"]) fun _ _ _ _ _ _ us hl => match us, hl with | [_, _], _ => rfl
  have F36 := fun_mk (st := sBR) l36 c36 k36
  have b36 := F36.binds (ps := ["state"]) fun _ _ _ _ _ _ us hl => match us, hl with | [_], _ => rfl
  have F37 := fun_mk (st := sCgt) l37 c37 k37
  have b37 := F37.binds (ps := ["action"]) fun _ _ _ _ _ _ us hl => match us, hl with | [_], _ => rfl
  have F38 := fun_mk (st := sLaw) l38 c38 k38
  have b38 := F38.binds (ps := ["script"]) fun _ _ _ _ _ _ us hl => match us, hl with | [_], _ => rfl
  have g_MOST_BEATS : ∃ t, mg "MOST_BEATS" = some (.int (1000000000 : Int) t) := ⟨_, PySem.W.mg_of X G v_MOST_BEATS⟩
  have g_MOST_EDGE_LABELS : ∃ t, mg "MOST_EDGE_LABELS" = some (.int (8 : Int) t) := ⟨_, PySem.W.mg_of X G v_MOST_EDGE_LABELS⟩
  have g_MOST_LABELS : ∃ t, mg "MOST_LABELS" = some (.int (4000 : Int) t) := ⟨_, PySem.W.mg_of X G v_MOST_LABELS⟩
  have g_MOST_NETS : ∃ t, mg "MOST_NETS" = some (.int (400 : Int) t) := ⟨_, PySem.W.mg_of X G v_MOST_NETS⟩
  have g_MOST_PLACES : ∃ t, mg "MOST_PLACES" = some (.int (4000 : Int) t) := ⟨_, PySem.W.mg_of X G v_MOST_PLACES⟩
  have g_MOST_EDGES : ∃ t, mg "MOST_EDGES" = some (.int (8000 : Int) t) := ⟨_, PySem.W.mg_of X G v_MOST_EDGES⟩
  have TP : MgP K mg f5 := ⟨(PySem.W.mg_of X G a5), k5, (PySem.W.mg_none_of X G z_isinstance), (PySem.W.mg_none_of X G z_len), (PySem.W.mg_none_of X G z_int), (PySem.W.mg_none_of X G z_bool), (PySem.W.mg_none_of X G z_tuple)⟩
  have B : Bn mg := ⟨(PySem.W.mg_none_of X G z_isinstance), (PySem.W.mg_none_of X G z_len), (PySem.W.mg_none_of X G z_str), (PySem.W.mg_none_of X G z_int), (PySem.W.mg_none_of X G z_bool), (PySem.W.mg_none_of X G z_tuple), (PySem.W.mg_none_of X G z_list), (PySem.W.mg_none_of X G z_all), (PySem.W.mg_none_of X G z_range), (PySem.W.mg_none_of X G z_min), (PySem.W.mg_none_of X G z_zip), (PySem.W.mg_none_of X G z_enumerate)⟩
  have TS : MgS K mg f1 f2 := ⟨(PySem.W.mg_none_of X G z_int), (PySem.W.mg_none_of X G z_len), (PySem.W.mg_of X G a1), k1, (PySem.W.mg_of X G a2), k2⟩
  have R_BadWeb : Er K mg "BadWeb" E1 := ⟨PySem.W.mg_of X G aE1, xE1, kE1, sBE1, tE1⟩
  have K_BadWeb : Ek K mg "BadWeb" CE E1 := ⟨PySem.W.mg_of X G aE1, exm_of sE iE tE sEE1, ⟨gE1, ggE1, sBE1, hdE1, clE1, spO, tkO, mrE1⟩⟩
  have clCED : ClA K CED eNames := ⟨⟨pgCED, hdCED, poCED, saCED⟩, fun f hf => by
    rcases List.mem_cons.mp hf with rfl | hf
    · exact n0CED
    rcases List.mem_cons.mp hf with rfl | hf
    · exact n1CED
    rcases List.mem_cons.mp hf with rfl | hf
    · exact n2CED
    rcases List.mem_cons.mp hf with rfl | hf
    · exact n3CED
    rcases List.mem_cons.mp hf with rfl | hf
    · exact n4CED
    rcases List.mem_cons.mp hf with rfl | hf
    · exact n5CED
    rcases List.mem_cons.mp hf with rfl | hf
    · exact n6CED
    rcases List.mem_cons.mp hf with rfl | hf
    · exact n7CED
    cases hf⟩
  have MCED : Mk K CED f20 := ⟨mkCED, a20, fn20, kCED⟩
  have mCED_spots_needed : Meth K CED "spots_needed" f21 := ⟨a21, fn21, k21⟩
  have clCHT : ClA K CHT cNames := ⟨⟨pgCHT, hdCHT, poCHT, saCHT⟩, fun f hf => by
    rcases List.mem_cons.mp hf with rfl | hf
    · exact n0CHT
    rcases List.mem_cons.mp hf with rfl | hf
    · exact n1CHT
    rcases List.mem_cons.mp hf with rfl | hf
    · exact n2CHT
    rcases List.mem_cons.mp hf with rfl | hf
    · exact n3CHT
    rcases List.mem_cons.mp hf with rfl | hf
    · exact n4CHT
    rcases List.mem_cons.mp hf with rfl | hf
    · exact n5CHT
    rcases List.mem_cons.mp hf with rfl | hf
    · exact n6CHT
    rcases List.mem_cons.mp hf with rfl | hf
    · exact n7CHT
    rcases List.mem_cons.mp hf with rfl | hf
    · exact n8CHT
    rcases List.mem_cons.mp hf with rfl | hf
    · exact n9CHT
    rcases List.mem_cons.mp hf with rfl | hf
    · exact n10CHT
    cases hf⟩
  have mCHT_is_useful : Meth K CHT "is_useful" f22 := ⟨a22, fn22, k22⟩
  have mCHT_is_finished : Meth K CHT "is_finished" f23 := ⟨a23, fn23, k23⟩
  have mCHT_is_open : Meth K CHT "is_open" f24 := ⟨a24, fn24, k24⟩
  have mCHT_finish : Meth K CHT "finish" f25 := ⟨a25, fn25, k25⟩
  have mCHT_reach : Meth K CHT "reach" f26 := ⟨a26, fn26, k26⟩
  have MCHT : Mk K CHT f27 := ⟨mkCHT, a27, fn27, kCHT⟩
  have HK : ChK K CHT _ _ _ _ _ := ⟨clCHT, mCHT_is_useful, mCHT_is_finished, mCHT_is_open, mCHT_finish, mCHT_reach⟩
  have TC : MgC mg K CE f37 := ⟨(PySem.W.mg_of X G a37), k37, PySem.W.mg_of X G aCE⟩
  refine ⟨[(cL, T1)], fun p hp => ?_, fun p hp => ?_, fun p hp => ?_, fun s a ns hl _ base H hTB e0 hT hS => ?_⟩
  · rw [List.mem_singleton.mp hp]
    exact hTT1
  · rw [List.mem_singleton.mp hp]
    exact npT1
  · rw [List.mem_singleton.mp hp]
    exact PySem.W.codeHd_of_K X hdrT1
  · have G__law_mixed := ok_mix (P := l.prog) (w := w) (mg := mg) (base := base) F1 TS
    have G__law_draw := ok_drw (P := l.prog) (w := w) (mg := mg) (base := base) F2 TS F1 b1
    have G__law_pick := ok_pck (P := l.prog) (w := w) (mg := mg) (base := base) F3 TS F1 b1 F2 b2
    have G__law_begun := ok_beg (P := l.prog) (w := w) (mg := mg) (base := base) F4 (PySem.W.mg_none_of X G z_abs)
    have G_is_whole := ok_whl (P := l.prog) (w := w) (mg := mg) (base := base) F5 TP
    have G_is_within := ok_win (P := l.prog) (w := w) (mg := mg) (base := base) F6 TP F5 b5
    have G_is_tuple_of := ok_tof (P := l.prog) (w := w) (mg := mg) (base := base) F7 TP
    have G_is_tuple_within := ok_tin (P := l.prog) (w := w) (mg := mg) (base := base) F8 TP
    have G__is_head := ok_hd (P := l.prog) (w := w) (mg := mg) (base := base) F9 B ⟨f7, _, G_is_tuple_of, (PySem.W.mg_of X G a7), k7, b7⟩ ⟨f5, _, G_is_whole, (PySem.W.mg_of X G a5), k5, b5⟩
    have G__is_edge := ok_ed (P := l.prog) (w := w) (mg := mg) (base := base) F10 B ⟨f7, _, G_is_tuple_of, (PySem.W.mg_of X G a7), k7, b7⟩ ⟨f8, _, G_is_tuple_within, (PySem.W.mg_of X G a8), k8, b8⟩ ⟨f6, _, G_is_within, (PySem.W.mg_of X G a6), k6, b6⟩ g_MOST_BEATS g_MOST_EDGE_LABELS
    have G_is_web := ok_web (P := l.prog) (w := w) (mg := mg) (base := base) F11 B (PySem.W.mg_none_of X G z_sum) ⟨f7, _, G_is_tuple_of, (PySem.W.mg_of X G a7), k7, b7⟩ ⟨f8, _, G_is_tuple_within, (PySem.W.mg_of X G a8), k8, b8⟩ ⟨f6, _, G_is_within, (PySem.W.mg_of X G a6), k6, b6⟩ ⟨f9, _, G__is_head, (PySem.W.mg_of X G a9), k9, b9⟩ ⟨f10, _, G__is_edge, (PySem.W.mg_of X G a10), k10, b10⟩ g_MOST_LABELS g_MOST_NETS g_MOST_PLACES g_MOST_EDGES
    have G_need_web := ok_need (P := l.prog) (w := w) (mg := mg) (base := base) F12 R_BadWeb ⟨f11, _, G_is_web, (PySem.W.mg_of X G a11), k11, b11⟩
    have G__law_shuffled := ok_shf (P := l.prog) (w := w) (mg := mg) (base := base) F13 B ⟨f2, _, G__law_draw, (PySem.W.mg_of X G a2), k2, b2⟩
    have G__law_wb_edge := ok_we (P := l.prog) (w := w) (mg := mg) (base := base) F14 B ⟨f2, _, G__law_draw, (PySem.W.mg_of X G a2), k2, b2⟩ ⟨f3, _, G__law_pick, (PySem.W.mg_of X G a3), k3, b3⟩
    have G__law_wb_net := ok_wn (P := l.prog) (w := w) (mg := mg) (base := base) F15 B ⟨f2, _, G__law_draw, (PySem.W.mg_of X G a2), k2, b2⟩ ⟨f3, _, G__law_pick, (PySem.W.mg_of X G a3), k3, b3⟩ ⟨f14, _, G__law_wb_edge, (PySem.W.mg_of X G a14), k14, b14⟩ ⟨f13, _, G__law_shuffled, (PySem.W.mg_of X G a13), k13, b13⟩
    have G__law_wb_web := ok_ww (P := l.prog) (w := w) (mg := mg) (base := base) F16 B ⟨f3, _, G__law_pick, (PySem.W.mg_of X G a3), k3, b3⟩ ⟨f15, _, G__law_wb_net, (PySem.W.mg_of X G a15), k15, b15⟩
    have G__law_wb_sum := ok_sum (P := l.prog) (w := w) (mg := mg) (base := base) F17 B
    have G__law_wb_own := ok_own (P := l.prog) (w := w) (mg := mg) (base := base) F18 B
    have G__law_wb_roads := ok_rd (P := l.prog) (w := w) (mg := mg) (base := base) F19 B ⟨f17, _, G__law_wb_sum, (PySem.W.mg_of X G a17), k17, b17⟩ ⟨f18, _, G__law_wb_own, (PySem.W.mg_of X G a18), k18, b18⟩
    have G_Edge___init__ := ok_ei (P := l.prog) (w := w) (mg := mg) (base := base) F20 clCED
    have G_Edge_spots_needed := ok_sn (P := l.prog) (w := w) (mg := mg) (base := base) F21 clCED
    have G_Chart_is_useful := ok_iu (P := l.prog) (w := w) (mg := mg) (base := base) F22 HK
    have G_Chart_is_finished := ok_if (P := l.prog) (w := w) (mg := mg) (base := base) F23 HK
    have G_Chart_is_open := ok_io (P := l.prog) (w := w) (mg := mg) (base := base) F24 B HK clCED mCED_spots_needed G_Chart_is_finished b23 G_Edge_spots_needed b21
    have G_Chart_finish := ok_fi (P := l.prog) (w := w) (mg := mg) (base := base) F25 B HK clCED mCED_spots_needed G_Edge_spots_needed b21
    have G_Chart_reach := ok_re (P := l.prog) (w := w) (mg := mg) (base := base) F26 B HK clCED G_Chart_is_open b24
    have G_Chart___init__ := ok_ci (P := l.prog) (w := w) (mg := mg) (base := base) F27 B HK clCED (PySem.W.mg_of X G aCED) MCED G_Chart_is_open b24 G_Chart_is_finished b23 G_Chart_finish b25 G_Chart_reach b26 G_Edge___init__ b20
    have G_useful := ok_us (P := l.prog) (w := w) (mg := mg) (base := base) F28 B ⟨f12, _, G_need_web, (PySem.W.mg_of X G a12), k12, b12⟩ HK neCHTCED (PySem.W.mg_of X G aCHT) MCHT G_Chart___init__ b27 G_Chart_is_useful b22
    have G__law_between := ok_be (P := l.prog) (w := w) (mg := mg) (base := base) F29 B
    have G__law_edge_right := ok_er (P := l.prog) (w := w) (mg := mg) (base := base) F30 B ⟨f29, _, G__law_between, (PySem.W.mg_of X G a29), k29, b29⟩
    have G__law_web_right := ok_wr (P := l.prog) (w := w) (mg := mg) (base := base) F31 B (PySem.W.mg_none_of X G z_sum) ⟨f29, _, G__law_between, (PySem.W.mg_of X G a29), k29, b29⟩ ⟨f30, _, G__law_edge_right, (PySem.W.mg_of X G a30), k30, b30⟩
    have G__law_wb_going := ok_go (P := l.prog) (w := w) (mg := mg) (base := base) F32 B
    have G__law_wb_used := ok_ud (P := l.prog) (w := w) (mg := mg) (base := base) F33 B ⟨f32, _, G__law_wb_going, (PySem.W.mg_of X G a32), k32, b32⟩
    have G__law_strange := ok_sg (P := l.prog) (w := w) (mg := mg) (base := base) F34 B ⟨f29, _, G__law_between, (PySem.W.mg_of X G a29), k29, b29⟩ ⟨f3, _, G__law_pick, (PySem.W.mg_of X G a3), k3, b3⟩
    have G__law_bent := ok_bn (P := l.prog) (w := w) (mg := mg) (base := base) F35 B ⟨f2, _, G__law_draw, (PySem.W.mg_of X G a2), k2, b2⟩ ⟨f34, _, G__law_strange, (PySem.W.mg_of X G a34), k34, b34⟩ (PySem.W.mg_of X G a35) k35 b35 6 (by decide)
    have G__law_bounds_right := ok_br (P := l.prog) (w := w) (mg := mg) (base := base) F36 B (PySem.W.mg_none_of X G z_repr) ⟨f2, _, G__law_draw, (PySem.W.mg_of X G a2), k2, b2⟩ ⟨f11, _, G_is_web, (PySem.W.mg_of X G a11), k11, b11⟩
    have kb_useful : KBinds K (PySem.W.fnOf "useful" "useful" (defArgs sUs) (defBody sUs) (defScope sUs) .none kV28 dc28 pm28 an28 cd28 ct28) ["web"] ["web"] (fun us ws => us ++ ws) (fun us ws => us ++ ws) :=
      ⟨fun s us ws _ hl => match us, ws, hl with | [], [_], _ => .of_eq rfl | [_], [], _ => .of_eq rfl, fun r1 r2 => paired_app r1 r2⟩
    have kb_is_web : KBinds K (PySem.W.fnOf "is_web" "is_web" (defArgs sWeb) (defBody sWeb) (defScope sWeb) .none kV11 dc11 pm11 an11 cd11 ct11) ["value"] ["value"] (fun us ws => us ++ ws) (fun us ws => us ++ ws) :=
      ⟨fun s us ws _ hl => match us, ws, hl with | [], [_], _ => .of_eq rfl | [_], [], _ => .of_eq rfl, fun r1 r2 => paired_app r1 r2⟩
    exact law_run l38 c38 l37 c37 (Binds.all fun us hl => match us, hl with | [_], _ => rfl) B (PySem.W.mg_none_of X G z_repr) TC K_BadWeb (hTB _ (List.mem_cons_self ..)) ⟨f4, _, G__law_begun, (PySem.W.mg_of X G a4), k4, b4⟩ ⟨f16, _, G__law_wb_web, (PySem.W.mg_of X G a16), k16, b16⟩ ⟨f19, _, G__law_wb_roads, (PySem.W.mg_of X G a19), k19, b19⟩ ⟨f33, _, G__law_wb_used, (PySem.W.mg_of X G a33), k33, b33⟩ G_useful (PySem.W.mg_of X G a28) k28 b28 kb_useful G_is_web (PySem.W.mg_of X G a11) k11 b11 kb_is_web ⟨f35, _, G__law_bent, (PySem.W.mg_of X G a35), k35, b35⟩ ⟨f31, _, G__law_web_right, (PySem.W.mg_of X G a31), k31, b31⟩ ⟨f2, _, G__law_draw, (PySem.W.mg_of X G a2), k2, b2⟩ ⟨f36, _, G__law_bounds_right, (PySem.W.mg_of X G a36), k36, b36⟩ e0 (hT _ (List.mem_cons_self ..)) hS hl
end K65

open PySem PySem.W PyProof.Rows
set_option Elab.async false
set_option pp.maxSteps 700
set_option maxRecDepth 100000 in
set_option maxHeartbeats 0 in
theorem PySem.Challenge.cw_labelclocks_k65_webs_and_useful_places_holds : PySem.Challenge.rw_labelclocks_k65_webs_and_useful_places.Holds := by
  w_on; o_law; k_head; (case hw => w_witness2)
  k_fill
  refine GD.walk_G (l := PySem.Challenge.rw_labelclocks_k65_webs_and_useful_places) (n := 63) rfl (by decide) rfl (fun w h Y => PySem.W.km_in_of Y) ?F
  case F =>
    intro w mg fa h Y KX G hmg
    have hT8 := PySem.W.km_tabs_of Y
    refine' K65.all_mk KX G hmg ?a1 ?l1 ?c1 ?k1 ?a2 ?l2 ?c2 ?k2 ?a3 ?l3 ?c3 ?k3 ?a4 ?l4 ?c4 ?k4 ?a5 ?l5 ?c5 ?k5 ?a6 ?l6 ?c6 ?k6 ?a7 ?l7 ?c7 ?k7 ?a8 ?l8 ?c8 ?k8 ?a9 ?l9 ?c9 ?k9 ?a10 ?l10 ?c10 ?k10 ?a11 ?l11 ?c11 ?k11 ?a12 ?l12 ?c12 ?k12 ?a13 ?l13 ?c13 ?k13 ?a14 ?l14 ?c14 ?k14 ?a15 ?l15 ?c15 ?k15 ?a16 ?l16 ?c16 ?k16 ?a17 ?l17 ?c17 ?k17 ?a18 ?l18 ?c18 ?k18 ?a19 ?l19 ?c19 ?k19 ?a20 ?l20 ?c20 ?k20 ?a21 ?l21 ?c21 ?k21 ?a22 ?l22 ?c22 ?k22 ?a23 ?l23 ?c23 ?k23 ?a24 ?l24 ?c24 ?k24 ?a25 ?l25 ?c25 ?k25 ?a26 ?l26 ?c26 ?k26 ?a27 ?l27 ?c27 ?k27 ?a28 ?l28 ?c28 ?k28 ?a29 ?l29 ?c29 ?k29 ?a30 ?l30 ?c30 ?k30 ?a31 ?l31 ?c31 ?k31 ?a32 ?l32 ?c32 ?k32 ?a33 ?l33 ?c33 ?k33 ?a34 ?l34 ?c34 ?k34 ?a35 ?l35 ?c35 ?k35 ?a36 ?l36 ?c36 ?k36 ?a37 ?l37 ?c37 ?k37 ?a38 ?l38 ?c38 ?k38 ?z_isinstance ?z_len ?z_str ?z_int ?z_bool ?z_tuple ?z_list ?z_all ?z_range ?z_min ?z_zip ?z_enumerate ?z_abs ?z_sum ?z_repr ?v_MOST_BEATS ?e_MOST_BEATS ?v_MOST_EDGE_LABELS ?e_MOST_EDGE_LABELS ?v_MOST_LABELS ?e_MOST_LABELS ?v_MOST_NETS ?e_MOST_NETS ?v_MOST_PLACES ?e_MOST_PLACES ?v_MOST_EDGES ?e_MOST_EDGES ?aCE ?sE ?iE ?tE ?spO ?tkO ?aE1 ?kE1 ?xE1 ?sBE1 ?tE1 ?sEE1 ?gE1 ?ggE1 ?hdE1 ?clE1 ?mrE1 ?aCED ?kCED ?pgCED ?hdCED ?poCED ?saCED ?mkCED ?n0CED ?n1CED ?n2CED ?n3CED ?n4CED ?n5CED ?n6CED ?n7CED ?fn20 ?fn21 ?aCHT ?kCHT ?pgCHT ?hdCHT ?poCHT ?saCHT ?mkCHT ?n0CHT ?n1CHT ?n2CHT ?n3CHT ?n4CHT ?n5CHT ?n6CHT ?n7CHT ?n8CHT ?n9CHT ?n10CHT ?fn22 ?fn23 ?fn24 ?fn25 ?fn26 ?fn27 ?neCHTCED ?hdrT1 ?npT1 ?hTT1
    (case aCE => k_is)
    (case aE1 => k_is)
    (case aCED => k_is)
    (case aCHT => k_is)
    (case a1 => k_is)
    (case l1 => k_is)
    (case c1 => k_is)
    (case k1 => k_is)
    (case a2 => k_is)
    (case l2 => k_is)
    (case c2 => k_is)
    (case k2 => k_is)
    (case a3 => k_is)
    (case l3 => k_is)
    (case c3 => k_is)
    (case k3 => k_is)
    (case a4 => k_is)
    (case l4 => k_is)
    (case c4 => k_is)
    (case k4 => k_is)
    (case a5 => k_is)
    (case l5 => k_is)
    (case c5 => k_is)
    (case k5 => k_is)
    (case a6 => k_is)
    (case l6 => k_is)
    (case c6 => k_is)
    (case k6 => k_is)
    (case a7 => k_is)
    (case l7 => k_is)
    (case c7 => k_is)
    (case k7 => k_is)
    (case a8 => k_is)
    (case l8 => k_is)
    (case c8 => k_is)
    (case k8 => k_is)
    (case a9 => k_is)
    (case l9 => k_is)
    (case c9 => k_is)
    (case k9 => k_is)
    (case a10 => k_is)
    (case l10 => k_is)
    (case c10 => k_is)
    (case k10 => k_is)
    (case a11 => k_is)
    (case l11 => k_is)
    (case c11 => k_is)
    (case k11 => k_is)
    (case a12 => k_is)
    (case l12 => k_is)
    (case c12 => k_is)
    (case k12 => k_is)
    (case a13 => k_is)
    (case l13 => k_is)
    (case c13 => k_is)
    (case k13 => k_is)
    (case a14 => k_is)
    (case l14 => k_is)
    (case c14 => k_is)
    (case k14 => k_is)
    (case a15 => k_is)
    (case l15 => k_is)
    (case c15 => k_is)
    (case k15 => k_is)
    (case a16 => k_is)
    (case l16 => k_is)
    (case c16 => k_is)
    (case k16 => k_is)
    (case a17 => k_is)
    (case l17 => k_is)
    (case c17 => k_is)
    (case k17 => k_is)
    (case a18 => k_is)
    (case l18 => k_is)
    (case c18 => k_is)
    (case k18 => k_is)
    (case a19 => k_is)
    (case l19 => k_is)
    (case c19 => k_is)
    (case k19 => k_is)
    (case a20 => k_is)
    (case l20 => k_is)
    (case c20 => k_is)
    (case k20 => k_is)
    (case a21 => k_is)
    (case l21 => k_is)
    (case c21 => k_is)
    (case k21 => k_is)
    (case a22 => k_is)
    (case l22 => k_is)
    (case c22 => k_is)
    (case k22 => k_is)
    (case a23 => k_is)
    (case l23 => k_is)
    (case c23 => k_is)
    (case k23 => k_is)
    (case a24 => k_is)
    (case l24 => k_is)
    (case c24 => k_is)
    (case k24 => k_is)
    (case a25 => k_is)
    (case l25 => k_is)
    (case c25 => k_is)
    (case k25 => k_is)
    (case a26 => k_is)
    (case l26 => k_is)
    (case c26 => k_is)
    (case k26 => k_is)
    (case a27 => k_is)
    (case l27 => k_is)
    (case c27 => k_is)
    (case k27 => k_is)
    (case a28 => k_is)
    (case l28 => k_is)
    (case c28 => k_is)
    (case k28 => k_is)
    (case a29 => k_is)
    (case l29 => k_is)
    (case c29 => k_is)
    (case k29 => k_is)
    (case a30 => k_is)
    (case l30 => k_is)
    (case c30 => k_is)
    (case k30 => k_is)
    (case a31 => k_is)
    (case l31 => k_is)
    (case c31 => k_is)
    (case k31 => k_is)
    (case a32 => k_is)
    (case l32 => k_is)
    (case c32 => k_is)
    (case k32 => k_is)
    (case a33 => k_is)
    (case l33 => k_is)
    (case c33 => k_is)
    (case k33 => k_is)
    (case a34 => k_is)
    (case l34 => k_is)
    (case c34 => k_is)
    (case k34 => k_is)
    (case a35 => k_is)
    (case l35 => k_is)
    (case c35 => k_is)
    (case k35 => k_is)
    (case a36 => k_is)
    (case l36 => k_is)
    (case c36 => k_is)
    (case k36 => k_is)
    (case a37 => k_is)
    (case l37 => k_is)
    (case c37 => k_is)
    (case k37 => k_is)
    (case a38 => k_is)
    (case l38 => k_is)
    (case c38 => k_is)
    (case k38 => k_is)
    (case z_isinstance => k_is)
    (case z_len => k_is)
    (case z_str => k_is)
    (case z_int => k_is)
    (case z_bool => k_is)
    (case z_tuple => k_is)
    (case z_list => k_is)
    (case z_all => k_is)
    (case z_range => k_is)
    (case z_min => k_is)
    (case z_zip => k_is)
    (case z_enumerate => k_is)
    (case z_abs => k_is)
    (case z_sum => k_is)
    (case z_repr => k_is)
    (case v_MOST_BEATS => k_is)
    (case e_MOST_BEATS => decide +kernel)
    (case v_MOST_EDGE_LABELS => k_is)
    (case e_MOST_EDGE_LABELS => decide +kernel)
    (case v_MOST_LABELS => k_is)
    (case e_MOST_LABELS => decide +kernel)
    (case v_MOST_NETS => k_is)
    (case e_MOST_NETS => decide +kernel)
    (case v_MOST_PLACES => k_is)
    (case e_MOST_PLACES => decide +kernel)
    (case v_MOST_EDGES => k_is)
    (case e_MOST_EDGES => decide +kernel)
    (case sE => k_is)
    (case iE => k_is)
    (case tE => k_is)
    (case spO => k_is)
    (case tkO => k_is)
    (case kE1 => k_is)
    (case xE1 => k_exc)
    (case sBE1 => k_is)
    (case tE1 => k_is)
    (case sEE1 => k_is)
    (case gE1 => k_is)
    (case ggE1 => k_is)
    (case hdE1 => k_is)
    (case clE1 => k_is)
    (case mrE1 => k_is)
    (case kCED => k_is)
    (case pgCED => k_is)
    (case hdCED => k_is)
    (case poCED => k_is)
    (case saCED => k_is)
    (case mkCED => k_is)
    (case n0CED => k_is)
    (case n1CED => k_is)
    (case n2CED => k_is)
    (case n3CED => k_is)
    (case n4CED => k_is)
    (case n5CED => k_is)
    (case n6CED => k_is)
    (case n7CED => k_is)
    (case fn20 => k_is)
    (case fn21 => k_is)
    (case kCHT => k_is)
    (case pgCHT => k_is)
    (case hdCHT => k_is)
    (case poCHT => k_is)
    (case saCHT => k_is)
    (case mkCHT => k_is)
    (case n0CHT => k_is)
    (case n1CHT => k_is)
    (case n2CHT => k_is)
    (case n3CHT => k_is)
    (case n4CHT => k_is)
    (case n5CHT => k_is)
    (case n6CHT => k_is)
    (case n7CHT => k_is)
    (case n8CHT => k_is)
    (case n9CHT => k_is)
    (case n10CHT => k_is)
    (case fn22 => k_is)
    (case fn23 => k_is)
    (case fn24 => k_is)
    (case fn25 => k_is)
    (case fn26 => k_is)
    (case fn27 => k_is)
    (case neCHTCED => decide +kernel)
    (case hTT1 => exact hT8 _ (List.mem_cons_self ..))
    (case hdrT1 => kernel_rfl)
    (case npT1 => kernel_rfl)

